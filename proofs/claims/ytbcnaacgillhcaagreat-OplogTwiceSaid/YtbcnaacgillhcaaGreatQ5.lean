/- operations inserted, one and more; logs: vectors, the same; vectors: what one has, and lacks; logs that can be gone through; what is missing; logs folded: what they are; the law OplogTwice; the layer does something; arguments that are opened. No condition. -/
import Derived.Test.YtbcnaacgillhcaaGreatQ4
import Derived.Test.YtbcnaacgillhcaaGreatRows
namespace Go.Proofs.YtbcnaacgillhcaaGreat
set_option linter.unusedVariables false
set_option linter.unusedSimpArgs false
open Go.RowKit
theorem sl51 : slE Tryz.prog 51 = some (30, 1, 8) := by kernel_rfl
theorem tw_lo {α : Type} {f : α → Bool} {l : List α} {k : Nat} (h : k < l.length) (hk : k < (l.takeWhile f).length) : f l[k] = true := by
  have e : (l.takeWhile f)[k] = l[k] := (List.takeWhile_prefix (l := l) f).getElem hk
  rw [← e]
  exact List.all_eq_true.1 (List.all_takeWhile (l := l) (p := f)) _ (List.getElem_mem _)
theorem tw_at {α : Type} {f : α → Bool} : ∀ {l : List α} (h : (l.takeWhile f).length < l.length), f (l[(l.takeWhile f).length]) = false
  | [], h => absurd h (by simp)
  | a :: l, h => by
    cases e : f a with
    | false => simp [List.takeWhile_cons, e]
    | true =>
      have e2 : (a :: l).takeWhile f = a :: l.takeWhile f := by rw [List.takeWhile_cons, e, if_pos rfl]
      have h2 : (l.takeWhile f).length < l.length := by rw [e2] at h; simpa using h
      have := tw_at h2
      simp only [e2, List.length_cons, List.getElem_cons_succ]
      exact this
theorem lessR_as {a b : I3} (h : lessR a b = true) : lessR b a = false := by
  rw [← Bool.not_eq_true]
  intro k
  rw [lessR_iff] at h k
  omega
theorem lessR_tr2 {o a b : I3} (h : lessR o a = true) (k : lessR b a = false) : lessR o b = true := by
  rw [← Bool.not_eq_true, lessR_iff] at k
  rw [lessR_iff] at h ⊢
  omega
def srtI (l : List OpM) : Prop := List.Pairwise (fun a b : OpM => lessR b.id a.id = false) l
def plI (l : List OpM) (o : OpM) : Nat := (l.takeWhile fun x => !lessR o.id x.id).length
theorem plI_le (l : List OpM) (o : OpM) : plI l o ≤ l.length := (List.takeWhile_prefix _).length_le
theorem plI_lo {l : List OpM} {o : OpM} {k : Nat} (h : k < l.length) (hk : k < plI l o) : lessR o.id (l[k]).id = false := by
  have := tw_lo (f := fun x : OpM => !lessR o.id x.id) h hk
  simpa using this
theorem plI_hi {l : List OpM} {o : OpM} (hs : srtI l) {k : Nat} (h : k < l.length) (hk : plI l o ≤ k) : lessR o.id (l[k]).id = true := by
  have hq : plI l o < l.length := by omega
  have h1 := tw_at (f := fun x : OpM => !lessR o.id x.id) hq
  have h2 : lessR o.id (l[plI l o]).id = true := by
    have h1' : (!lessR o.id (l[plI l o]).id) = false := h1
    simpa using h1'
  rcases Nat.lt_or_ge (plI l o) k with h5 | h5
  · exact lessR_tr2 h2 (List.pairwise_iff_getElem.1 hs _ _ hq h h5)
  · have e : k = plI l o := by omega
    subst e
    exact h2
theorem mem_take_get {α : Type} {l : List α} {p : Nat} {x : α} (h : x ∈ l.take p) : ∃ k, ∃ hk : k < l.length, k < p ∧ l[k] = x := by
  obtain ⟨k, hk, rfl⟩ := List.getElem_of_mem h
  rw [List.length_take] at hk
  exact ⟨k, by omega, by omega, by rw [List.getElem_take]⟩
theorem mem_drop_get {α : Type} {l : List α} {p : Nat} {x : α} (h : x ∈ l.drop p) : ∃ k, ∃ hk : k < l.length, p ≤ k ∧ l[k] = x := by
  obtain ⟨k, hk, rfl⟩ := List.getElem_of_mem h
  rw [List.length_drop] at hk
  exact ⟨p + k, by omega, by omega, by rw [List.getElem_drop]⟩
theorem srtI_ins {l : List OpM} {o : OpM} (hs : srtI l) : srtI (insL l o (plI l o)) := by
  unfold insL
  have hs' : List.Pairwise (fun a b : OpM => lessR b.id a.id = false) (l.take (plI l o) ++ l.drop (plI l o)) := by rw [List.take_append_drop]; exact hs
  obtain ⟨h1, h2, h3⟩ := List.pairwise_append.1 hs'
  refine List.pairwise_append.2 ⟨h1, .cons (fun y hy => ?_) h2, fun x hx y hy => ?_⟩
  · obtain ⟨k, hk, h4, rfl⟩ := mem_drop_get hy
    exact lessR_as (plI_hi hs hk h4)
  · obtain ⟨k, hk, h4, rfl⟩ := mem_take_get hx
    rcases List.mem_cons.1 hy with rfl | hy
    · exact plI_lo hk h4
    · exact h3 _ hx _ hy
theorem endE_srtI {fo : Nat} {l : List OpM} {s r : (Nat → I3) × I3} (h : endE fo s l = some r) : srtI l := (endE_pw h).1.imp fun h => lessR_as h
theorem endE_laOk {fo : Nat} : ∀ {l : List OpM} {s r : (Nat → I3) × I3}, endE fo s l = some r → laOk s.1 → laOk r.1
  | [], s, r, h, hk => by cases h; exact hk
  | a :: l, s, r, h, hk => by
    obtain ⟨s', h1, h2⟩ := endE_cons h
    obtain ⟨⟨h3, _⟩, rfl⟩ := stepE_inv h1
    exact endE_laOk h2 (laOk_up hk (opB_id h3))
theorem endR_ok {l : LogM} (h : logB l = true) : laOk (endR l).1 ∧ srtI l.ops ∧ srt l.ops ∧ idOk l.ops := by
  obtain ⟨h1, s, hs⟩ := logB_all h
  rw [endR_some h1 hs]
  exact ⟨endE_laOk hs (laOk_0 (by rw [Bool.and_eq_true] at h1; exact h1.2)), endE_srtI hs, endE_srt hs, endE_id hs⟩
def insE (la : Nat → I3) (o : OpM) : Int := if opB o = false then 220 else if o.id.q ≤ (la o.id.s.toNat).q then 5 else if o.id.q ≠ (la o.id.s.toNat).q + 1 then 231 else if o.id.t ≤ (la o.id.s.toNat).t then 241 else 0
def insR (l : LogM) (o : OpM) : LogM × Nat × Int := if logB l = true then (if insE (endR l).1 o = 0 then (insM l o (plI l.ops o), plI l.ops o, 0) else (⟨0, z9, []⟩, 0, insE (endR l).1 o)) else (⟨0, z9, []⟩, 0, 240)
def insS (st : LogM × (Nat → I3)) (o : OpM) : LogM × (Nat → I3) := if insE st.2 o = 0 then (insM st.1 o (plI st.1.ops o), upV st.2 o.id.s.toNat o.id) else st
def insA (st : LogM × (Nat → I3)) (l : List OpM) : LogM × (Nat → I3) := l.foldl insS st
def insEs (st : LogM × (Nat → I3)) : List OpM → List Int
  | [] => []
  | o :: l => insE st.2 o :: insEs (insS st o) l
theorem insA_step {st : LogM × (Nat → I3)} {l : List OpM} {k : Nat} (h : k < l.length) : insA st (l.take (k + 1)) = insS (insA st (l.take k)) l[k] := by
  unfold insA
  rw [List.take_succ_eq_append_getElem h, List.foldl_append]
  rfl
theorem insEs_app (st : LogM × (Nat → I3)) : ∀ (l r : List OpM), insEs st (l ++ r) = insEs st l ++ insEs (insA st l) r
  | l, r => by
    induction l generalizing st with
    | nil => rfl
    | cons a l ih => rw [List.cons_append, insEs, insEs, List.cons_append, ih]; rfl
theorem insEs_step {st : LogM × (Nat → I3)} {l : List OpM} {k : Nat} (h : k < l.length) : insEs st (l.take (k + 1)) = insEs st (l.take k) ++ [insE (insA st (l.take k)).2 l[k]] := by
  rw [List.take_succ_eq_append_getElem h, insEs_app]
  rfl
theorem insEs_len (st : LogM × (Nat → I3)) (l : List OpM) : (insEs st l).length = l.length := by
  induction l generalizing st with
  | nil => rfl
  | cons a l ih => rw [insEs, List.length_cons, List.length_cons, ih]
theorem insS_ok {st : LogM × (Nat → I3)} {o : OpM} (h : laOk st.2 ∧ srtI st.1.ops) : laOk (insS st o).2 ∧ srtI (insS st o).1.ops ∧ (insS st o).1.ops.length ≤ st.1.ops.length + 1 := by
  unfold insS
  split
  · rename_i he
    have hop : opB o = true := by
      unfold insE at he
      split at he
      · cases he
      · rename_i h; simpa using h
    refine ⟨laOk_up h.1 (opB_id hop), srtI_ins h.2, ?_⟩
    show (insL st.1.ops o _).length ≤ _
    unfold insL
    have := plI_le st.1.ops o
    simp; omega
  · exact ⟨h.1, h.2, Nat.le_succ _⟩
theorem insA_ok {st : LogM × (Nat → I3)} (h : laOk st.2 ∧ srtI st.1.ops) (l : List OpM) : laOk (insA st l).2 ∧ srtI (insA st l).1.ops ∧ (insA st l).1.ops.length ≤ st.1.ops.length + l.length := by
  induction l generalizing st with
  | nil => exact ⟨h.1, h.2, Nat.le_refl _⟩
  | cons a l ih =>
    obtain ⟨h1, h2, h3⟩ := insS_ok (o := a) h
    obtain ⟨k1, k2, k3⟩ := ih ⟨h1, h2⟩
    exact ⟨k1, k2, by rw [List.length_cons]; show (insA (insS st a) l).1.ops.length ≤ _; omega⟩
set_option maxRecDepth 4000 in
set_option maxHeartbeats 1000000 in
theorem Insert_ok (l : LogM) (o : OpM) (hb : logB l = true) (hl : l.ops.length ≤ 1000000) (hop : opB o = true) (h3 : o.id.q = ((endR l).1 o.id.s.toNat).q + 1) (h4 : ¬ o.id.t ≤ ((endR l).1 o.id.s.toNat).t) : DFun Tryz.prog 10 [.agg (logD l), .agg (opD o)] [] (.tup [.agg (logD (insM l o (plI l.ops o))), .val (.int .i64 (plI l.ops o : Int)), .val (.int .i64 0)]) [] := by
  refine dcalls_body (N := 19) 0 (by kernel_rfl) Tryz.func10 rfl rfl rfl (by simp only [fr0, Nat.zero_add, Nat.reduceAdd]; exact rfl) rfl fun s0 hs0 => ?_
  refine dbody_seq rfl hs0 ?_
  refine zah 4 (by simp only [holes, List.cons_append, List.nil_append]; exact rfl) ?_
  refine zac ?_
  refine walk_w rfl rfl rfl (op_boxam 0 rfl (ev1 rfl) rfl) (by simp only [upd, za, zaa]; exact rfl) ?_
  refine walk_w rfl rfl rfl (op_boxam 1 rfl (ev1 rfl) rfl) (by simp only [upd, za, zaa]; exact rfl) ?_
  refine walk_w rfl rfl rfl (op_alloc 2 rfl zr27 rfl) (by simp only [upd, za, zaa]; exact rfl) ?_
  refine zab rfl rfl rfl (zad (.inr rfl) (ev1 rfl)) ?_
  refine walk_w rfl rfl rfl (op_alloc 3 rfl zr30 rfl) (by simp only [upd, za, zaa]; exact rfl) ?_
  refine zae ?_
  refine dbody_defer (l0 := [_]) rfl rfl rfl rfl rfl hs0 ?_
  refine zab rfl rfl rfl (op_mkf rfl en (ec (ev1 rfl) en)) ?_
  refine zae ⟨_, _, _, 4, ev1 rfl, Nat.le_trans hs0 (by decide), rfl, ?_⟩
  have hs1 : s0.M.length ≤ 4 := Nat.le_trans hs0 (by decide)
  refine dbody_end rfl hs0 ?_
  refine zaf ?_
  refine zah 1 (by simp only [holes, List.cons_append, List.nil_append]; exact rfl) ?_
  refine zac ?_
  refine zab rfl rfl rfl (op_ldmw rfl tb27 (ev1 rfl) rfl rfl) ?_
  refine walk_w rfl rfl rfl (zai [] [] [4] rfl (ev1 rfl) (ec (ev1 rfl) en) rfl rfl (chOf_ok l hb hl) rfl rfl rfl rfl rfl rfl) (by simp only [upd, za, zaa]; exact rfl) ?_
  refine zab rfl rfl rfl (zad (.inr rfl) (ev1 rfl)) ?_
  refine zae ?_
  refine zaf ?_
  obtain ⟨k1, k2, k3, k4⟩ := endR_ok hb
  refine zac ?_
  refine zab rfl rfl rfl (zad (.inl rfl) (ev1 rfl)) ?_
  refine zab rfl rfl rfl (op_ldmw rfl tb44 (ev1 rfl) rfl rfl) ?_
  refine walk_w rfl rfl rfl (zai [4] [] [] rfl (ev1 rfl) (ec (ev1 rfl) (ec (ev1 rfl) en)) rfl rfl (ins_ok l (endR l).1 o k1 (plI l.ops o) hop h3 h4 hl (plI_le _ _) (fun k h1 h2 => plI_lo h1 h2) (fun k h1 h2 => plI_hi k2 h1 h2)) rfl rfl rfl rfl rfl rfl) (by simp only [upd, za, zaa]; exact rfl) ?_
  refine zab rfl rfl rfl (zad (.inr rfl) (ev1 rfl)) ?_
  refine zae ?_
  refine zaf ?_
  refine zac ?_
  refine zab rfl rfl rfl (zad (.inl rfl) (ev1 rfl)) ?_
  refine zab rfl rfl rfl (op_nc rfl (ev1 rfl) (fun s v h => by cases h; exact ⟨_, rfl⟩)) ?_
  refine zab rfl rfl rfl (op_fa rfl fo69_0 (ev1 rfl)) ?_
  refine zab rfl rfl rfl (op_ldmp rfl tb27 (ev1 rfl) rfl rfl rfl) ?_
  refine zab rfl rfl rfl (zad (.inl rfl) (ev1 rfl)) ?_
  refine walk_s rfl rfl (op_stam rfl tb27 (ev1 rfl) (ev1 rfl) rfl rfl rfl rfl) (by simp only [upd, za, zaa]; exact rfl) ?_
  refine zab rfl rfl rfl (zad (.inr rfl) (ev1 rfl)) ?_
  refine walk_s rfl rfl (op_stwi rfl tb30 (ev1 rfl) (ev1 rfl) rfl) (by simp only [upd, za, zaa]; exact rfl) ?_
  refine zae ?_
  refine dwp_ret ?_
  refine kdef (dturn_idle [3] [] rfl rfl (ins1_idle _) rfl rfl rfl rfl rfl) ?_
  refine kend0 (rs3 rfl (rv_mw tb27 rfl rfl rfl) (rv_t rfl) (rv_1 tb30 rfl rfl rfl)) rfl ?_
  rfl
set_option maxRecDepth 4000 in
set_option maxHeartbeats 1000000 in
theorem Insert_p1 (l : LogM) (o : OpM) (hb : logB l = true) (hl : l.ops.length ≤ 1000000) (hop : opB o = false) : DFun Tryz.prog 10 [.agg (logD l), .agg (opD o)] [] (.tup [.val (.agg #[.int .u64 0, .int .u64 0, .int .u64 0, .int .u64 0, .int .u64 0, .int .u64 0, .int .u64 0, .int .u64 0, .int .u64 0, .int .u64 0, .slice none 0 0]), .val (.int .i64 0), .val (.int .i64 220)]) [] := by
  refine dcalls_body (N := 19) 0 (by kernel_rfl) Tryz.func10 rfl rfl rfl (by simp only [fr0, Nat.zero_add, Nat.reduceAdd]; exact rfl) rfl fun s0 hs0 => ?_
  refine dbody_seq rfl hs0 ?_
  refine zah 4 (by simp only [holes, List.cons_append, List.nil_append]; exact rfl) ?_
  refine zac ?_
  refine walk_w rfl rfl rfl (op_boxam 0 rfl (ev1 rfl) rfl) (by simp only [upd, za, zaa]; exact rfl) ?_
  refine walk_w rfl rfl rfl (op_boxam 1 rfl (ev1 rfl) rfl) (by simp only [upd, za, zaa]; exact rfl) ?_
  refine walk_w rfl rfl rfl (op_alloc 2 rfl zr27 rfl) (by simp only [upd, za, zaa]; exact rfl) ?_
  refine zab rfl rfl rfl (zad (.inr rfl) (ev1 rfl)) ?_
  refine walk_w rfl rfl rfl (op_alloc 3 rfl zr30 rfl) (by simp only [upd, za, zaa]; exact rfl) ?_
  refine zae ?_
  refine dbody_defer (l0 := [_]) rfl rfl rfl rfl rfl hs0 ?_
  refine zab rfl rfl rfl (op_mkf rfl en (ec (ev1 rfl) en)) ?_
  refine zae ⟨_, _, _, 4, ev1 rfl, Nat.le_trans hs0 (by decide), rfl, ?_⟩
  have hs1 : s0.M.length ≤ 4 := Nat.le_trans hs0 (by decide)
  refine dbody_end rfl hs0 ?_
  refine zaf ?_
  refine zah 1 (by simp only [holes, List.cons_append, List.nil_append]; exact rfl) ?_
  refine zac ?_
  refine zab rfl rfl rfl (op_ldmw rfl tb27 (ev1 rfl) rfl rfl) ?_
  refine walk_w rfl rfl rfl (zai [] [] [4] rfl (ev1 rfl) (ec (ev1 rfl) en) rfl rfl (chOf_ok l hb hl) rfl rfl rfl rfl rfl rfl) (by simp only [upd, za, zaa]; exact rfl) ?_
  refine zab rfl rfl rfl (zad (.inr rfl) (ev1 rfl)) ?_
  refine zae ?_
  refine zaf ?_
  obtain ⟨k1, k2, k3, k4⟩ := endR_ok hb
  refine zac ?_
  refine zab rfl rfl rfl (zad (.inl rfl) (ev1 rfl)) ?_
  refine zab rfl rfl rfl (op_ldmw rfl tb44 (ev1 rfl) rfl rfl) ?_
  refine walk_p rfl (dop_callP [4] [] [] rfl (ev1 rfl) (ec (ev1 rfl) (ec (ev1 rfl) en)) rfl rfl (ins_p1 l (endR l).1 o k1 hop) rfl rfl rfl rfl rfl rfl) rfl ?_
  refine kdef (dturn_caught [3] [] rfl rfl rfl (ins1_caught _ _) rfl rfl rfl rfl rfl) ?_
  refine kend0 (rs3 rfl (rv_w tb27 rfl rfl rfl) (rv_t rfl) (rv_1 tb30 rfl rfl rfl)) rfl ?_
  rfl
set_option maxRecDepth 4000 in
set_option maxHeartbeats 1000000 in
theorem Insert_p2 (l : LogM) (o : OpM) (hb : logB l = true) (hl : l.ops.length ≤ 1000000) (hop : opB o = true) (h2 : o.id.q ≤ ((endR l).1 o.id.s.toNat).q) : DFun Tryz.prog 10 [.agg (logD l), .agg (opD o)] [] (.tup [.val (.agg #[.int .u64 0, .int .u64 0, .int .u64 0, .int .u64 0, .int .u64 0, .int .u64 0, .int .u64 0, .int .u64 0, .int .u64 0, .int .u64 0, .slice none 0 0]), .val (.int .i64 0), .val (.int .i64 5)]) [] := by
  refine dcalls_body (N := 19) 0 (by kernel_rfl) Tryz.func10 rfl rfl rfl (by simp only [fr0, Nat.zero_add, Nat.reduceAdd]; exact rfl) rfl fun s0 hs0 => ?_
  refine dbody_seq rfl hs0 ?_
  refine zah 4 (by simp only [holes, List.cons_append, List.nil_append]; exact rfl) ?_
  refine zac ?_
  refine walk_w rfl rfl rfl (op_boxam 0 rfl (ev1 rfl) rfl) (by simp only [upd, za, zaa]; exact rfl) ?_
  refine walk_w rfl rfl rfl (op_boxam 1 rfl (ev1 rfl) rfl) (by simp only [upd, za, zaa]; exact rfl) ?_
  refine walk_w rfl rfl rfl (op_alloc 2 rfl zr27 rfl) (by simp only [upd, za, zaa]; exact rfl) ?_
  refine zab rfl rfl rfl (zad (.inr rfl) (ev1 rfl)) ?_
  refine walk_w rfl rfl rfl (op_alloc 3 rfl zr30 rfl) (by simp only [upd, za, zaa]; exact rfl) ?_
  refine zae ?_
  refine dbody_defer (l0 := [_]) rfl rfl rfl rfl rfl hs0 ?_
  refine zab rfl rfl rfl (op_mkf rfl en (ec (ev1 rfl) en)) ?_
  refine zae ⟨_, _, _, 4, ev1 rfl, Nat.le_trans hs0 (by decide), rfl, ?_⟩
  have hs1 : s0.M.length ≤ 4 := Nat.le_trans hs0 (by decide)
  refine dbody_end rfl hs0 ?_
  refine zaf ?_
  refine zah 1 (by simp only [holes, List.cons_append, List.nil_append]; exact rfl) ?_
  refine zac ?_
  refine zab rfl rfl rfl (op_ldmw rfl tb27 (ev1 rfl) rfl rfl) ?_
  refine walk_w rfl rfl rfl (zai [] [] [4] rfl (ev1 rfl) (ec (ev1 rfl) en) rfl rfl (chOf_ok l hb hl) rfl rfl rfl rfl rfl rfl) (by simp only [upd, za, zaa]; exact rfl) ?_
  refine zab rfl rfl rfl (zad (.inr rfl) (ev1 rfl)) ?_
  refine zae ?_
  refine zaf ?_
  obtain ⟨k1, k2, k3, k4⟩ := endR_ok hb
  refine zac ?_
  refine zab rfl rfl rfl (zad (.inl rfl) (ev1 rfl)) ?_
  refine zab rfl rfl rfl (op_ldmw rfl tb44 (ev1 rfl) rfl rfl) ?_
  refine walk_p rfl (dop_callP [4] [] [] rfl (ev1 rfl) (ec (ev1 rfl) (ec (ev1 rfl) en)) rfl rfl (ins_p2 l (endR l).1 o k1 hop h2) rfl rfl rfl rfl rfl rfl) rfl ?_
  refine kdef (dturn_caught [3] [] rfl rfl rfl (ins1_caught _ _) rfl rfl rfl rfl rfl) ?_
  refine kend0 (rs3 rfl (rv_w tb27 rfl rfl rfl) (rv_t rfl) (rv_1 tb30 rfl rfl rfl)) rfl ?_
  rfl
set_option maxRecDepth 4000 in
set_option maxHeartbeats 1000000 in
theorem Insert_p3 (l : LogM) (o : OpM) (hb : logB l = true) (hl : l.ops.length ≤ 1000000) (hop : opB o = true) (h2 : ¬ o.id.q ≤ ((endR l).1 o.id.s.toNat).q) (h3 : o.id.q ≠ ((endR l).1 o.id.s.toNat).q + 1) : DFun Tryz.prog 10 [.agg (logD l), .agg (opD o)] [] (.tup [.val (.agg #[.int .u64 0, .int .u64 0, .int .u64 0, .int .u64 0, .int .u64 0, .int .u64 0, .int .u64 0, .int .u64 0, .int .u64 0, .int .u64 0, .slice none 0 0]), .val (.int .i64 0), .val (.int .i64 231)]) [] := by
  refine dcalls_body (N := 19) 0 (by kernel_rfl) Tryz.func10 rfl rfl rfl (by simp only [fr0, Nat.zero_add, Nat.reduceAdd]; exact rfl) rfl fun s0 hs0 => ?_
  refine dbody_seq rfl hs0 ?_
  refine zah 4 (by simp only [holes, List.cons_append, List.nil_append]; exact rfl) ?_
  refine zac ?_
  refine walk_w rfl rfl rfl (op_boxam 0 rfl (ev1 rfl) rfl) (by simp only [upd, za, zaa]; exact rfl) ?_
  refine walk_w rfl rfl rfl (op_boxam 1 rfl (ev1 rfl) rfl) (by simp only [upd, za, zaa]; exact rfl) ?_
  refine walk_w rfl rfl rfl (op_alloc 2 rfl zr27 rfl) (by simp only [upd, za, zaa]; exact rfl) ?_
  refine zab rfl rfl rfl (zad (.inr rfl) (ev1 rfl)) ?_
  refine walk_w rfl rfl rfl (op_alloc 3 rfl zr30 rfl) (by simp only [upd, za, zaa]; exact rfl) ?_
  refine zae ?_
  refine dbody_defer (l0 := [_]) rfl rfl rfl rfl rfl hs0 ?_
  refine zab rfl rfl rfl (op_mkf rfl en (ec (ev1 rfl) en)) ?_
  refine zae ⟨_, _, _, 4, ev1 rfl, Nat.le_trans hs0 (by decide), rfl, ?_⟩
  have hs1 : s0.M.length ≤ 4 := Nat.le_trans hs0 (by decide)
  refine dbody_end rfl hs0 ?_
  refine zaf ?_
  refine zah 1 (by simp only [holes, List.cons_append, List.nil_append]; exact rfl) ?_
  refine zac ?_
  refine zab rfl rfl rfl (op_ldmw rfl tb27 (ev1 rfl) rfl rfl) ?_
  refine walk_w rfl rfl rfl (zai [] [] [4] rfl (ev1 rfl) (ec (ev1 rfl) en) rfl rfl (chOf_ok l hb hl) rfl rfl rfl rfl rfl rfl) (by simp only [upd, za, zaa]; exact rfl) ?_
  refine zab rfl rfl rfl (zad (.inr rfl) (ev1 rfl)) ?_
  refine zae ?_
  refine zaf ?_
  obtain ⟨k1, k2, k3, k4⟩ := endR_ok hb
  refine zac ?_
  refine zab rfl rfl rfl (zad (.inl rfl) (ev1 rfl)) ?_
  refine zab rfl rfl rfl (op_ldmw rfl tb44 (ev1 rfl) rfl rfl) ?_
  refine walk_p rfl (dop_callP [4] [] [] rfl (ev1 rfl) (ec (ev1 rfl) (ec (ev1 rfl) en)) rfl rfl (ins_p3 l (endR l).1 o k1 hop h2 h3) rfl rfl rfl rfl rfl rfl) rfl ?_
  refine kdef (dturn_caught [3] [] rfl rfl rfl (ins1_caught _ _) rfl rfl rfl rfl rfl) ?_
  refine kend0 (rs3 rfl (rv_w tb27 rfl rfl rfl) (rv_t rfl) (rv_1 tb30 rfl rfl rfl)) rfl ?_
  rfl
set_option maxRecDepth 4000 in
set_option maxHeartbeats 1000000 in
theorem Insert_p4 (l : LogM) (o : OpM) (hb : logB l = true) (hl : l.ops.length ≤ 1000000) (hop : opB o = true) (h3 : o.id.q = ((endR l).1 o.id.s.toNat).q + 1) (h4 : o.id.t ≤ ((endR l).1 o.id.s.toNat).t) : DFun Tryz.prog 10 [.agg (logD l), .agg (opD o)] [] (.tup [.val (.agg #[.int .u64 0, .int .u64 0, .int .u64 0, .int .u64 0, .int .u64 0, .int .u64 0, .int .u64 0, .int .u64 0, .int .u64 0, .int .u64 0, .slice none 0 0]), .val (.int .i64 0), .val (.int .i64 241)]) [] := by
  refine dcalls_body (N := 19) 0 (by kernel_rfl) Tryz.func10 rfl rfl rfl (by simp only [fr0, Nat.zero_add, Nat.reduceAdd]; exact rfl) rfl fun s0 hs0 => ?_
  refine dbody_seq rfl hs0 ?_
  refine zah 4 (by simp only [holes, List.cons_append, List.nil_append]; exact rfl) ?_
  refine zac ?_
  refine walk_w rfl rfl rfl (op_boxam 0 rfl (ev1 rfl) rfl) (by simp only [upd, za, zaa]; exact rfl) ?_
  refine walk_w rfl rfl rfl (op_boxam 1 rfl (ev1 rfl) rfl) (by simp only [upd, za, zaa]; exact rfl) ?_
  refine walk_w rfl rfl rfl (op_alloc 2 rfl zr27 rfl) (by simp only [upd, za, zaa]; exact rfl) ?_
  refine zab rfl rfl rfl (zad (.inr rfl) (ev1 rfl)) ?_
  refine walk_w rfl rfl rfl (op_alloc 3 rfl zr30 rfl) (by simp only [upd, za, zaa]; exact rfl) ?_
  refine zae ?_
  refine dbody_defer (l0 := [_]) rfl rfl rfl rfl rfl hs0 ?_
  refine zab rfl rfl rfl (op_mkf rfl en (ec (ev1 rfl) en)) ?_
  refine zae ⟨_, _, _, 4, ev1 rfl, Nat.le_trans hs0 (by decide), rfl, ?_⟩
  have hs1 : s0.M.length ≤ 4 := Nat.le_trans hs0 (by decide)
  refine dbody_end rfl hs0 ?_
  refine zaf ?_
  refine zah 1 (by simp only [holes, List.cons_append, List.nil_append]; exact rfl) ?_
  refine zac ?_
  refine zab rfl rfl rfl (op_ldmw rfl tb27 (ev1 rfl) rfl rfl) ?_
  refine walk_w rfl rfl rfl (zai [] [] [4] rfl (ev1 rfl) (ec (ev1 rfl) en) rfl rfl (chOf_ok l hb hl) rfl rfl rfl rfl rfl rfl) (by simp only [upd, za, zaa]; exact rfl) ?_
  refine zab rfl rfl rfl (zad (.inr rfl) (ev1 rfl)) ?_
  refine zae ?_
  refine zaf ?_
  obtain ⟨k1, k2, k3, k4⟩ := endR_ok hb
  refine zac ?_
  refine zab rfl rfl rfl (zad (.inl rfl) (ev1 rfl)) ?_
  refine zab rfl rfl rfl (op_ldmw rfl tb44 (ev1 rfl) rfl rfl) ?_
  refine walk_p rfl (dop_callP [4] [] [] rfl (ev1 rfl) (ec (ev1 rfl) (ec (ev1 rfl) en)) rfl rfl (ins_p4 l (endR l).1 o k1 hop h3 h4) rfl rfl rfl rfl rfl rfl) rfl ?_
  refine kdef (dturn_caught [3] [] rfl rfl rfl (ins1_caught _ _) rfl rfl rfl rfl rfl) ?_
  refine kend0 (rs3 rfl (rv_w tb27 rfl rfl rfl) (rv_t rfl) (rv_1 tb30 rfl rfl rfl)) rfl ?_
  rfl
set_option maxRecDepth 4000 in
set_option maxHeartbeats 1000000 in
theorem Insert_bad (l : LogM) (o : OpM) (hb : logB l = false) : DFun Tryz.prog 10 [.agg (logD l), .agg (opD o)] [] (.tup [.val (.agg #[.int .u64 0, .int .u64 0, .int .u64 0, .int .u64 0, .int .u64 0, .int .u64 0, .int .u64 0, .int .u64 0, .int .u64 0, .int .u64 0, .slice none 0 0]), .val (.int .i64 0), .val (.int .i64 240)]) [] := by
  refine dcalls_body (N := 19) 0 (by kernel_rfl) Tryz.func10 rfl rfl rfl (by simp only [fr0, Nat.zero_add, Nat.reduceAdd]; exact rfl) rfl fun s0 hs0 => ?_
  refine dbody_seq rfl hs0 ?_
  refine zah 4 (by simp only [holes, List.cons_append, List.nil_append]; exact rfl) ?_
  refine zac ?_
  refine walk_w rfl rfl rfl (op_boxam 0 rfl (ev1 rfl) rfl) (by simp only [upd, za, zaa]; exact rfl) ?_
  refine walk_w rfl rfl rfl (op_boxam 1 rfl (ev1 rfl) rfl) (by simp only [upd, za, zaa]; exact rfl) ?_
  refine walk_w rfl rfl rfl (op_alloc 2 rfl zr27 rfl) (by simp only [upd, za, zaa]; exact rfl) ?_
  refine zab rfl rfl rfl (zad (.inr rfl) (ev1 rfl)) ?_
  refine walk_w rfl rfl rfl (op_alloc 3 rfl zr30 rfl) (by simp only [upd, za, zaa]; exact rfl) ?_
  refine zae ?_
  refine dbody_defer (l0 := [_]) rfl rfl rfl rfl rfl hs0 ?_
  refine zab rfl rfl rfl (op_mkf rfl en (ec (ev1 rfl) en)) ?_
  refine zae ⟨_, _, _, 4, ev1 rfl, Nat.le_trans hs0 (by decide), rfl, ?_⟩
  have hs1 : s0.M.length ≤ 4 := Nat.le_trans hs0 (by decide)
  refine dbody_end rfl hs0 ?_
  refine zaf ?_
  refine zac ?_
  refine zab rfl rfl rfl (op_ldmw rfl tb27 (ev1 rfl) rfl rfl) ?_
  refine walk_p rfl (dop_callP [] [] [] rfl (ev1 rfl) (ec (ev1 rfl) en) rfl rfl (chOf_no l hb) rfl rfl rfl rfl rfl rfl) rfl ?_
  refine kdef (dturn_caught [3] [] rfl rfl rfl (ins1_caught _ _) rfl rfl rfl rfl rfl) ?_
  refine kend0 (rs3 rfl (rv_w tb27 rfl rfl rfl) (rv_t rfl) (rv_1 tb30 rfl rfl rfl)) rfl ?_
  rfl
theorem Insert_d (l : LogM) (o : OpM) (hl : l.ops.length ≤ 1000000) : DFun Tryz.prog 10 [.agg (logD l), .agg (opD o)] [] (.tup [.agg (logD (insR l o).1), .val (.int .i64 ((insR l o).2.1 : Int)), .val (.int .i64 (insR l o).2.2)]) [] := by
  have wk : ∀ e, Wk (.tup [.val (.agg #[.int .u64 0, .int .u64 0, .int .u64 0, .int .u64 0, .int .u64 0, .int .u64 0, .int .u64 0, .int .u64 0, .int .u64 0, .int .u64 0, .slice none 0 0]), .val (.int .i64 0), .val (.int .i64 e)]) (.tup [.agg (logD ⟨0, z9, []⟩), .val (.int .i64 0), .val (.int .i64 e)]) := fun e => Wk.tup (WkL.cons wkNew (WkL.refl _))
  unfold insR
  cases hb : logB l
  · exact (Insert_bad l o hb).wk (wk _)
  · rw [if_pos rfl]
    unfold insE
    by_cases h1 : opB o = false
    · rw [if_pos h1, if_neg (by decide)]
      exact (Insert_p1 l o hb hl h1).wk (wk _)
    · have hop : opB o = true := by simpa using h1
      rw [if_neg h1]
      by_cases h2 : o.id.q ≤ ((endR l).1 o.id.s.toNat).q
      · rw [if_pos h2, if_neg (by decide)]
        exact (Insert_p2 l o hb hl hop h2).wk (wk _)
      · rw [if_neg h2]
        by_cases h3 : o.id.q ≠ ((endR l).1 o.id.s.toNat).q + 1
        · rw [if_pos h3, if_neg (by decide)]
          exact (Insert_p3 l o hb hl hop h2 h3).wk (wk _)
        · rw [if_neg h3]
          by_cases h4 : o.id.t ≤ ((endR l).1 o.id.s.toNat).t
          · rw [if_pos h4, if_neg (by decide)]
            exact (Insert_p4 l o hb hl hop (by simpa using h3) h4).wk (wk _)
          · rw [if_neg h4, if_pos rfl]
            exact Insert_ok l o hb hl hop (by simpa using h3) h4
set_option maxRecDepth 4000 in
set_option maxHeartbeats 1000000 in
theorem try_ok (l : LogM) (la : Nat → I3) (o : OpM) (hok : laOk la) (hs : srtI l.ops) (hl : l.ops.length ≤ 1000000) (hop : opB o = true) (h3 : o.id.q = (la o.id.s.toNat).q + 1) (h4 : ¬ o.id.t ≤ (la o.id.s.toNat).t) : DFun Tryz.prog 35 [.loc 0 0, .agg (opD o)] [.mix 69 (chL l la)] (.val (.int .i64 0)) [.mix 69 (chL (insM l o (plI l.ops o)) (upV la o.id.s.toNat o.id))] := by
  refine dcalls_body (N := 9) 1 (by kernel_rfl) Tryz.func35 rfl rfl rfl (by simp only [fr0, Nat.zero_add, Nat.reduceAdd]; exact rfl) rfl fun s0 hs0 => ?_
  refine dbody_seq rfl hs0 ?_
  refine zah 2 (by simp only [holes, List.cons_append, List.nil_append]; exact rfl) ?_
  refine zac ?_
  refine walk_w rfl rfl rfl (op_boxam 1 rfl (ev1 rfl) rfl) (by simp only [upd, za, zaa]; exact rfl) ?_
  refine walk_w rfl rfl rfl (op_alloc 2 rfl zr30 rfl) (by simp only [upd, za, zaa]; exact rfl) ?_
  refine zae ?_
  refine dbody_defer (l0 := [_]) rfl rfl rfl rfl rfl hs0 ?_
  refine zab rfl rfl rfl (op_mkf rfl en (ec (ev1 rfl) en)) ?_
  refine zae ⟨_, _, _, 3, ev1 rfl, Nat.le_trans hs0 (by decide), rfl, ?_⟩
  have hs1 : s0.M.length ≤ 3 := Nat.le_trans hs0 (by decide)
  refine dbody_end rfl hs0 ?_
  refine zaf ?_
  refine zac ?_
  refine zab rfl rfl rfl (zad (.inl rfl) (ev1 rfl)) ?_
  refine zab rfl rfl rfl (op_ldmw rfl tb44 (ev1 rfl) rfl rfl) ?_
  refine walk_w rfl rfl rfl (zai [0] [] [] rfl (ev1 rfl) (ec (ev1 rfl) (ec (ev1 rfl) en)) rfl rfl (ins_ok l la o hok (plI l.ops o) hop h3 h4 hl (plI_le _ _) (fun k h1 h2 => plI_lo h1 h2) (fun k h1 h2 => plI_hi hs h1 h2)) rfl rfl rfl rfl rfl rfl) (by simp only [upd, za, zaa]; exact rfl) ?_
  refine zae ?_
  refine zaf ?_
  refine zac ?_
  refine walk_s rfl rfl (op_stwi rfl tb30 (ev1 rfl) (ev1 rfl) rfl) (by simp only [upd, za, zaa]; exact rfl) ?_
  refine zae ?_
  refine dwp_ret ?_
  refine kdef (dturn_idle [2] [] rfl rfl (try1_idle _) rfl rfl rfl rfl rfl) ?_
  refine kend [0] (rs1 rfl (rv_1 tb30 rfl rfl rfl)) rfl rfl ?_ ⟨rfl, trivial⟩
  rfl
set_option maxRecDepth 4000 in
set_option maxHeartbeats 1000000 in
theorem try_p1 (l : LogM) (la : Nat → I3) (o : OpM) (hok : laOk la) (hop : opB o = false) : DFun Tryz.prog 35 [.loc 0 0, .agg (opD o)] [.mix 69 (chL l la)] (.val (.int .i64 220)) [.mix 69 (chL l la)] := by
  refine dcalls_body (N := 9) 1 (by kernel_rfl) Tryz.func35 rfl rfl rfl (by simp only [fr0, Nat.zero_add, Nat.reduceAdd]; exact rfl) rfl fun s0 hs0 => ?_
  refine dbody_seq rfl hs0 ?_
  refine zah 2 (by simp only [holes, List.cons_append, List.nil_append]; exact rfl) ?_
  refine zac ?_
  refine walk_w rfl rfl rfl (op_boxam 1 rfl (ev1 rfl) rfl) (by simp only [upd, za, zaa]; exact rfl) ?_
  refine walk_w rfl rfl rfl (op_alloc 2 rfl zr30 rfl) (by simp only [upd, za, zaa]; exact rfl) ?_
  refine zae ?_
  refine dbody_defer (l0 := [_]) rfl rfl rfl rfl rfl hs0 ?_
  refine zab rfl rfl rfl (op_mkf rfl en (ec (ev1 rfl) en)) ?_
  refine zae ⟨_, _, _, 3, ev1 rfl, Nat.le_trans hs0 (by decide), rfl, ?_⟩
  have hs1 : s0.M.length ≤ 3 := Nat.le_trans hs0 (by decide)
  refine dbody_end rfl hs0 ?_
  refine zaf ?_
  refine zac ?_
  refine zab rfl rfl rfl (zad (.inl rfl) (ev1 rfl)) ?_
  refine zab rfl rfl rfl (op_ldmw rfl tb44 (ev1 rfl) rfl rfl) ?_
  refine walk_p rfl (dop_callP [0] [] [] rfl (ev1 rfl) (ec (ev1 rfl) (ec (ev1 rfl) en)) rfl rfl (ins_p1 l la o hok hop) rfl rfl rfl rfl rfl rfl) rfl ?_
  refine kdef (dturn_caught [2] [] rfl rfl rfl (try1_caught _ _) rfl rfl rfl rfl rfl) ?_
  refine kend [0] (rs1 rfl (rv_1 tb30 rfl rfl rfl)) rfl rfl ?_ ⟨rfl, trivial⟩
  rfl
set_option maxRecDepth 4000 in
set_option maxHeartbeats 1000000 in
theorem try_p2 (l : LogM) (la : Nat → I3) (o : OpM) (hok : laOk la) (hop : opB o = true) (h2 : o.id.q ≤ (la o.id.s.toNat).q) : DFun Tryz.prog 35 [.loc 0 0, .agg (opD o)] [.mix 69 (chL l la)] (.val (.int .i64 5)) [.mix 69 (chL l la)] := by
  refine dcalls_body (N := 9) 1 (by kernel_rfl) Tryz.func35 rfl rfl rfl (by simp only [fr0, Nat.zero_add, Nat.reduceAdd]; exact rfl) rfl fun s0 hs0 => ?_
  refine dbody_seq rfl hs0 ?_
  refine zah 2 (by simp only [holes, List.cons_append, List.nil_append]; exact rfl) ?_
  refine zac ?_
  refine walk_w rfl rfl rfl (op_boxam 1 rfl (ev1 rfl) rfl) (by simp only [upd, za, zaa]; exact rfl) ?_
  refine walk_w rfl rfl rfl (op_alloc 2 rfl zr30 rfl) (by simp only [upd, za, zaa]; exact rfl) ?_
  refine zae ?_
  refine dbody_defer (l0 := [_]) rfl rfl rfl rfl rfl hs0 ?_
  refine zab rfl rfl rfl (op_mkf rfl en (ec (ev1 rfl) en)) ?_
  refine zae ⟨_, _, _, 3, ev1 rfl, Nat.le_trans hs0 (by decide), rfl, ?_⟩
  have hs1 : s0.M.length ≤ 3 := Nat.le_trans hs0 (by decide)
  refine dbody_end rfl hs0 ?_
  refine zaf ?_
  refine zac ?_
  refine zab rfl rfl rfl (zad (.inl rfl) (ev1 rfl)) ?_
  refine zab rfl rfl rfl (op_ldmw rfl tb44 (ev1 rfl) rfl rfl) ?_
  refine walk_p rfl (dop_callP [0] [] [] rfl (ev1 rfl) (ec (ev1 rfl) (ec (ev1 rfl) en)) rfl rfl (ins_p2 l la o hok hop h2) rfl rfl rfl rfl rfl rfl) rfl ?_
  refine kdef (dturn_caught [2] [] rfl rfl rfl (try1_caught _ _) rfl rfl rfl rfl rfl) ?_
  refine kend [0] (rs1 rfl (rv_1 tb30 rfl rfl rfl)) rfl rfl ?_ ⟨rfl, trivial⟩
  rfl
set_option maxRecDepth 4000 in
set_option maxHeartbeats 1000000 in
theorem try_p3 (l : LogM) (la : Nat → I3) (o : OpM) (hok : laOk la) (hop : opB o = true) (h2 : ¬ o.id.q ≤ (la o.id.s.toNat).q) (h3 : o.id.q ≠ (la o.id.s.toNat).q + 1) : DFun Tryz.prog 35 [.loc 0 0, .agg (opD o)] [.mix 69 (chL l la)] (.val (.int .i64 231)) [.mix 69 (chL l la)] := by
  refine dcalls_body (N := 9) 1 (by kernel_rfl) Tryz.func35 rfl rfl rfl (by simp only [fr0, Nat.zero_add, Nat.reduceAdd]; exact rfl) rfl fun s0 hs0 => ?_
  refine dbody_seq rfl hs0 ?_
  refine zah 2 (by simp only [holes, List.cons_append, List.nil_append]; exact rfl) ?_
  refine zac ?_
  refine walk_w rfl rfl rfl (op_boxam 1 rfl (ev1 rfl) rfl) (by simp only [upd, za, zaa]; exact rfl) ?_
  refine walk_w rfl rfl rfl (op_alloc 2 rfl zr30 rfl) (by simp only [upd, za, zaa]; exact rfl) ?_
  refine zae ?_
  refine dbody_defer (l0 := [_]) rfl rfl rfl rfl rfl hs0 ?_
  refine zab rfl rfl rfl (op_mkf rfl en (ec (ev1 rfl) en)) ?_
  refine zae ⟨_, _, _, 3, ev1 rfl, Nat.le_trans hs0 (by decide), rfl, ?_⟩
  have hs1 : s0.M.length ≤ 3 := Nat.le_trans hs0 (by decide)
  refine dbody_end rfl hs0 ?_
  refine zaf ?_
  refine zac ?_
  refine zab rfl rfl rfl (zad (.inl rfl) (ev1 rfl)) ?_
  refine zab rfl rfl rfl (op_ldmw rfl tb44 (ev1 rfl) rfl rfl) ?_
  refine walk_p rfl (dop_callP [0] [] [] rfl (ev1 rfl) (ec (ev1 rfl) (ec (ev1 rfl) en)) rfl rfl (ins_p3 l la o hok hop h2 h3) rfl rfl rfl rfl rfl rfl) rfl ?_
  refine kdef (dturn_caught [2] [] rfl rfl rfl (try1_caught _ _) rfl rfl rfl rfl rfl) ?_
  refine kend [0] (rs1 rfl (rv_1 tb30 rfl rfl rfl)) rfl rfl ?_ ⟨rfl, trivial⟩
  rfl
set_option maxRecDepth 4000 in
set_option maxHeartbeats 1000000 in
theorem try_p4 (l : LogM) (la : Nat → I3) (o : OpM) (hok : laOk la) (hop : opB o = true) (h3 : o.id.q = (la o.id.s.toNat).q + 1) (h4 : o.id.t ≤ (la o.id.s.toNat).t) : DFun Tryz.prog 35 [.loc 0 0, .agg (opD o)] [.mix 69 (chL l la)] (.val (.int .i64 241)) [.mix 69 (chL l la)] := by
  refine dcalls_body (N := 9) 1 (by kernel_rfl) Tryz.func35 rfl rfl rfl (by simp only [fr0, Nat.zero_add, Nat.reduceAdd]; exact rfl) rfl fun s0 hs0 => ?_
  refine dbody_seq rfl hs0 ?_
  refine zah 2 (by simp only [holes, List.cons_append, List.nil_append]; exact rfl) ?_
  refine zac ?_
  refine walk_w rfl rfl rfl (op_boxam 1 rfl (ev1 rfl) rfl) (by simp only [upd, za, zaa]; exact rfl) ?_
  refine walk_w rfl rfl rfl (op_alloc 2 rfl zr30 rfl) (by simp only [upd, za, zaa]; exact rfl) ?_
  refine zae ?_
  refine dbody_defer (l0 := [_]) rfl rfl rfl rfl rfl hs0 ?_
  refine zab rfl rfl rfl (op_mkf rfl en (ec (ev1 rfl) en)) ?_
  refine zae ⟨_, _, _, 3, ev1 rfl, Nat.le_trans hs0 (by decide), rfl, ?_⟩
  have hs1 : s0.M.length ≤ 3 := Nat.le_trans hs0 (by decide)
  refine dbody_end rfl hs0 ?_
  refine zaf ?_
  refine zac ?_
  refine zab rfl rfl rfl (zad (.inl rfl) (ev1 rfl)) ?_
  refine zab rfl rfl rfl (op_ldmw rfl tb44 (ev1 rfl) rfl rfl) ?_
  refine walk_p rfl (dop_callP [0] [] [] rfl (ev1 rfl) (ec (ev1 rfl) (ec (ev1 rfl) en)) rfl rfl (ins_p4 l la o hok hop h3 h4) rfl rfl rfl rfl rfl rfl) rfl ?_
  refine kdef (dturn_caught [2] [] rfl rfl rfl (try1_caught _ _) rfl rfl rfl rfl rfl) ?_
  refine kend [0] (rs1 rfl (rv_1 tb30 rfl rfl rfl)) rfl rfl ?_ ⟨rfl, trivial⟩
  rfl
theorem try_d (st : LogM × (Nat → I3)) (o : OpM) (hk : laOk st.2 ∧ srtI st.1.ops) (hl : st.1.ops.length ≤ 1000000) : DFun Tryz.prog 35 [.loc 0 0, .agg (opD o)] [.mix 69 (chL st.1 st.2)] (.val (.int .i64 (insE st.2 o))) [.mix 69 (chL (insS st o).1 (insS st o).2)] := by
  obtain ⟨l, la⟩ := st
  obtain ⟨hok, hs⟩ := hk
  unfold insS insE
  dsimp only at hok hs hl ⊢
  by_cases h1 : opB o = false
  · rw [if_pos h1, if_neg (by decide)]
    exact try_p1 l la o hok h1
  · have hop : opB o = true := by simpa using h1
    rw [if_neg h1]
    by_cases h2 : o.id.q ≤ (la o.id.s.toNat).q
    · rw [if_pos h2, if_neg (by decide)]
      exact try_p2 l la o hok hop h2
    · rw [if_neg h2]
      by_cases h3 : o.id.q ≠ (la o.id.s.toNat).q + 1
      · rw [if_pos h3, if_neg (by decide)]
        exact try_p3 l la o hok hop h2 h3
      · rw [if_neg h3]
        by_cases h4 : o.id.t ≤ (la o.id.s.toNat).t
        · rw [if_pos h4, if_neg (by decide)]
          exact try_p4 l la o hok hop (by simpa using h3) h4
        · rw [if_neg h4, if_pos rfl]
          exact try_ok l la o hok hs hl hop (by simpa using h3) h4
set_option maxRecDepth 4000 in
set_option maxHeartbeats 1000000 in
theorem Inserts_d (l : LogM) (ops : List OpM) (hb : logB l = true) (hl : l.ops.length ≤ 900000) (ho : ops.length ≤ 100000) : DFun Tryz.prog 14 [.agg (logD l), .slm 19 ops.length (ops.flatMap opD)] [] (.tup [.agg (logD (insA (l, (endR l).1) ops).1), .slf 1 (insEs (l, (endR l).1) ops).length ((insEs (l, (endR l).1) ops).flatMap inI)]) [] := by
  refine dcalls_go (N := 47) 0 (by kernel_rfl) Tryz.func14 rfl rfl rfl (by simp only [fr0, Nat.zero_add, Nat.reduceAdd]; exact rfl) rfl fun s0 hs0 => ?_
  refine dwp_lenm (t := 1) rfl fun hl1 hL1 => ?_
  refine zaf ?_
  refine zah 2 (by simp only [holes, List.cons_append, List.nil_append]; exact rfl) ?_
  refine zac ?_
  refine walk_w rfl rfl rfl (op_boxam 0 rfl (ev1 rfl) rfl) (by simp only [upd, za, zaa]; exact rfl) ?_
  refine walk_w rfl rfl rfl (op_alloc 1 rfl zr27 rfl) (by simp only [upd, za, zaa]; exact rfl) ?_
  refine zab rfl rfl rfl (zad (.inr rfl) (ev1 rfl)) ?_
  refine zae ?_
  refine zaf ?_
  refine zaf ?_
  refine zac ?_
  refine zab rfl rfl rfl (op_ldmw rfl tb27 (ev1 rfl) rfl rfl) ?_
  refine zab rfl rfl rfl (zai [] [] [] rfl (ev1 rfl) (ec (ev1 rfl) en) rfl rfl (lCheck_d _) rfl rfl rfl rfl rfl rfl) ?_
  refine zab rfl rfl rfl (zad (.inr rfl) (ev1 rfl)) ?_
  refine zae ?_
  refine zaf ?_
  refine zac ?_
  refine zab rfl rfl rfl (zad (.inl rfl) (ev1 rfl)) ?_
  refine zab rfl rfl rfl (op_neq rfl (ev1 rfl) (ev1 rfl)) ?_
  refine zae ?_
  refine dwp_if_f rfl (by rw [hb]; rfl) ?_
  refine dwp_skip ?_
  refine zaf ?_
  refine zah 1 (by simp only [holes, List.cons_append, List.nil_append]; exact rfl) ?_
  refine zac ?_
  refine zab rfl rfl rfl (op_ldmw rfl tb27 (ev1 rfl) rfl rfl) ?_
  refine walk_w rfl rfl rfl (zai [] [] [2] rfl (ev1 rfl) (ec (ev1 rfl) en) rfl rfl (chOf_ok l hb (by omega)) rfl rfl rfl rfl rfl rfl) (by simp only [upd, za, zaa]; exact rfl) ?_
  refine zab rfl rfl rfl (zad (.inr rfl) (ev1 rfl)) ?_
  refine zae ?_
  refine zaf ?_
  refine zac ?_
  refine zab rfl rfl rfl (zad (.inl rfl) (ev1 rfl)) ?_
  refine zab rfl rfl rfl (op_mkf rfl (ec (ev1 rfl) en) en) ?_
  refine zab rfl rfl rfl (zad (.inr rfl) (ev1 rfl)) ?_
  refine zae ?_
  refine zaf ?_
  refine zah 1 (by simp only [holes, List.cons_append, List.nil_append]; exact rfl) ?_
  refine zac ?_
  refine zab rfl rfl rfl (zad (.inl rfl) (ev1 rfl)) ?_
  refine zab rfl rfl rfl (op_lenm rfl sl25 (ev1 rfl)) ?_
  refine walk_w rfl rfl rfl (op_mk0 3 (ops.length) rfl sl51 zr30 (ev1 rfl) (ev1 rfl) (fun _ => rfl) (fun _ => by omega) rfl (fun _ => by omega)) (by simp only [upd, za, zaa]; exact rfl) ?_
  refine zab rfl rfl rfl (zad (.inr rfl) (ev1 rfl)) ?_
  refine zae ?_
  refine zaf ?_
  refine zaf ?_
  obtain ⟨k1, k2, k3, k4⟩ := endR_ok hb
  refine zac ?_
  refine zab rfl rfl rfl (zad (.inl rfl) (ev1 rfl)) ?_
  refine zab rfl rfl rfl (op_lenm rfl sl25 (ev1 rfl)) ?_
  refine zab rfl rfl rfl (zad (.inl rfl) (ev1 rfl)) ?_
  refine zae ?_
  refine dwp_block ?_
  refine dwp_loopS ⟨hs0, rfl⟩ (α := Nat) (fun k => [(31, .val (.int .i64 (k : Int)))]) [(4, _), (7, _), (8, _), (9, _), (29, _), (30, _)] (fun k => [(2, .mix 69 (chL (insA (l, (endR l).1) (ops.take k)).1 (insA (l, (endR l).1) (ops.take k)).2)), (3, .arr 30 1 (insEs (l, (endR l).1) (ops.take k)).length ((insEs (l, (endR l).1) (ops.take k)).flatMap inI))]) [_, _, .hole, .hole] (fun k => k ≤ ops.length) (fun k => ops.length - k) 0 [0, 1, 2, 3] (Nat.zero_le _) rfl ⟨rfl, rfl, rfl, rfl, rfl, rfl, trivial⟩ ⟨rfl, trivial⟩ ⟨rfl, rfl, rfl, rfl, trivial⟩ ?_
  intro k hx
  simp only [upd, za, zaa, List.cons_append, List.nil_append]
  have hk := hx
  obtain ⟨q1, q2, q3⟩ := insA_ok (st := (l, (endR l).1)) ⟨k1, k2⟩ (ops.take k)
  rw [List.length_take] at q3
  have q5 : (insA (l, (endR l).1) (ops.take k)).1.ops.length ≤ l.ops.length + min k ops.length := q3
  have q4 := insEs_len (l, (endR l).1) (ops.take k)
  rw [List.length_take] at q4
  refine zaf ?_
  refine zac ?_
  refine zab rfl rfl rfl (op_lss rfl (ev1 rfl) (ev1 rfl)) ?_
  refine zae ?_
  refine zaf ?_
  refine dwp_cond rfl (fun c2 => ?_) (fun c2 => ?_)
  · try simp only [decide_eq_true_eq, decide_eq_false_iff_not, beq_iff_eq, bne_iff_ne, beq_eq_false_iff_ne, bne_eq_false_iff_eq, Bool.not_eq_true', Bool.not_eq_false', Bool.and_eq_true, Bool.or_eq_true, Bool.or_eq_false_iff, ne_eq, Decidable.not_not, Int.not_lt, Int.not_le] at c2
    refine dwp_skip ?_
    refine zaf ?_
    refine dwp_block ?_
    refine zaf ?_
    refine zah 1 (by simp only [holes, List.cons_append, List.nil_append]; exact rfl) ?_
    refine zac ?_
    refine zab rfl rfl rfl (op_ixmr (k) (by decide) rfl sl25 (ev1 rfl) (ev1 rfl) (fun _ => rfl) (by omega) (fun _ => rfl)) ?_
    refine zab rfl rfl rfl (op_lddr rfl tb44 (ev1 rfl) rfl rfl) ?_
    refine walk_w rfl rfl rfl (op_alloc 4 rfl zr44 rfl) (by simp only [upd, za, zaa]; exact rfl) ?_
    refine walk_s rfl rfl (op_stam rfl tb44 (ev1 rfl) (ev1 rfl) rfl rfl rfl rfl) (by simp only [upd, za, zaa]; exact rfl) ?_
    refine zae ?_
    refine zah 1 (by simp only [holes, List.cons_append, List.nil_append]; exact rfl) ?_
    refine zac ?_
    refine zab rfl rfl rfl (zad (.inl rfl) (ev1 rfl)) ?_
    refine zab rfl rfl rfl (zad (.inl rfl) (ev1 rfl)) ?_
    refine zab rfl rfl rfl (op_ldmw rfl tb44 (ev1 rfl) rfl rfl) ?_
    refine walk_w rfl rfl rfl (zai [2] [] [] rfl (ev1 rfl) (ec (ev1 rfl) en) rfl rfl (try_d (insA (l, (endR l).1) (ops.take k)) ops[k] ⟨q1, q2⟩ (by show _ ≤ _; omega)) rfl rfl rfl rfl rfl rfl) (by simp only [upd, za, zaa]; exact rfl) ?_
    refine zab rfl rfl rfl (op_bs (ps := [(0, .tmp 38)]) rfl sl51 zr30 rfl (vc (ev1 rfl) vn) rfl (by decide) (by decide)) ?_
    refine walk_w rfl rfl rfl (op_app (j := 5) rfl sl51 zr30 rfl (ev1 rfl) (ev1 rfl) src_slf rfl rfl (fun _ => rfl) (fun _ => ⟨by omega, by omega⟩)) (by simp only [upd, za, zaa]; exact rfl) ?_
    refine zab rfl rfl rfl (zad (.inr rfl) (ev1 rfl)) ?_
    refine zae ?_
    refine zac ?_
    refine zab rfl rfl rfl (op_add' rfl (ev1 rfl) (ev1 rfl) (fun _ => IntWalk.i64_in _ (by omega))) ?_
    refine zab rfl rfl rfl (zad (.inl rfl) (ev1 rfl)) ?_
    refine zae ?_
    refine ⟨k + 1, [0, 1, 2, 5], by omega, by simp only []; omega, rfl, ⟨rfl, rfl, rfl, rfl, rfl, rfl, rfl, trivial⟩, ⟨rfl, rfl, by rw [insA_step (by omega)]; rfl, arr_eq (by rw [insEs_step (by omega), List.length_append]; rfl) (by rw [insEs_step (by omega), List.flatMap_append]; rfl), trivial⟩⟩
  · try simp only [decide_eq_true_eq, decide_eq_false_iff_not, beq_iff_eq, bne_iff_ne, beq_eq_false_iff_ne, bne_eq_false_iff_eq, Bool.not_eq_true', Bool.not_eq_false', Bool.and_eq_true, Bool.or_eq_true, Bool.or_eq_false_iff, ne_eq, Decidable.not_not, Int.not_lt, Int.not_le] at c2
    refine dwp_exit ?_
    refine zaf ?_
    refine dwp_giveA 9 rfl rfl (by simp only [za, zaa]; exact rfl) ?_
    obtain rfl : k = ops.length := by omega
    rw [List.take_length]
    refine zac ?_
    refine zab rfl rfl rfl (zad (.inl rfl) (ev1 rfl)) ?_
    refine zab rfl rfl rfl (op_nc rfl (ev1 rfl) (fun s v h => by cases h; exact ⟨_, rfl⟩)) ?_
    refine zab rfl rfl rfl (op_fa rfl fo69_0 (ev1 rfl)) ?_
    refine zab rfl rfl rfl (op_ldmp rfl tb27 (ev1 rfl) rfl rfl rfl) ?_
    refine zab rfl rfl rfl (zad (.inl rfl) (ev1 rfl)) ?_
    refine walk_s rfl rfl (op_stam rfl tb27 (ev1 rfl) (ev1 rfl) rfl rfl rfl rfl) (by simp only [upd, za, zaa]; exact rfl) ?_
    refine zab rfl rfl rfl (zad (.inr rfl) (ev1 rfl)) ?_
    refine zae ?_
    refine dwp_ret ?_
    refine kend0 (rs2 rfl (rv_mw tb27 rfl rfl rfl) (rv_t rfl)) rfl ?_
    rfl
end Go.Proofs.YtbcnaacgillhcaaGreat
namespace Go.Proofs.YtbcnaacgillhcaaGreat
set_option linter.unusedVariables false
set_option linter.unusedSimpArgs false
open Go.RowKit
theorem fl82 : fdL Tryz.prog 82 = some [(0, 1), (1, 1), (2, 1)] := by kernel_rfl
theorem fo82_1 : fdO Tryz.prog 82 1 = some 1 := by kernel_rfl
theorem fo82_2 : fdO Tryz.prog 82 2 = some 2 := by kernel_rfl
theorem sl79 : slE Tryz.prog 79 = some (82, 3, 24) := by kernel_rfl
theorem tb79 : tyB Tryz.prog 79 = some (false, 1) := by kernel_rfl
theorem tb82 : tyB Tryz.prog 82 = some (true, 3) := by kernel_rfl
theorem zr79 : zrC Tryz.prog 79 = some [.slice none 0 0] := by kernel_rfl
theorem zr82 : zrC Tryz.prog 82 = some [.int .i64 0, .int .u64 0, .int .u64 0] := by kernel_rfl
theorem fm_at {k : Nat} {x : Mem} : (List.replicate k Mem.gone ++ [x])[k]? = some x := by
  rw [List.getElem?_append_right (by rw [List.length_replicate]; omega), List.length_replicate, Nat.sub_self]
  rfl
theorem fm_len {k : Nat} {x : Mem} : (List.replicate k Mem.gone ++ [x]).length = k + 1 := by
  rw [List.length_append, List.length_replicate]
  rfl
theorem fm_set {k : Nat} {x : Mem} : (List.replicate k Mem.gone ++ [x]).set k .gone = List.replicate (k + 1) Mem.gone := by
  rw [List.set_append_right _ _ (by rw [List.length_replicate]; omega), List.length_replicate, Nat.sub_self, List.replicate_succ']
  rfl
def vecL (l : LogM) : Vec := if logB l = true then fun i => ((endR l).1 i).q.toNat else z9
def sameL (a b : LogM) : Bool := ((a.fo : Int) == (b.fo : Int)) && eqV a.bs b.bs && all2 sameO a.ops b.ops
def st3 (x : Nat × Nat × Nat) : List Value := [.int .i64 (x.1 : Int), .int .u64 (x.2.1 : Int), .int .u64 (x.2.2 : Int)]
def lackL (v w : Vec) (j : Nat) : List (Nat × Nat × Nat) := (((List.range j).filter fun i => decide (1 ≤ i) && decide (v i < w i))).map fun i => (i, v i + 1, w i)
theorem lackL_yes {v w : Vec} {j : Nat} (h1 : 1 ≤ j) (h : v j < w j) : lackL v w (j + 1) = lackL v w j ++ [(j, v j + 1, w j)] := by
  unfold lackL
  rw [List.range_succ, List.filter_append, List.filter_cons_of_pos (by simp [h1, h]), List.filter_nil, List.map_append]
  rfl
theorem lackL_no {v w : Vec} {j : Nat} (h : ¬ v j < w j) : lackL v w (j + 1) = lackL v w j := by
  unfold lackL
  rw [List.range_succ, List.filter_append, List.filter_cons_of_neg (by simp [h]), List.filter_nil, List.append_nil]
theorem lackL_len (v w : Vec) (j : Nat) : (lackL v w j).length ≤ j := by
  unfold lackL
  rw [List.length_map]
  exact Nat.le_trans (List.length_filter_le _ _) (by simp)
abbrev fmS (l : List (Nat × Nat × Nat)) : Blk := .fam (List.replicate l.length .gone ++ [.arr 82 3 l.length (l.flatMap st3)])
theorem fmS_app {l : List (Nat × Nat × Nat)} {x : Nat × Nat × Nat} : some (Blk.fam ((List.replicate l.length Mem.gone ++ [Mem.arr 82 3 l.length (l.flatMap st3)]).set l.length .gone ++ [Mem.arr 82 3 (l.length + 1) (l.flatMap st3 ++ st3 x)])) = some (fmS (l ++ [x])) := by
  unfold fmS
  rw [fm_set, List.length_append, List.flatMap_append]
  rfl
theorem vw_farrS {σ : List Nat} {V : Nat → Bool} {M : List Blk} {Bs : List Mem} {e : TypeId} {j k sz m : Nat} {L : List Value} (hpj : pos σ j = none) (hVj : V j = true) (hMj : M[j]? = some (.fam Bs)) (hB : Bs[k]? = some (.arr e sz m L)) : vw σ V M (.farr j k) = some (.slf sz m L) := by
  unfold vw
  rw [hpj]
  show vwFarr V M j k = _
  unfold vwFarr
  rw [hVj, hMj]
  show (match Bs[k]? with | some (.arr _ sz n L) => some (D.slf sz n L) | _ => none) = _
  rw [hB]
def manyT (l : List (Nat × Nat × Nat)) : Nat := l.foldl (fun n x => min (n + x.2.2 + 1 - x.2.1) 4611686018427387904) 0
theorem manyT_step {l : List (Nat × Nat × Nat)} {k : Nat} (h : k < l.length) : manyT (l.take (k + 1)) = min (manyT (l.take k) + (l[k]).2.2 + 1 - (l[k]).2.1) 4611686018427387904 := by
  unfold manyT
  rw [List.take_succ_eq_append_getElem h, List.foldl_append]
  rfl
theorem manyT_le : ∀ (l : List (Nat × Nat × Nat)), manyT l ≤ 4611686018427387904 := fun l => by
  rcases Nat.eq_zero_or_pos l.length with h | h
  · rw [List.eq_nil_of_length_eq_zero h]; exact Nat.zero_le _
  · obtain ⟨k, hk⟩ : ∃ k, l.length = k + 1 := ⟨l.length - 1, by omega⟩
    have := manyT_step (l := l) (k := k) (by omega)
    rw [List.take_of_length_le (by omega)] at this
    rw [this]
    exact Nat.min_le_right _ _
theorem lackL_mem {v w : Vec} {j : Nat} {x : Nat × Nat × Nat} (h : x ∈ lackL v w j) : 1 ≤ x.1 ∧ x.1 < j ∧ x.2.1 = v x.1 + 1 ∧ x.2.2 = w x.1 ∧ v x.1 < w x.1 := by
  unfold lackL at h
  obtain ⟨i, hi, rfl⟩ := List.mem_map.1 h
  rw [List.mem_filter, List.mem_range] at hi
  simp at hi
  exact ⟨hi.2.1, hi.1, rfl, rfl, hi.2.2⟩
set_option maxRecDepth 4000 in
set_option maxHeartbeats 1000000 in
theorem Vector_ok (l : LogM) (hb : logB l = true) : DFun Tryz.prog 8 [.agg (logD l)] [] (.val (.agg (c9 (vecL l)).toArray)) [] := by
  refine dcalls_go (N := 15) 0 (by kernel_rfl) Tryz.func8 rfl rfl rfl (by simp only [fr0, Nat.zero_add, Nat.reduceAdd]; exact rfl) rfl fun s0 hs0 => ?_
  refine zaf ?_
  refine zah 2 (by simp only [holes, List.cons_append, List.nil_append]; exact rfl) ?_
  refine zac ?_
  refine walk_w rfl rfl rfl (op_boxam 0 rfl (ev1 rfl) rfl) (by simp only [upd, za, zaa]; exact rfl) ?_
  refine walk_w rfl rfl rfl (op_alloc 1 rfl zr24 rfl) (by simp only [upd, za, zaa]; exact rfl) ?_
  refine zae ?_
  refine zaf ?_
  refine zah 1 (by simp only [holes, List.cons_append, List.nil_append]; exact rfl) ?_
  refine zac ?_
  refine zab rfl rfl rfl (op_ldmw rfl tb27 (ev1 rfl) rfl rfl) ?_
  refine zab rfl rfl rfl (zai [] [] [] rfl (ev1 rfl) (ec (ev1 rfl) en) rfl rfl (ends_d l) rfl rfl rfl rfl rfl rfl) ?_
  refine zab rfl rfl rfl (zad (.inl rfl) (ev1 rfl)) ?_
  refine zab rfl rfl rfl (op_ext rfl (ev1 rfl) rfl) ?_
  refine zab rfl rfl rfl (op_ext rfl (ev1 rfl) rfl) ?_
  refine walk_w rfl rfl rfl (op_alloc 2 rfl zr67 rfl) (by simp only [upd, za, zaa]; exact rfl) ?_
  refine walk_s rfl rfl (op_stwa rfl tb67 (ev1 rfl) (ev1 rfl) rfl rfl rfl rfl) (by simp only [upd, za, zaa]; exact rfl) ?_
  refine zab rfl rfl rfl (zad (.inr rfl) (ev1 rfl)) ?_
  refine zae ?_
  refine zaf ?_
  refine zaf ?_
  refine zac ?_
  refine zab rfl rfl rfl (zad (.inl rfl) (ev1 rfl)) ?_
  refine zab rfl rfl rfl (op_neq rfl (ev1 rfl) (ev1 rfl)) ?_
  refine zae ?_
  refine dwp_if_f rfl (by rw [endR_errno, hb]; rfl) ?_
  refine dwp_skip ?_
  refine zaf ?_
  refine zac ?_
  refine zab rfl rfl rfl (op_ldw rfl tb67 (ev1 rfl) rfl (laC_len _)) ?_
  refine zab rfl rfl rfl (zai [] [] [] rfl (ev1 rfl) (ec (ev1 rfl) en) rfl rfl (numbers_d (endR l).1 (vecL l) (fun i hi => by unfold vecL; rw [if_pos hb]; have := (endR_ok hb).1 i hi; omega)) rfl rfl rfl rfl rfl rfl) ?_
  refine walk_s rfl rfl (op_stwa rfl tb24 (ev1 rfl) (ev1 rfl) rfl rfl rfl rfl) (by simp only [upd, za, zaa]; exact rfl) ?_
  refine zae ?_
  refine dwp_ret ?_
  refine kend0 (rs1 rfl (rv_w tb24 rfl rfl rfl)) rfl ?_
  rfl
set_option maxRecDepth 4000 in
set_option maxHeartbeats 1000000 in
theorem Vector_bad (l : LogM) (hb : logB l = false) : DFun Tryz.prog 8 [.agg (logD l)] [] (.val (.agg (c9 z9).toArray)) [] := by
  refine dcalls_go (N := 15) 0 (by kernel_rfl) Tryz.func8 rfl rfl rfl (by simp only [fr0, Nat.zero_add, Nat.reduceAdd]; exact rfl) rfl fun s0 hs0 => ?_
  refine zaf ?_
  refine zah 2 (by simp only [holes, List.cons_append, List.nil_append]; exact rfl) ?_
  refine zac ?_
  refine walk_w rfl rfl rfl (op_boxam 0 rfl (ev1 rfl) rfl) (by simp only [upd, za, zaa]; exact rfl) ?_
  refine walk_w rfl rfl rfl (op_alloc 1 rfl zr24 rfl) (by simp only [upd, za, zaa]; exact rfl) ?_
  refine zae ?_
  refine zaf ?_
  refine zah 1 (by simp only [holes, List.cons_append, List.nil_append]; exact rfl) ?_
  refine zac ?_
  refine zab rfl rfl rfl (op_ldmw rfl tb27 (ev1 rfl) rfl rfl) ?_
  refine zab rfl rfl rfl (zai [] [] [] rfl (ev1 rfl) (ec (ev1 rfl) en) rfl rfl (ends_d l) rfl rfl rfl rfl rfl rfl) ?_
  refine zab rfl rfl rfl (zad (.inl rfl) (ev1 rfl)) ?_
  refine zab rfl rfl rfl (op_ext rfl (ev1 rfl) rfl) ?_
  refine zab rfl rfl rfl (op_ext rfl (ev1 rfl) rfl) ?_
  refine walk_w rfl rfl rfl (op_alloc 2 rfl zr67 rfl) (by simp only [upd, za, zaa]; exact rfl) ?_
  refine walk_s rfl rfl (op_stwa rfl tb67 (ev1 rfl) (ev1 rfl) rfl rfl rfl rfl) (by simp only [upd, za, zaa]; exact rfl) ?_
  refine zab rfl rfl rfl (zad (.inr rfl) (ev1 rfl)) ?_
  refine zae ?_
  refine zaf ?_
  refine zaf ?_
  refine zac ?_
  refine zab rfl rfl rfl (zad (.inl rfl) (ev1 rfl)) ?_
  refine zab rfl rfl rfl (op_neq rfl (ev1 rfl) (ev1 rfl)) ?_
  refine zae ?_
  refine dwp_if_t rfl (by rw [endR_errno, hb]; rfl) ?_
  refine zaf ?_
  refine zac ?_
  refine zab rfl rfl rfl (op_build0a rfl ar24 zr24) ?_
  refine walk_s rfl rfl (op_stwa rfl tb24 (ev1 rfl) (ev1 rfl) rfl rfl rfl rfl) (by simp only [upd, za, zaa]; exact rfl) ?_
  refine zae ?_
  refine dwp_ret ?_
  refine kend0 (rs1 rfl (rv_w tb24 rfl rfl rfl)) rfl ?_
  rfl
theorem Vector_d (l : LogM) : DFun Tryz.prog 8 [.agg (logD l)] [] (.val (.agg (c9 (vecL l)).toArray)) [] := by
  cases hb : logB l
  · have h := Vector_bad l hb
    unfold vecL
    rwa [if_neg (by rw [hb]; decide)]
  · exact Vector_ok l hb
set_option maxRecDepth 4000 in
set_option maxHeartbeats 1000000 in
theorem lsame_d (a b : LogM) : DFun Tryz.prog 7 [.agg (logD a), .agg (logD b)] [] (.val (.bool (sameL a b))) [] := by
  refine dcalls_go (N := 24) 0 (by kernel_rfl) Tryz.func7 rfl rfl rfl (by simp only [fr0, Nat.zero_add, Nat.reduceAdd]; exact rfl) rfl fun s0 hs0 => ?_
  refine zaf ?_
  refine zah 2 (by simp only [holes, List.cons_append, List.nil_append]; exact rfl) ?_
  refine zac ?_
  refine walk_w rfl rfl rfl (op_boxam 0 rfl (ev1 rfl) rfl) (by simp only [upd, za, zaa]; exact rfl) ?_
  refine walk_w rfl rfl rfl (op_boxam 1 rfl (ev1 rfl) rfl) (by simp only [upd, za, zaa]; exact rfl) ?_
  refine zab rfl rfl rfl (zad (.inr rfl) (ev1 rfl)) ?_
  refine zae ?_
  refine zaf ?_
  refine zac ?_
  refine zab rfl rfl rfl (op_fa rfl fo27_0 (ev1 rfl)) ?_
  refine zab rfl rfl rfl (op_ldm rfl tb22 (ev1 rfl) rfl rfl) ?_
  refine zab rfl rfl rfl (op_fa rfl fo27_0 (ev1 rfl)) ?_
  refine zab rfl rfl rfl (op_ldm rfl tb22 (ev1 rfl) rfl rfl) ?_
  refine zab rfl rfl rfl (op_eql rfl (ev1 rfl) (ev1 rfl)) ?_
  refine zab rfl rfl rfl (zad (.inl rfl) (ev1 rfl)) ?_
  refine zag (gd_t rfl rfl rfl) rfl rfl rfl (op_fa rfl fo27_1 (ev1 rfl)) ?_
  refine zag (gd_t rfl rfl rfl) rfl rfl rfl (op_ldmv (R := [_, _, _, _, _, _, _, _, _]) rfl tb24 (ev2 rfl) rfl rfl rfl) ?_
  refine zag (gd_t rfl rfl rfl) rfl rfl rfl (op_fa rfl fo27_1 (ev1 rfl)) ?_
  refine zag (gd_t rfl rfl rfl) rfl rfl rfl (op_ldmv (R := [_, _, _, _, _, _, _, _, _]) rfl tb24 (ev2 rfl) rfl rfl rfl) ?_
  refine zag (gd_t rfl rfl rfl) rfl rfl rfl (op_eqr eq24 rfl gd24 tb24 (ev2 rfl) (ev2 rfl)) ?_
  refine zab rfl rfl rfl (op_and rfl (ev1 rfl) (ev3 rfl id)) ?_
  refine zab rfl rfl rfl (zad (.inl rfl) (ev1 rfl)) ?_
  refine zag (gd_t rfl rfl rfl) rfl rfl rfl (op_fa rfl fo27_2 (ev1 rfl)) ?_
  refine zag (gd_t rfl rfl rfl) rfl rfl rfl (op_ldm rfl tb25 (ev2 rfl) rfl rfl) ?_
  refine zag (gd_t rfl rfl rfl) rfl rfl rfl (op_fa rfl fo27_2 (ev1 rfl)) ?_
  refine zag (gd_t rfl rfl rfl) rfl rfl rfl (op_ldm rfl tb25 (ev2 rfl) rfl rfl) ?_
  refine zag (gd_t rfl rfl rfl) rfl rfl rfl (zai [] [] [] rfl (ev1 rfl) (ec (ev2 rfl) (ec (ev2 rfl) (ec (ev1 rfl) en))) rfl rfl (equalO a.ops b.ops) rfl rfl rfl rfl rfl rfl) ?_
  refine zab rfl rfl rfl (op_and rfl (ev1 rfl) (ev3 rfl id)) ?_
  refine zab rfl rfl rfl (zad (.inr rfl) (ev1 rfl)) ?_
  refine zae ?_
  refine dwp_ret ?_
  refine kend0 (rs1 rfl (rv_t rfl)) rfl ?_
  unfold sameL
  simp [Bool.and_assoc]
set_option maxRecDepth 4000 in
set_option maxHeartbeats 1000000 in
theorem has_d (v : Vec) (i : I3) (hv : vB v = true) (hi : mayR i = true) (h : i.q ≤ (v i.s.toNat : Int)) : DFun Tryz.prog 12 [.val (.agg (c9 v).toArray), .val (.agg (idc i).toArray)] [] (.val (.bool true)) [] := by
  refine dcalls_go (N := 22) 0 (by kernel_rfl) Tryz.func12 rfl rfl rfl (by simp only [fr0, Nat.zero_add, Nat.reduceAdd]; exact rfl) rfl fun s0 hs0 => ?_
  refine zaf ?_
  refine zah 2 (by simp only [holes, List.cons_append, List.nil_append]; exact rfl) ?_
  refine zac ?_
  refine walk_w rfl rfl rfl (op_boxa 0 rfl (ev1 rfl) rfl) (by simp only [upd, za, zaa]; exact rfl) ?_
  refine walk_w rfl rfl rfl (op_boxa 1 rfl (ev1 rfl) rfl) (by simp only [upd, za, zaa]; exact rfl) ?_
  refine zab rfl rfl rfl (zad (.inr rfl) (ev1 rfl)) ?_
  refine zae ?_
  refine zaf ?_
  have hs8 := mayR_iff.1 hi
  refine dwp_draw [([0], []), ([], []), ([], []), ([], []), ([1], []), ([], []), ([], []), ([], []), ([], []), ([], []), ([1], []), ([], []), ([1], []), ([], []), ([0], []), ([], []), ([], []), ([], [])] mixed (by kernel_rfl) ?_
  refine lex_r rfl rfl (op_ldw rfl tb24 (ev1 rfl) rfl rfl) ?_
  refine lex_r rfl rfl (op_bs (ps := [(0, .tmp 5)]) rfl sl101 zr24 rfl (vc (ev1 rfl) vn) rfl (by decide) (by decide)) ?_
  refine lex_r rfl rfl (zai [] [] [] rfl (ev1 rfl) (ec (ev1 rfl) en) rfl rfl (are_d [v]) rfl rfl rfl rfl rfl rfl) ?_
  refine lex_r rfl rfl (zad (.inl rfl) (ev1 rfl)) ?_
  refine lex_gr (gd_t rfl rfl rfl) rfl rfl (op_ldw rfl tb37 (ev1 rfl) rfl rfl) ?_
  refine lex_gr (gd_t rfl rfl rfl) rfl rfl (zai [] [] [] rfl (ev1 rfl) (ec (ev2 rfl) en) rfl rfl (idCheck_d _) rfl rfl rfl rfl rfl rfl) ?_
  refine lex_gr (gd_t rfl rfl rfl) rfl rfl (op_eql rfl (ev2 rfl) (ev1 rfl)) ?_
  refine lex_r rfl rfl (op_and rfl (ev1 rfl) (ev3 rfl id)) ?_
  refine lex_r rfl rfl (zad (.inl rfl) (ev1 rfl)) ?_
  refine lex_gr (gd_t rfl rfl rfl) rfl rfl (op_fa rfl fo37_2 (ev1 rfl)) ?_
  refine lex_gr (gd_t rfl rfl rfl) rfl rfl (op_ldo rfl tb22 (ev2 rfl) rfl rfl) ?_
  refine lex_gr (gd_t rfl rfl rfl) rfl rfl (op_fa rfl fo37_1 (ev1 rfl)) ?_
  refine lex_gr (gd_t rfl rfl rfl) rfl rfl (op_ldo rfl tb3 (ev2 rfl) rfl rfl) ?_
  refine lex_gr (gd_t rfl rfl rfl) rfl rfl (op_ixl rfl ar24 (ev1 rfl) (ev2 rfl) (fun _ => by omega)) ?_
  refine lex_gr (gd_t rfl rfl rfl) rfl rfl (op_ldo rfl tb22 (ev2 rfl) rfl (c9_atp (j := i.s.toNat) (by omega) (by omega))) ?_
  refine lex_gr (gd_t rfl rfl rfl) rfl rfl (op_leq rfl (ev2 rfl) (ev2 rfl)) ?_
  refine lex_r rfl rfl (op_and rfl (ev1 rfl) (ev3 rfl id)) ?_
  refine lex_r rfl rfl (zad (.inr rfl) (ev1 rfl)) ?_
  refine lex_nil ?_
  refine dwp_ret ?_
  refine kend0 (rs1 rfl (rv_t rfl)) rfl ?_
  simp [hv, hi, h, errOr]
noncomputable def lacA : Code := rfA (pth [1, 1, 1, 0, 1, 0] (bodyOf Tryz.f33))
noncomputable def lacB : Code := rfB (pth [1, 1, 1, 0, 1, 0] (bodyOf Tryz.f33))
set_option maxRecDepth 4000 in
set_option maxHeartbeats 1000000 in
theorem lacRound_yes (v w : Vec) (j : Nat) (hj1 : 1 ≤ j) (hj : j < 9) (hv : v j ≤ 4611686018427387904) (h : v j < w j) : DRound Tryz.prog 0 [.val (.int .i64 (j : Int))] [.lp 34 [(2, .loc 1 0), (3, .loc 2 0), (5, .loc 3 0)] #[13] lacA lacB .ready none, .flat 24 (c9 v), .flat 24 (c9 w), .mix 79 [.farr 4 (lackL v w j).length], fmS (lackL v w j)] true [.lp 34 [(2, .loc 1 0), (3, .loc 2 0), (5, .loc 3 0)] #[13] lacA lacB .ready none, .flat 24 (c9 v), .flat 24 (c9 w), .mix 79 [.farr 4 (lackL v w (j + 1)).length], fmS (lackL v w (j + 1))] := by
  refine dround_go 5 rfl rfl (by simp) rfl rfl fun s0 hs0 => ?_
  refine zac ?_
  refine zab rfl rfl rfl (zad (.inr rfl) (ev1 rfl)) ?_
  refine zae ?_
  refine ⟨rfl, ?_⟩
  simp only [za, zaa]
  refine dwp_block ?_
  refine zaf ?_
  refine dwp_draw [([], []), ([], []), ([1], []), ([], []), ([], []), ([2], []), ([], [])] mixed (by kernel_rfl) ?_
  refine lex_r rfl rfl (zad (.inl rfl) (ev1 rfl)) ?_
  refine lex_r rfl rfl (op_ixl rfl ar24 (ev1 rfl) (ev1 rfl) (fun _ => by omega)) ?_
  refine lex_r rfl rfl (op_ldo rfl tb22 (ev1 rfl) rfl (c9_atp (j := j) (by simp) hj)) ?_
  refine lex_r rfl rfl (zad (.inl rfl) (ev1 rfl)) ?_
  refine lex_r rfl rfl (op_ixl rfl ar24 (ev1 rfl) (ev1 rfl) (fun _ => by omega)) ?_
  refine lex_r rfl rfl (op_ldo rfl tb22 (ev1 rfl) rfl (c9_atp (j := j) (by simp) hj)) ?_
  refine lex_r rfl rfl (op_lss rfl (ev1 rfl) (ev1 rfl)) ?_
  refine lex_nil ?_
  refine dwp_if_t rfl (by simp; omega) ?_
  have hll := lackL_len v w j
  refine zah 2 (by simp only [holes, List.cons_append, List.nil_append]; exact rfl) ?_
  refine dwp_draw [([3], []), ([], []), ([], []), ([], []), ([1], []), ([], []), ([], []), ([], []), ([2], []), ([], []), ([], []), ([4, 5, 6], [4, 5, 6]), ([3], [3])] mixed (by kernel_rfl) ?_
  refine lex_r rfl rfl (op_ldm rfl tb79 (ev1 rfl) rfl rfl) ?_
  refine lex_r rfl rfl (zad (.inl rfl) (ev1 rfl)) ?_
  refine lex_r rfl rfl (zad (.inl rfl) (ev1 rfl)) ?_
  refine lex_r rfl rfl (op_ixl rfl ar24 (ev1 rfl) (ev1 rfl) (fun _ => by omega)) ?_
  refine lex_r rfl rfl (op_ldo rfl tb22 (ev1 rfl) rfl (c9_atp (j := j) (by simp) hj)) ?_
  refine lex_r rfl rfl (op_add' rfl (ev1 rfl) (ev1 rfl) (fun _ => IntWalk.u64_in _ (by omega))) ?_
  refine lex_r rfl rfl (zad (.inl rfl) (ev1 rfl)) ?_
  refine lex_r rfl rfl (op_ixl rfl ar24 (ev1 rfl) (ev1 rfl) (fun _ => by omega)) ?_
  refine lex_r rfl rfl (op_ldo rfl tb22 (ev1 rfl) rfl (c9_atp (j := j) (by simp) hj)) ?_
  refine lex_r rfl rfl (op_build (ps := [(0, .tmp 22), (1, .tmp 26), (2, .tmp 29)]) rfl fl82 zr82 (vc (ev1 rfl) (vc (ev1 rfl) (vc (ev1 rfl) vn))) rfl rfl) ?_
  refine lex_r rfl rfl (op_bs (ps := [(0, .tmp 30)]) rfl sl79 zr82 rfl (vc (ev1 rfl) vn) rfl (by decide) (by decide)) ?_
  refine lex_w rfl rfl ((op_appF (j1 := 5) (j2 := 6) rfl rfl sl79 zr82 rfl (ev1 rfl) (ev1 rfl) rfl (fm_at) rfl rfl rfl (fun _ => rfl) (fun _ => ⟨by omega, by omega⟩)).cast (d' := .farr 4 (lackL v w (j + 1)).length) (by rw [fm_len, lackL_yes hj1 h, List.length_append]; rfl)) rfl (by simp only [upd, za, zaa]; exact rfl) ?_
  refine lex_s rfl rfl (op_stm rfl tb79 (ev1 rfl) (ev1 rfl) (fun s v h => by cases h <;> exact ⟨rfl, rfl⟩) rfl (by first | decide | exact Nat.le_of_ble_eq_true rfl | simp)) rfl (by simp only [upd, za, zaa]; exact rfl) ?_
  refine lex_nil ?_
  refine ⟨by first | rfl | assumption | simp_all, rfl, [0, 1, 2, 3, 4], rfl, ⟨rfl, rfl, rfl, rfl, (fmS_app (l := lackL v w j) (x := (j, v j + 1, w j))).trans (by rw [lackL_yes hj1 h]), trivial⟩⟩
set_option maxRecDepth 4000 in
set_option maxHeartbeats 1000000 in
theorem lacRound_no (v w : Vec) (j : Nat) (hj1 : 1 ≤ j) (hj : j < 9) (hv : v j ≤ 4611686018427387904) (h : ¬ v j < w j) : DRound Tryz.prog 0 [.val (.int .i64 (j : Int))] [.lp 34 [(2, .loc 1 0), (3, .loc 2 0), (5, .loc 3 0)] #[13] lacA lacB .ready none, .flat 24 (c9 v), .flat 24 (c9 w), .mix 79 [.farr 4 (lackL v w j).length], fmS (lackL v w j)] true [.lp 34 [(2, .loc 1 0), (3, .loc 2 0), (5, .loc 3 0)] #[13] lacA lacB .ready none, .flat 24 (c9 v), .flat 24 (c9 w), .mix 79 [.farr 4 (lackL v w j).length], fmS (lackL v w j)] := by
  refine dround_go 5 rfl rfl (by simp) rfl rfl fun s0 hs0 => ?_
  refine zac ?_
  refine zab rfl rfl rfl (zad (.inr rfl) (ev1 rfl)) ?_
  refine zae ?_
  refine ⟨rfl, ?_⟩
  simp only [za, zaa]
  refine dwp_block ?_
  refine zaf ?_
  refine dwp_draw [([], []), ([], []), ([1], []), ([], []), ([], []), ([2], []), ([], [])] mixed (by kernel_rfl) ?_
  refine lex_r rfl rfl (zad (.inl rfl) (ev1 rfl)) ?_
  refine lex_r rfl rfl (op_ixl rfl ar24 (ev1 rfl) (ev1 rfl) (fun _ => by omega)) ?_
  refine lex_r rfl rfl (op_ldo rfl tb22 (ev1 rfl) rfl (c9_atp (j := j) (by simp) hj)) ?_
  refine lex_r rfl rfl (zad (.inl rfl) (ev1 rfl)) ?_
  refine lex_r rfl rfl (op_ixl rfl ar24 (ev1 rfl) (ev1 rfl) (fun _ => by omega)) ?_
  refine lex_r rfl rfl (op_ldo rfl tb22 (ev1 rfl) rfl (c9_atp (j := j) (by simp) hj)) ?_
  refine lex_r rfl rfl (op_lss rfl (ev1 rfl) (ev1 rfl)) ?_
  refine lex_nil ?_
  refine dwp_if_f rfl (by simp; omega) ?_
  refine dwp_skip ?_
  refine ⟨by first | rfl | assumption | simp_all, rfl, [0, 1, 2, 3, 4], rfl, ⟨rfl, rfl, rfl, rfl, rfl, trivial⟩⟩
set_option maxRecDepth 4000 in
set_option maxHeartbeats 1000000 in
theorem vs1_lac (v w : Vec) (hv : vB v = true) : DFun Tryz.prog 64 [.yld 0] [.lp 34 [(2, .loc 1 0), (3, .loc 2 0), (5, .loc 3 0)] #[13] lacA lacB .ready none, .flat 24 (c9 v), .flat 24 (c9 w), .mix 79 [.farr 4 (lackL v w 1).length], fmS (lackL v w 1)] (.tup []) [.lp 34 [(2, .loc 1 0), (3, .loc 2 0), (5, .loc 3 0)] #[13] lacA lacB .ready none, .flat 24 (c9 v), .flat 24 (c9 w), .mix 79 [.farr 4 (lackL v w 9).length], fmS (lackL v w 9)] := by
  refine dcalls_go (N := 11) 5 (by kernel_rfl) Tryz.func64 rfl rfl rfl (by simp only [fr0, Nat.zero_add, Nat.reduceAdd]; exact rfl) rfl fun s0 hs0 => ?_
  refine zaf ?_
  have hvl := (vB_iff.1 hv).2
  refine zac ?_
  refine zab rfl rfl rfl (zad (.inr rfl) (ev1 rfl)) ?_
  refine zae ?_
  refine dwp_block ?_
  refine dwp_loopS ⟨hs0, rfl⟩ (α := Nat) (fun k => [(2, .val (.int .i64 (k : Int)))]) [(0, _)] (fun k => [(3, .mix 79 [.farr 4 (lackL v w k).length]), (4, fmS (lackL v w k))]) [_, _, _, .hole, .hole] (fun k => 1 ≤ k ∧ k ≤ 9) (fun k => 9 - k) 1 [0, 1, 2, 3, 4] (by simp) rfl ⟨rfl, trivial⟩ ⟨rfl, trivial⟩ ⟨rfl, rfl, rfl, rfl, rfl, trivial⟩ ?_
  intro k hx
  simp only [upd, za, zaa, List.cons_append, List.nil_append]
  obtain ⟨hk1, hk⟩ := hx
  refine zaf ?_
  refine zaf ?_
  refine zac ?_
  refine zab rfl rfl rfl (zad (.inl rfl) (ev1 rfl)) ?_
  refine zab rfl rfl rfl (op_leq rfl (ev1 rfl) (ev1 rfl)) ?_
  refine zae ?_
  refine dwp_cond rfl (fun c1 => ?_) (fun c1 => ?_)
  · try simp only [decide_eq_true_eq, decide_eq_false_iff_not, beq_iff_eq, bne_iff_ne, beq_eq_false_iff_ne, bne_eq_false_iff_eq, Bool.not_eq_true', Bool.not_eq_false', Bool.and_eq_true, Bool.or_eq_true, Bool.or_eq_false_iff, ne_eq, Decidable.not_not, Int.not_lt, Int.not_le] at c1
    refine dwp_skip ?_
    refine zaf ?_
    refine dwp_block ?_
    refine zaf ?_
    by_cases hw : v k < w k
    · refine zac ?_
      refine zab rfl rfl rfl (zad (.inl rfl) (ev1 rfl)) ?_
      refine zab rfl rfl rfl (zad (.inl rfl) (ev1 rfl)) ?_
      refine walk_w rfl rfl rfl (op_y (i := 0) [0, 1, 2, 3, 4] [] [] rfl (ev1 rfl) (ec (ev1 rfl) en) rfl rfl rfl (lacRound_yes v w k hk1 (by omega) (hvl k (by omega)) hw) rfl rfl rfl rfl rfl) (by simp only [upd, za, zaa]; exact rfl) ?_
      refine zab rfl rfl rfl (op_not rfl (ev1 rfl)) ?_
      refine zae ?_
      refine dwp_if_f rfl (rfl) ?_
      refine dwp_skip ?_
      refine zac ?_
      refine zab rfl rfl rfl (zad (.inl rfl) (ev1 rfl)) ?_
      refine zab rfl rfl rfl (op_add' rfl (ev1 rfl) (ev1 rfl) (fun _ => IntWalk.i64_in _ (by omega))) ?_
      refine zab rfl rfl rfl (zad (.inr rfl) (ev1 rfl)) ?_
      refine zae ?_
      refine ⟨k + 1, [0, 1, 2, 3, 4], ⟨by omega, by omega⟩, by simp only []; omega, rfl, ⟨rfl, rfl, trivial⟩, ⟨rfl, rfl, rfl, rfl, rfl, trivial⟩⟩
    · refine zac ?_
      refine zab rfl rfl rfl (zad (.inl rfl) (ev1 rfl)) ?_
      refine zab rfl rfl rfl (zad (.inl rfl) (ev1 rfl)) ?_
      refine walk_w rfl rfl rfl (op_y (i := 0) [0, 1, 2, 3, 4] [] [] rfl (ev1 rfl) (ec (ev1 rfl) en) rfl rfl rfl (lacRound_no v w k hk1 (by omega) (hvl k (by omega)) hw) rfl rfl rfl rfl rfl) (by simp only [upd, za, zaa]; exact rfl) ?_
      refine zab rfl rfl rfl (op_not rfl (ev1 rfl)) ?_
      refine zae ?_
      refine dwp_if_f rfl (rfl) ?_
      refine dwp_skip ?_
      refine zac ?_
      refine zab rfl rfl rfl (zad (.inl rfl) (ev1 rfl)) ?_
      refine zab rfl rfl rfl (op_add' rfl (ev1 rfl) (ev1 rfl) (fun _ => IntWalk.i64_in _ (by omega))) ?_
      refine zab rfl rfl rfl (zad (.inr rfl) (ev1 rfl)) ?_
      refine zae ?_
      refine ⟨k + 1, [0, 1, 2, 3, 4], ⟨by omega, by omega⟩, by simp only []; omega, rfl, ⟨rfl, rfl, trivial⟩, ⟨rfl, rfl, rfl, by rw [lackL_no hw]; rfl, by rw [lackL_no hw]; rfl, trivial⟩⟩
  · try simp only [decide_eq_true_eq, decide_eq_false_iff_not, beq_iff_eq, bne_iff_ne, beq_eq_false_iff_ne, bne_eq_false_iff_eq, Bool.not_eq_true', Bool.not_eq_false', Bool.and_eq_true, Bool.or_eq_true, Bool.or_eq_false_iff, ne_eq, Decidable.not_not, Int.not_lt, Int.not_le] at c1
    refine dwp_exit ?_
    obtain rfl : k = 9 := by omega
    refine kend [0, 1, 2, 3, 4] (res_none rfl) rfl rfl ?_ ⟨rfl, rfl, rfl, rfl, rfl, trivial⟩
    rfl
set_option maxRecDepth 4000 in
set_option maxHeartbeats 1000000 in
theorem lacks_o (v w : Vec) (hv : vB v = true) (hw : vB w = true) : DFun Tryz.prog 33 [.val (.agg (c9 v).toArray), .val (.agg (c9 w).toArray)] [] (.farr 0 (lackL v w 9).length) [fmS (lackL v w 9)] := by
  refine dcalls_go (N := 34) 0 (by kernel_rfl) Tryz.func33 rfl rfl rfl (by simp only [fr0, Nat.zero_add, Nat.reduceAdd]; exact rfl) rfl fun s0 hs0 => ?_
  refine zaf ?_
  refine zah 2 (by simp only [holes, List.cons_append, List.nil_append]; exact rfl) ?_
  refine zac ?_
  refine walk_w rfl rfl rfl (op_boxa 0 rfl (ev1 rfl) rfl) (by simp only [upd, za, zaa]; exact rfl) ?_
  refine walk_w rfl rfl rfl (op_boxa 1 rfl (ev1 rfl) rfl) (by simp only [upd, za, zaa]; exact rfl) ?_
  refine zab rfl rfl rfl (zad (.inr rfl) (ev1 rfl)) ?_
  refine zae ?_
  refine zaf ?_
  refine zaf ?_
  refine zac ?_
  refine zab rfl rfl rfl (op_ldw rfl tb24 (ev1 rfl) rfl rfl) ?_
  refine zab rfl rfl rfl (op_ldw rfl tb24 (ev1 rfl) rfl rfl) ?_
  refine zab rfl rfl rfl (op_bs (ps := [(0, .tmp 7), (1, .tmp 8)]) rfl sl101 zr24 rfl (vc (ev1 rfl) (vc (ev1 rfl) vn)) rfl (by decide) (by decide)) ?_
  refine zab rfl rfl rfl (zai [] [] [] rfl (ev1 rfl) (ec (ev1 rfl) en) rfl rfl (are_d [v, w]) rfl rfl rfl rfl rfl rfl) ?_
  refine zab rfl rfl rfl (op_not rfl (ev1 rfl)) ?_
  refine zae ?_
  refine dwp_if_f rfl (by simp [hv, hw]) ?_
  refine dwp_skip ?_
  refine zaf ?_
  refine zah 1 (by simp only [holes, List.cons_append, List.nil_append]; exact rfl) ?_
  refine zac ?_
  refine walk_w rfl rfl rfl (op_alloc 2 rfl zr79 rfl) (by simp only [upd, za, zaa]; exact rfl) ?_
  refine zae ?_
  refine zaf ?_
  refine zaf ?_
  refine zac ?_
  refine zab rfl rfl rfl (zai [] [] [] rfl (ev1 rfl) en rfl rfl (vsites_d) rfl rfl rfl rfl rfl rfl) ?_
  refine zae ?_
  refine dwp_block ?_
  refine dwp_adoptm 2 82 3 rfl (by simp only [List.cons_append, List.nil_append, za, zaa, List.length_cons, List.length_nil, Nat.zero_add, Nat.reduceAdd]; exact rfl) ?_
  refine dwp_hole ?_
  refine dwp_fam 4 rfl (by simp only [List.cons_append, List.nil_append, za, zaa]; exact rfl) ?_
  refine dwp_absc 2 0 4 rfl rfl rfl rfl (by simp only [List.cons_append, List.nil_append, za, zaa]; exact rfl) ?_
  refine dwp_hole ?_
  simp only [List.cons_append, List.nil_append]
  refine dwp_rf (FL := [(2, _), (3, _), (5, _)]) (st := .ready) (pe := none) [5, 0, 1, 2, 4] [] [] 5 rfl rfl (ev1 rfl) rfl (subF_lk ⟨rfl, rfl, rfl, trivial⟩) rfl rfl rfl (vs1_lac v w hv) rfl rfl rfl rfl rfl rfl rfl (by simp) (fun e => ?_) (fun c e => ?_)
  · simp only [upd, za, zaa]
    refine zaf ?_
    refine zac ?_
    refine zab rfl rfl rfl (op_ldm rfl tb79 (ev1 rfl) rfl rfl) ?_
    refine zab rfl rfl rfl (zad (.inr rfl) (ev1 rfl)) ?_
    refine zae ?_
    refine dwp_ret ?_
    refine kend [4] (rs1 rfl (rv_t rfl)) rfl rfl ?_ ⟨rfl, trivial⟩
    rfl
  · cases e
theorem lacks_d (v w : Vec) (hv : vB v = true) (hw : vB w = true) : DFun Tryz.prog 33 [.val (.agg (c9 v).toArray), .val (.agg (c9 w).toArray)] [] (.slf 3 (lackL v w 9).length ((lackL v w 9).flatMap st3)) [] :=
  freezeN (lacks_o v w hv hw) (σ := []) rfl rfl (vw_farrS (Bs := List.replicate (lackL v w 9).length .gone ++ [Mem.arr 82 3 (lackL v w 9).length ((lackL v w 9).flatMap st3)]) rfl rfl rfl fm_at) trivial
set_option maxRecDepth 4000 in
set_option maxHeartbeats 1000000 in
theorem many_d (v w : Vec) (hv : vB v = true) (hw : vB w = true) : DFun Tryz.prog 13 [.val (.agg (c9 v).toArray), .val (.agg (c9 w).toArray)] [] (.val (.int .u64 (manyT (lackL v w 9) : Int))) [] := by
  refine dcalls_go (N := 27) 0 (by kernel_rfl) Tryz.func13 rfl rfl rfl (by simp only [fr0, Nat.zero_add, Nat.reduceAdd]; exact rfl) rfl fun s0 hs0 => ?_
  refine zaf ?_
  refine zah 2 (by simp only [holes, List.cons_append, List.nil_append]; exact rfl) ?_
  refine zac ?_
  refine walk_w rfl rfl rfl (op_boxa 0 rfl (ev1 rfl) rfl) (by simp only [upd, za, zaa]; exact rfl) ?_
  refine walk_w rfl rfl rfl (op_boxa 1 rfl (ev1 rfl) rfl) (by simp only [upd, za, zaa]; exact rfl) ?_
  refine zab rfl rfl rfl (zad (.inr rfl) (ev1 rfl)) ?_
  refine zae ?_
  refine zaf ?_
  refine zac ?_
  refine zab rfl rfl rfl (zad (.inr rfl) (ev1 rfl)) ?_
  refine zae ?_
  refine zaf ?_
  refine zaf ?_
  have hvl := (vB_iff.1 hv).2
  have hwl := (vB_iff.1 hw).2
  refine zac ?_
  refine zab rfl rfl rfl (op_ldw rfl tb24 (ev1 rfl) rfl rfl) ?_
  refine zab rfl rfl rfl (op_ldw rfl tb24 (ev1 rfl) rfl rfl) ?_
  refine zab rfl rfl rfl (zai [] [] [] rfl (ev1 rfl) (ec (ev1 rfl) (ec (ev1 rfl) en)) rfl rfl (lacks_d v w hv hw) rfl rfl rfl rfl rfl rfl) ?_
  refine zab rfl rfl rfl (op_len rfl sl79 (ev1 rfl)) ?_
  refine zab rfl rfl rfl (zad (.inl rfl) (ev1 rfl)) ?_
  refine zae ?_
  refine dwp_block ?_
  refine dwp_loopS ⟨hs0, rfl⟩ (α := Nat) (fun k => [(5, .val (.int .u64 (manyT ((lackL v w 9).take k) : Int))), (12, .val (.int .i64 (k : Int)))]) [(10, _), (11, _)] (fun k => []) [_, _] (fun k => k ≤ (lackL v w 9).length) (fun k => (lackL v w 9).length - k) 0 [0, 1] (Nat.zero_le _) rfl ⟨rfl, rfl, trivial⟩ ⟨rfl, rfl, trivial⟩ ⟨rfl, rfl, trivial⟩ ?_
  intro k hx
  simp only [upd, za, zaa, List.cons_append, List.nil_append]
  have hk := hx
  have hLA : LAST = 4611686018427387904 := rfl
  have h9l := lackL_len v w 9
  have hml := manyT_le ((lackL v w 9).take k)
  have hmm := fun h : k < (lackL v w 9).length => lackL_mem (List.getElem_mem h)
  refine zaf ?_
  refine zac ?_
  refine zab rfl rfl rfl (op_lss rfl (ev1 rfl) (ev1 rfl)) ?_
  refine zae ?_
  refine zaf ?_
  refine dwp_cond rfl (fun c1 => ?_) (fun c1 => ?_)
  · try simp only [decide_eq_true_eq, decide_eq_false_iff_not, beq_iff_eq, bne_iff_ne, beq_eq_false_iff_ne, bne_eq_false_iff_eq, Bool.not_eq_true', Bool.not_eq_false', Bool.and_eq_true, Bool.or_eq_true, Bool.or_eq_false_iff, ne_eq, Decidable.not_not, Int.not_lt, Int.not_le] at c1
    refine dwp_skip ?_
    refine zaf ?_
    refine dwp_block ?_
    refine zaf ?_
    refine zah 1 (by simp only [holes, List.cons_append, List.nil_append]; exact rfl) ?_
    refine zac ?_
    refine zab rfl rfl rfl (op_ixsr (j := k) rfl sl79 (ev1 rfl) (ev1 rfl) (fun _ => rfl) (by decide) (by omega) (by omega)) ?_
    refine zab rfl rfl rfl (op_ldwd rfl tb82 (ev1 rfl) rfl) ?_
    refine walk_w rfl rfl rfl (op_alloc 2 rfl zr82 rfl) (by simp only [upd, za, zaa]; exact rfl) ?_
    refine walk_s rfl rfl (op_stwa rfl tb82 (ev1 rfl) (ev1 rfl) rfl rfl rfl rfl) (by simp only [upd, za, zaa]; exact rfl) ?_
    refine zae ?_
    obtain ⟨a1, a2, a3, a4, a5⟩ := hmm (by omega)
    have b1 := hvl ((lackL v w 9)[k]).1 (by omega)
    have b2 := hwl ((lackL v w 9)[k]).1 (by omega)
    refine zac ?_
    refine zab rfl rfl rfl (zad (.inl rfl) (ev1 rfl)) ?_
    refine zab rfl rfl rfl (op_fa rfl fo82_2 (ev1 rfl)) ?_
    refine zab rfl rfl rfl (op_ldo rfl tb22 (ev1 rfl) rfl rfl) ?_
    refine zab rfl rfl rfl (op_add' rfl (ev1 rfl) (ev1 rfl) (fun _ => IntWalk.u64_in _ (by omega))) ?_
    refine zab rfl rfl rfl (op_fa rfl fo82_1 (ev1 rfl)) ?_
    refine zab rfl rfl rfl (op_ldo rfl tb22 (ev1 rfl) rfl rfl) ?_
    refine zab rfl rfl rfl (op_sub' rfl (ev1 rfl) (ev1 rfl) (fun _ => IntWalk.u64_in _ (by omega))) ?_
    refine zab rfl rfl rfl (op_add' rfl (ev1 rfl) (ev1 rfl) (fun _ => IntWalk.u64_in _ (by omega))) ?_
    refine zab rfl rfl rfl (op_min rfl (ev1 rfl) (ev1 rfl)) ?_
    refine zab rfl rfl rfl (zad (.inr rfl) (ev1 rfl)) ?_
    refine zae ?_
    refine zac ?_
    refine zab rfl rfl rfl (op_add' rfl (ev1 rfl) (ev1 rfl) (fun _ => IntWalk.i64_in _ (by omega))) ?_
    refine zab rfl rfl rfl (zad (.inl rfl) (ev1 rfl)) ?_
    refine zae ?_
    refine ⟨k + 1, [0, 1], by omega, by simp only []; omega, rfl, ⟨congrArg (fun z => some (D.val (.int .u64 z))) (by rw [manyT_step (by omega)]; omega), rfl, rfl, rfl, trivial⟩, ⟨rfl, rfl, trivial⟩⟩
  · try simp only [decide_eq_true_eq, decide_eq_false_iff_not, beq_iff_eq, bne_iff_ne, beq_eq_false_iff_ne, bne_eq_false_iff_eq, Bool.not_eq_true', Bool.not_eq_false', Bool.and_eq_true, Bool.or_eq_true, Bool.or_eq_false_iff, ne_eq, Decidable.not_not, Int.not_lt, Int.not_le] at c1
    refine dwp_exit ?_
    refine zaf ?_
    refine zac ?_
    refine zab rfl rfl rfl (zad (.inl rfl) (ev1 rfl)) ?_
    refine zab rfl rfl rfl (zad (.inr rfl) (ev1 rfl)) ?_
    refine zae ?_
    refine dwp_ret ?_
    refine kend0 (rs1 rfl (rv_t rfl)) rfl ?_
    rw [List.take_of_length_le (by omega)]
end Go.Proofs.YtbcnaacgillhcaaGreat
namespace Go.Proofs.YtbcnaacgillhcaaGreat
set_option linter.unusedVariables false
set_option linter.unusedSimpArgs false
open Go.RowKit
def own65 (o : OpM) : OpM := { o with px := o.px.take (min o.px.length 65) }
def opsL (x : List OpM) : List OpM := (x.take (min x.length 40)).map own65
theorem opsL_len (x : List OpM) : (opsL x).length ≤ 40 := by
  unfold opsL
  rw [List.length_map, List.length_take]
  omega
theorem ops_step {x : List OpM} {j : Nat} (h : j < (x.take (min x.length 40)).length) : (((x.take (min x.length 40)).take (j + 1)).map own65) = (((x.take (min x.length 40)).take j).map own65) ++ [own65 ((x.take (min x.length 40))[j])] := by
  rw [List.take_succ_eq_append_getElem h, List.map_append]
  rfl
def ownL (l : LogM) : LogM := ⟨l.fo, l.bs, opsL l.ops⟩
theorem ownL_len (x : LogM) : (ownL x).ops.length ≤ 40 := opsL_len x.ops
set_option maxRecDepth 4000 in
set_option maxHeartbeats 1000000 in
theorem ops_d (x : List OpM) : DFun Tryz.prog 19 [.slm 19 x.length (x.flatMap opD)] [] (.slm 19 (opsL x).length ((opsL x).flatMap opD)) [] := by
  refine dcalls_go (N := 34) 0 (by kernel_rfl) Tryz.func19 rfl rfl rfl (by simp only [fr0, Nat.zero_add, Nat.reduceAdd]; exact rfl) rfl fun s0 hs0 => ?_
  refine dwp_lenm (t := 0) rfl fun hl0 hL0 => ?_
  refine zaf ?_
  refine zac ?_
  refine zab rfl rfl rfl (zad (.inr rfl) (ev1 rfl)) ?_
  refine zae ?_
  refine zaf ?_
  refine zac ?_
  refine zab rfl rfl rfl (zad (.inr rfl) (ev1 rfl)) ?_
  refine zae ?_
  refine zaf ?_
  refine zaf ?_
  refine dwp_lenm (t := 0) rfl fun hl0 hL0 => ?_
  refine zac ?_
  refine zab rfl rfl rfl (zad (.inl rfl) (ev1 rfl)) ?_
  refine zab rfl rfl rfl (zad (.inl rfl) (ev1 rfl)) ?_
  refine zab rfl rfl rfl (op_lenm rfl sl25 (ev1 rfl)) ?_
  refine zab rfl rfl rfl (op_min rfl (ev1 rfl) (ev1 rfl)) ?_
  refine zab rfl rfl rfl (op_slmtk (j := min x.length 40) rfl sl25 (ev1 rfl) (bd_some (ev1 rfl)) (fun _ => by omega) (fun _ => by omega) (fun _ => rfl)) ?_
  refine zab rfl rfl rfl (op_lenm rfl sl25 (ev1 rfl)) ?_
  refine zab rfl rfl rfl (zad (.inl rfl) (ev1 rfl)) ?_
  refine zae ?_
  refine dwp_block ?_
  refine dwp_adoptx 3 44 19 rfl rfl rfl ?_
  refine dwp_loopS ⟨hs0, rfl⟩ (α := Nat) (fun k => [(12, .val (.int .i64 (k : Int)))]) [(3, _), (10, _), (11, _)] (fun k => [(0, .arx 44 19 (((x.take (min x.length 40)).take k).map own65).length ((((x.take (min x.length 40)).take k).map own65).flatMap opD))]) [.hole] (fun k => k ≤ (x.take (min x.length 40)).length) (fun k => (x.take (min x.length 40)).length - k) 0 [0] (Nat.zero_le _) rfl ⟨rfl, rfl, rfl, trivial⟩ ⟨rfl, trivial⟩ ⟨rfl, trivial⟩ ?_
  intro k hx
  simp only [upd, za, zaa, List.cons_append, List.nil_append]
  have hk := hx
  have h40 : (x.take (min x.length 40)).length ≤ 40 := by rw [List.length_take]; omega
  refine zaf ?_
  refine zac ?_
  refine zab rfl rfl rfl (op_lss rfl (ev1 rfl) (ev1 rfl)) ?_
  refine zae ?_
  refine zaf ?_
  refine dwp_cond rfl (fun c1 => ?_) (fun c1 => ?_)
  · try simp only [decide_eq_true_eq, decide_eq_false_iff_not, beq_iff_eq, bne_iff_ne, beq_eq_false_iff_ne, bne_eq_false_iff_eq, Bool.not_eq_true', Bool.not_eq_false', Bool.and_eq_true, Bool.or_eq_true, Bool.or_eq_false_iff, ne_eq, Decidable.not_not, Int.not_lt, Int.not_le] at c1
    refine dwp_skip ?_
    refine zaf ?_
    refine dwp_block ?_
    refine zaf ?_
    refine zah 1 (by simp only [holes, List.cons_append, List.nil_append]; exact rfl) ?_
    refine zac ?_
    refine zab rfl rfl rfl (op_ixmr (k) (by decide) rfl sl25 (ev1 rfl) (ev1 rfl) (fun _ => rfl) (by omega) (fun _ => rfl)) ?_
    refine zab rfl rfl rfl (op_lddr rfl tb44 (ev1 rfl) rfl rfl) ?_
    refine walk_w rfl rfl rfl (op_alloc 1 rfl zr44 rfl) (by simp only [upd, za, zaa]; exact rfl) ?_
    refine walk_s rfl rfl (op_stam rfl tb44 (ev1 rfl) (ev1 rfl) rfl rfl rfl rfl) (by simp only [upd, za, zaa]; exact rfl) ?_
    refine zae ?_
    refine zaf ?_
    refine zac ?_
    refine zab rfl rfl rfl (op_fa rfl fo44_8 (ev1 rfl)) ?_
    refine zab rfl rfl rfl (op_fa rfl fo42_2 (ev1 rfl)) ?_
    refine zab rfl rfl rfl (op_ldm rfl tb40 (ev1 rfl) rfl rfl) ?_
    refine zab rfl rfl rfl (op_fa rfl fo44_8 (ev1 rfl)) ?_
    refine zab rfl rfl rfl (op_fa rfl fo42_2 (ev1 rfl)) ?_
    refine zab rfl rfl rfl (op_ldm rfl tb40 (ev1 rfl) rfl rfl) ?_
    refine zab rfl rfl rfl (op_len rfl sl40 (ev1 rfl)) ?_
    refine zab rfl rfl rfl (op_min rfl (ev1 rfl) (ev1 rfl)) ?_
    refine zab rfl rfl rfl (op_sltk (j := min ((x.take (min x.length 40))[k]).px.length 65) rfl sl40 (ev1 rfl) (bd_some (ev1 rfl)) (fun _ => by omega) (fun _ => by omega) (fun _ => rfl)) ?_
    refine zab rfl rfl rfl (zai [] [] [] rfl (ev1 rfl) (ec (ev1 rfl) en) rfl rfl (cloneC_f _ (by rw [List.length_take]; omega)) rfl rfl rfl rfl rfl rfl) ?_
    refine zab rfl rfl rfl (op_fa rfl fo44_8 (ev1 rfl)) ?_
    refine zab rfl rfl rfl (op_fa rfl fo42_2 (ev1 rfl)) ?_
    refine walk_s rfl rfl (op_stm rfl tb40 (ev1 rfl) (ev1 rfl) (fun s v h => by cases h <;> exact ⟨rfl, rfl⟩) rfl (by first | decide | exact Nat.le_of_ble_eq_true rfl | simp)) (by simp only [upd, za, zaa]; exact rfl) ?_
    refine zae ?_
    refine zah 1 (by simp only [holes, List.cons_append, List.nil_append]; exact rfl) ?_
    refine zac ?_
    refine zab rfl rfl rfl (zad (.inl rfl) (ev1 rfl)) ?_
    refine zab rfl rfl rfl (op_ldmw rfl tb44 (ev1 rfl) rfl rfl) ?_
    refine zab rfl rfl rfl (op_bsr (ps := [(0, .tmp 29)]) rfl sl25 zr44 rfl (ec (ev1 rfl) en) rfl rfl rfl (by rfl) rfl (by decide) (by decide)) ?_
    refine walk_w rfl rfl rfl (op_appr (j := 2) rfl sl25 zr44 rfl (ev1 rfl) (ev1 rfl) rfl rfl (rfl) (fun _ => ⟨by rw [List.length_map, List.length_take]; omega, by rw [List.length_map, List.length_take]; omega⟩)) (by simp only [upd, za, zaa]; exact rfl) ?_
    refine zab rfl rfl rfl (zad (.inr rfl) (ev1 rfl)) ?_
    refine zae ?_
    refine zac ?_
    refine zab rfl rfl rfl (op_add' rfl (ev1 rfl) (ev1 rfl) (fun _ => IntWalk.i64_in _ (by omega))) ?_
    refine zab rfl rfl rfl (zad (.inl rfl) (ev1 rfl)) ?_
    refine zae ?_
    refine ⟨k + 1, [2], by omega, by simp only []; omega, rfl, ⟨rfl, rfl, rfl, rfl, trivial⟩, ⟨arxr_fits (by rw [ops_step (by omega), List.length_append]; rfl) (by rw [ops_step (by omega), List.flatMap_append]; rfl) (ops_nl2 _), trivial⟩⟩
  · try simp only [decide_eq_true_eq, decide_eq_false_iff_not, beq_iff_eq, bne_iff_ne, beq_eq_false_iff_ne, bne_eq_false_iff_eq, Bool.not_eq_true', Bool.not_eq_false', Bool.and_eq_true, Bool.or_eq_true, Bool.or_eq_false_iff, ne_eq, Decidable.not_not, Int.not_lt, Int.not_le] at c1
    refine dwp_exit ?_
    refine zaf ?_
    refine dwp_give 3 (ops_nl2 _) rfl rfl (by simp only [za, zaa]; exact rfl) ?_
    obtain rfl : k = (x.take (min x.length 40)).length := by omega
    refine zac ?_
    refine zab rfl rfl rfl (zad (.inl rfl) (ev1 rfl)) ?_
    refine zab rfl rfl rfl (zad (.inr rfl) (ev1 rfl)) ?_
    refine zae ?_
    refine dwp_ret ?_
    refine kend0 (rs1 rfl (rv_t rfl)) rfl ?_
    rw [List.take_length]
    rfl
set_option maxRecDepth 4000 in
set_option maxHeartbeats 1000000 in
theorem own_d (l : LogM) : DFun Tryz.prog 5 [.agg (logD l)] [] (.agg (logD (ownL l))) [] := by
  refine dcalls_go (N := 11) 0 (by kernel_rfl) Tryz.func5 rfl rfl rfl (by simp only [fr0, Nat.zero_add, Nat.reduceAdd]; exact rfl) rfl fun s0 hs0 => ?_
  refine zaf ?_
  refine zah 2 (by simp only [holes, List.cons_append, List.nil_append]; exact rfl) ?_
  refine zac ?_
  refine walk_w rfl rfl rfl (op_boxam 0 rfl (ev1 rfl) rfl) (by simp only [upd, za, zaa]; exact rfl) ?_
  refine walk_w rfl rfl rfl (op_alloc 1 rfl zr27 rfl) (by simp only [upd, za, zaa]; exact rfl) ?_
  refine zae ?_
  refine zaf ?_
  refine dwp_draw [([], []), ([0], []), ([], []), ([0], []), ([], []), ([0], []), ([], []), ([], []), ([1], [1])] mixed (by kernel_rfl) ?_
  refine lex_r rfl rfl (op_fa rfl fo27_0 (ev1 rfl)) ?_
  refine lex_r rfl rfl (op_ldm rfl tb22 (ev1 rfl) rfl rfl) ?_
  refine lex_r rfl rfl (op_fa rfl fo27_1 (ev1 rfl)) ?_
  refine lex_r rfl rfl (op_ldmv (R := [_, _, _, _, _, _, _, _, _]) rfl tb24 (ev1 rfl) rfl rfl rfl) ?_
  refine lex_r rfl rfl (op_fa rfl fo27_2 (ev1 rfl)) ?_
  refine lex_r rfl rfl (op_ldm rfl tb25 (ev1 rfl) rfl rfl) ?_
  refine lex_r rfl rfl (zai [] [] [] rfl (ev1 rfl) (ec (ev1 rfl) en) rfl rfl (ops_d l.ops) rfl rfl rfl rfl rfl rfl) ?_
  refine lex_r rfl rfl ((op_bldD (ps := [(0, .tmp 4), (1, .tmp 6), (2, .tmp 9)]) rfl fl27 zr27 (ec (ev1 rfl) (ec (ev1 rfl) (ec (ev1 rfl) en))) rfl rfl rfl).cast (d' := .agg (logD (ownL l))) (by kernel_rfl)) ?_
  refine lex_s rfl rfl (op_stam rfl tb27 (ev1 rfl) (ev1 rfl) rfl rfl rfl rfl) rfl (by simp only [upd, za, zaa]; exact rfl) ?_
  refine lex_nil ?_
  refine dwp_ret ?_
  refine kend0 (rs1 rfl (rv_mw tb27 rfl rfl rfl)) rfl ?_
  rfl
end Go.Proofs.YtbcnaacgillhcaaGreat
namespace Go.Proofs.YtbcnaacgillhcaaGreat
set_option linter.unusedVariables false
set_option linter.unusedSimpArgs false
open Go.RowKit
theorem zr25 : zrC Tryz.prog 25 = some [.slice none 0 0] := by kernel_rfl
def hasN (v : Vec) (o : OpM) : Bool := decide (((v o.id.s.toNat : Nat) : Int) < o.id.q)
set_option maxRecDepth 4000 in
set_option maxHeartbeats 1000000 in
theorem misH_d (o : OpM) (v : Vec) (hi : mayR o.id = true) : DFun Tryz.prog 39 [.dpm (opD o), .loc 0 0] [.flat 24 (c9 v)] (.val (.bool (hasN v o))) [.flat 24 (c9 v)] := by
  refine dcalls_go (N := 17) 1 (by kernel_rfl) Tryz.func39 rfl rfl rfl (by simp only [fr0, Nat.zero_add, Nat.reduceAdd]; exact rfl) rfl fun s0 hs0 => ?_
  refine zaf ?_
  refine zac ?_
  refine zab rfl rfl rfl (zad (.inr rfl) (ev1 rfl)) ?_
  refine zae ?_
  refine zaf ?_
  have hs8 := mayR_iff.1 hi
  refine dwp_draw [([], []), ([], []), ([], []), ([], []), ([], []), ([], []), ([], []), ([], []), ([], []), ([], []), ([], []), ([0], []), ([], []), ([], [])] mixed (by kernel_rfl) ?_
  refine lex_r rfl rfl (zad (.inl rfl) (ev1 rfl)) ?_
  refine lex_r rfl rfl (op_nc rfl (ev1 rfl) (fun s v h => by cases h; exact ⟨_, rfl⟩)) ?_
  refine lex_r rfl rfl (op_fadm rfl fo44_0 (ev1 rfl)) ?_
  refine lex_r rfl rfl (op_fadm rfl fo37_2 (ev1 rfl)) ?_
  refine lex_r rfl rfl (op_lddm rfl tb22 (ev1 rfl) rfl) ?_
  refine lex_r rfl rfl (zad (.inl rfl) (ev1 rfl)) ?_
  refine lex_r rfl rfl (op_nc rfl (ev1 rfl) (fun s v h => by cases h; exact ⟨_, rfl⟩)) ?_
  refine lex_r rfl rfl (op_fadm rfl fo44_0 (ev1 rfl)) ?_
  refine lex_r rfl rfl (op_fadm rfl fo37_1 (ev1 rfl)) ?_
  refine lex_r rfl rfl (op_lddm rfl tb3 (ev1 rfl) rfl) ?_
  refine lex_r rfl rfl (op_ixl rfl ar24 (ev1 rfl) (ev1 rfl) (fun _ => by omega)) ?_
  refine lex_r rfl rfl (op_ldo rfl tb22 (ev1 rfl) rfl (c9_atp (j := o.id.s.toNat) (by omega) (by omega))) ?_
  refine lex_r rfl rfl (op_gtr rfl (ev1 rfl) (ev1 rfl)) ?_
  refine lex_r rfl rfl (zad (.inr rfl) (ev1 rfl)) ?_
  refine lex_nil ?_
  refine dwp_ret ?_
  refine kend [0] (rs1 rfl (rv_t rfl)) rfl rfl ?_ ⟨rfl, trivial⟩
  rfl
set_option maxRecDepth 4000 in
set_option maxHeartbeats 1000000 in
theorem those_d (l : List OpM) (v : Vec) : DFun Tryz.prog 38 [.slm 19 l.length (l.flatMap opD), .fn (.func 39) [] [.loc 0 0]] [.flat 24 (c9 v)] (.fn (.func 56) [] [.loc 1 0, .loc 2 0]) [.flat 24 (c9 v), .mix 25 [.slm 19 l.length (l.flatMap opD)], .mix 91 [.fn (.func 39) [] [.loc 0 0]]] := by
  refine dcalls_go (N := 6) 1 (by kernel_rfl) Tryz.func38 rfl rfl rfl (by simp only [fr0, Nat.zero_add, Nat.reduceAdd]; exact rfl) rfl fun s0 hs0 => ?_
  refine dwp_lenm (t := 0) rfl fun hl0 hL0 => ?_
  refine zaf ?_
  refine zah 2 (by simp only [holes, List.cons_append, List.nil_append]; exact rfl) ?_
  refine zac ?_
  refine walk_w rfl rfl rfl (op_boxm 1 rfl (ev1 rfl) (fun s v h => by cases h <;> rfl) rfl) (by simp only [upd, za, zaa]; exact rfl) ?_
  refine walk_w rfl rfl rfl (op_boxm 2 rfl (ev1 rfl) (fun s v h => by cases h <;> rfl) rfl) (by simp only [upd, za, zaa]; exact rfl) ?_
  refine zab rfl rfl rfl (zad (.inr rfl) (ev1 rfl)) ?_
  refine zae ?_
  refine zaf ?_
  refine zac ?_
  refine zab rfl rfl rfl (op_mkf rfl en (ec (ev1 rfl) (ec (ev1 rfl) en))) ?_
  refine zab rfl rfl rfl (zad (.inr rfl) (ev1 rfl)) ?_
  refine zae ?_
  refine dwp_ret ?_
  refine kend [0, 1, 2] (rs1 rfl (rv_t rfl)) rfl rfl ?_ ⟨rfl, rfl, rfl, trivial⟩
  rfl
noncomputable def misA : Code := rfA (pth [1, 0, 1, 1, 1, 0, 1, 0] (bodyOf Tryz.f17))
noncomputable def misB : Code := rfB (pth [1, 0, 1, 1, 1, 0, 1, 0] (bodyOf Tryz.f17))
set_option maxRecDepth 4000 in
set_option maxHeartbeats 1000000 in
theorem misRound (R : List OpM) (o : OpM) (n : Nat) (hp : o.px.length ≤ 2000000) (hR : R.length < n) (hn : n ≤ 1000000) : DRound Tryz.prog 0 [.dpm (opD o)] [.lp 45 [(5, .loc 1 0), (8, .loc 2 0)] #[32] misA misB .ready none, .flat 3 [.int .i64 (n : Int)], .mix 25 [.arr 3], .arx 44 19 (R).length ((R).flatMap opD)] true [.lp 45 [(5, .loc 1 0), (8, .loc 2 0)] #[32] misA misB .ready none, .flat 3 [.int .i64 (n : Int)], .mix 25 [.arr 4], .gone, .arx 44 19 ((R ++ [o])).length (((R ++ [o])).flatMap opD)] := by
  refine dround_go 4 rfl rfl (by simp) rfl rfl fun s0 hs0 => ?_
  refine zac ?_
  refine zab rfl rfl rfl (zad (.inr rfl) (ev1 rfl)) ?_
  refine zae ?_
  refine ⟨rfl, ?_⟩
  simp only [za, zaa]
  refine dwp_block ?_
  refine zaf ?_
  refine zaf ?_
  refine zac ?_
  refine zab rfl rfl rfl (op_ldm rfl tb25 (ev1 rfl) rfl rfl) ?_
  refine zab rfl rfl rfl (op_lenx rfl sl25 (ev1 rfl) rfl) ?_
  refine zab rfl rfl rfl (op_ldo rfl tb3 (ev1 rfl) rfl rfl) ?_
  refine zab rfl rfl rfl (op_eql rfl (ev1 rfl) (ev1 rfl)) ?_
  refine zae ?_
  refine dwp_if_f rfl (by simp; omega) ?_
  refine dwp_skip ?_
  refine zah 1 (by simp only [holes, List.cons_append, List.nil_append]; exact rfl) ?_
  refine dwp_draw [([2], []), ([], []), ([], []), ([], []), ([], []), ([], []), ([3, 4], [3, 4]), ([2], [2])] mixed (by kernel_rfl) ?_
  refine lex_r rfl rfl (op_ldm rfl tb25 (ev1 rfl) rfl rfl) ?_
  refine lex_r rfl rfl (zad (.inl rfl) (ev1 rfl)) ?_
  refine lex_r rfl rfl (op_nc rfl (ev1 rfl) (fun s v h => by cases h; exact ⟨_, rfl⟩)) ?_
  refine lex_r rfl rfl (op_lddr rfl tb44 (ev1 rfl) rfl rfl) ?_
  refine lex_r rfl rfl (zai [] [] [] rfl (ev1 rfl) (ec (ev1 rfl) en) rfl rfl (copied_d o hp) rfl rfl rfl rfl rfl rfl) ?_
  refine lex_r rfl rfl (op_bsr (ps := [(0, .tmp 41)]) rfl sl25 zr44 rfl (ec (ev1 rfl) en) rfl rfl rfl (by rfl) rfl (by decide) (by decide)) ?_
  refine lex_w rfl rfl (op_appr (j := 4) rfl sl25 zr44 rfl (ev1 rfl) (ev1 rfl) rfl rfl (rfl) (fun _ => ⟨by omega, by omega⟩)) rfl (by simp only [upd, za, zaa]; exact rfl) ?_
  refine lex_s rfl rfl (op_stm rfl tb25 (ev1 rfl) (ev1 rfl) (fun s v h => by cases h <;> exact ⟨rfl, rfl⟩) rfl (by first | decide | exact Nat.le_of_ble_eq_true rfl | simp)) rfl (by simp only [upd, za, zaa]; exact rfl) ?_
  refine lex_nil ?_
  refine ⟨rfl, rfl, [0, 1, 2, 3, 4], rfl, ⟨rfl, rfl, rfl, rfl, arxr_fits (by simp) (by rw [List.flatMap_append]; rfl) (ops_nl2 _), trivial⟩⟩
theorem filt_yes {v : Vec} {l : List OpM} {k : Nat} (h : k < l.length) (hh : hasN v l[k] = true) : (l.take (k + 1)).filter (hasN v) = (l.take k).filter (hasN v) ++ [l[k]] := by
  rw [List.take_succ_eq_append_getElem h, List.filter_append, List.filter_cons_of_pos hh, List.filter_nil]
theorem filt_no {v : Vec} {l : List OpM} {k : Nat} (h : k < l.length) (hh : hasN v l[k] = false) : (l.take (k + 1)).filter (hasN v) = (l.take k).filter (hasN v) := by
  rw [List.take_succ_eq_append_getElem h, List.filter_append, List.filter_cons_of_neg (by rw [hh]; decide), List.filter_nil, List.append_nil]
theorem filt_1 {v : Vec} {l : List OpM} (h : 0 < l.length) (hh : hasN v l[0] = true) : (l.take 1).filter (hasN v) = [l[0]] := by
  have := filt_yes h hh
  exact this
theorem filt_len (v : Vec) (l : List OpM) (k : Nat) : ((l.take k).filter (hasN v)).length ≤ k := Nat.le_trans (List.length_filter_le _ _) (by rw [List.length_take]; omega)
set_option maxRecDepth 4000 in
set_option maxHeartbeats 1000000 in
theorem those_go (l : List OpM) (v : Vec) (n : Nat) (hid : idOk l) (hpx : ∀ o ∈ l, o.px.length ≤ 2000000) (h0 : 0 < l.length) (hh : hasN v l[0] = true) (hn : l.length ≤ n) (hn2 : n ≤ 1000000) : DFun Tryz.prog 56 [.yld 0, .loc 4 0, .loc 5 0] [.lp 45 [(5, .loc 1 0), (8, .loc 2 0)] #[32] misA misB .ready none, .flat 3 [.int .i64 (n : Int)], .mix 25 [.arr 3], .arx 44 19 (([] : List OpM)).length ((([] : List OpM)).flatMap opD), .mix 25 [.slm 19 l.length (l.flatMap opD)], .mix 91 [.fn (.func 39) [] [.loc 6 0]], .flat 24 (c9 v)] (.tup []) [.lp 45 [(5, .loc 1 0), (8, .loc 2 0)] #[32] misA misB .ready none, .flat 3 [.int .i64 (n : Int)], .mix 25 [.arr 7], .gone, .mix 25 [.slm 19 l.length (l.flatMap opD)], .mix 91 [.fn (.func 39) [] [.loc 6 0]], .flat 24 (c9 v), .arx 44 19 ((l.filter (hasN v))).length (((l.filter (hasN v))).flatMap opD)] := by
  refine dcalls_go (N := 24) 7 (by kernel_rfl) Tryz.func56 rfl rfl rfl (by simp only [fr0, Nat.zero_add, Nat.reduceAdd]; exact rfl) rfl fun s0 hs0 => ?_
  refine zaf ?_
  refine zac ?_
  refine zab rfl rfl rfl (op_ldm rfl tb25 (ev1 rfl) rfl rfl) ?_
  refine zab rfl rfl rfl (op_lenm rfl sl25 (ev1 rfl)) ?_
  refine zab rfl rfl rfl (zad (.inl rfl) (ev1 rfl)) ?_
  refine zae ?_
  refine dwp_block ?_
  refine dwp_dloop (dloop_step ?_)
  refine zaf ?_
  refine zac ?_
  refine zab rfl rfl rfl (op_lss rfl (ev1 rfl) (ev1 rfl)) ?_
  refine zae ?_
  refine zaf ?_
  refine dwp_if_t rfl (by simp; omega) ?_
  refine dwp_skip ?_
  refine zaf ?_
  refine dwp_block ?_
  refine zaf ?_
  refine zac ?_
  refine zab rfl rfl rfl (zad (.inl rfl) (ev1 rfl)) ?_
  refine zab rfl rfl rfl (zad (.inr rfl) (ev1 rfl)) ?_
  refine zae ?_
  refine zaf ?_
  refine zah 1 (by simp only [holes, List.cons_append, List.nil_append]; exact rfl) ?_
  refine dwp_draw [([5], []), ([4], []), ([], []), ([], []), ([6], [6]), ([], []), ([], []), ([4], []), ([], []), ([], []), ([0, 1, 2, 3, 7], [0, 1, 2, 3, 7]), ([], []), ([], [])] mixed (by kernel_rfl) ?_
  refine lex_r rfl rfl (op_ldm rfl tb91 (ev1 rfl) rfl rfl) ?_
  refine lex_r rfl rfl (op_ldm rfl tb25 (ev1 rfl) rfl rfl) ?_
  refine lex_r rfl rfl (zad (.inl rfl) (ev1 rfl)) ?_
  refine lex_r rfl rfl (op_ixmr (0) (by decide) rfl sl25 (ev1 rfl) (ev1 rfl) (fun _ => rfl) (by omega) (fun _ => rfl)) ?_
  refine lex_w rfl rfl (zai [6] [] [] rfl (ev1 rfl) (ec (ev1 rfl) en) rfl rfl (misH_d l[0] v (hid _ (List.getElem_mem (by omega)))) rfl rfl rfl rfl rfl rfl) rfl (by simp only [upd, za, zaa]; exact rfl) ?_
  refine lex_r rfl rfl ((zad (.inl rfl) (ev1 rfl)).cast (d' := .val (.bool true)) (by rw [hh])) ?_
  refine lex_k (gd_t (b := true) rfl rfl rfl) rfl rfl (zad (.inl rfl) (ev1 rfl)) rfl (by simp only [upd, za, zaa]; exact rfl) ?_
  refine lex_k (gd_t (b := true) rfl rfl rfl) rfl rfl (op_ldm rfl tb25 (ev1 rfl) rfl rfl) rfl (by simp only [upd, za, zaa]; exact rfl) ?_
  refine lex_k (gd_t (b := true) rfl rfl rfl) rfl rfl (zad (.inl rfl) (ev1 rfl)) rfl (by simp only [upd, za, zaa]; exact rfl) ?_
  refine lex_k (gd_t (b := true) rfl rfl rfl) rfl rfl (op_ixmr (0) (by decide) rfl sl25 (ev2 rfl) (ev2 rfl) (fun _ => rfl) (by omega) (fun _ => rfl)) rfl (by simp only [upd, za, zaa]; exact rfl) ?_
  refine lex_k (gd_t (b := true) rfl rfl rfl) rfl rfl (op_y (i := 0) [0, 1, 2, 3] [] [7] rfl (ev2 rfl) (ec (ev2 rfl) en) rfl rfl (by exact mfits _ _ ⟨rfl, rfl, rfl, (by first | exact rfl | exact arx_fits rfl rfl (vwL_flat (fun _ => rfl) _) | exact arxg_fits rfl rfl (fun _ => rfl) | exact arxs_fits rfl rfl (fun _ => rfl)), trivial⟩) (misRound [] l[0] n (hpx _ (List.getElem_mem (by omega))) (by show 0 < n; omega) hn2) rfl rfl rfl (by exact (wrc rfl (wrc rfl (wrc rfl (wrc rfl (wrc (by first | exact rfl | exact sb_arx (fun _ => rfl) | exact sb_arxr (nlL_flatR (fun _ => rfl) _) | exact sb_arxg (fun _ => rfl) | exact sb_arxs (fun _ => rfl)) rfl)))))) rfl) rfl (by simp only [upd, za, zaa]; exact rfl) ?_
  refine lex_k (gd_t (b := true) rfl rfl rfl) rfl rfl (op_not rfl (ev2 rfl)) rfl (by simp only [upd, za, zaa]; exact rfl) ?_
  refine lex_r rfl rfl (op_and rfl (ev1 rfl) (ev3 rfl (fun _ => rfl))) ?_
  refine lex_nil ?_
  refine dwp_if_f rfl (rfl) ?_
  refine dwp_skip ?_
  refine zac ?_
  refine zab rfl rfl rfl (op_add' rfl (ev1 rfl) (ev1 rfl) (fun _ => IntWalk.i64_in _ (by omega))) ?_
  refine zab rfl rfl rfl (zad (.inl rfl) (ev1 rfl)) ?_
  refine zae ?_
  refine dloopS ⟨hs0, rfl⟩ (α := Nat) (fun k => [(7, .val (.int .i64 (k : Int)))]) [(0, _), (1, _), (2, _), (6, _)] (fun k => [(7, .arx 44 19 (((l.take k).filter (hasN v))).length ((((l.take k).filter (hasN v))).flatMap opD))]) [_, _, _, _, _, _, _, .hole] (fun k => 1 ≤ k ∧ k ≤ l.length) (fun k => l.length - k) 1 [0, 1, 2, 3, 4, 5, 6, 7] (⟨Nat.le_refl _, h0⟩) rfl ⟨rfl, rfl, rfl, rfl, trivial⟩ ⟨rfl, trivial⟩ ⟨rfl, rfl, rfl, rfl, rfl, rfl, rfl, by rw [filt_1 h0 hh]; rfl, trivial⟩ ?_
  intro k hx
  simp only [upd, za, zaa, List.cons_append, List.nil_append]
  obtain ⟨hk1, hk⟩ := hx
  have hfl := filt_len v l k
  refine zaf ?_
  refine zac ?_
  refine zab rfl rfl rfl (op_lss rfl (ev1 rfl) (ev1 rfl)) ?_
  refine zae ?_
  refine zaf ?_
  refine dwp_cond rfl (fun c3 => ?_) (fun c3 => ?_)
  · try simp only [decide_eq_true_eq, decide_eq_false_iff_not, beq_iff_eq, bne_iff_ne, beq_eq_false_iff_ne, bne_eq_false_iff_eq, Bool.not_eq_true', Bool.not_eq_false', Bool.and_eq_true, Bool.or_eq_true, Bool.or_eq_false_iff, ne_eq, Decidable.not_not, Int.not_lt, Int.not_le] at c3
    refine dwp_skip ?_
    refine zaf ?_
    refine dwp_block ?_
    refine zaf ?_
    refine zac ?_
    refine zab rfl rfl rfl (zad (.inl rfl) (ev1 rfl)) ?_
    refine zab rfl rfl rfl (zad (.inr rfl) (ev1 rfl)) ?_
    refine zae ?_
    refine zaf ?_
    by_cases hs : hasN v l[k] = true
    · refine zah 1 (by simp only [holes, List.cons_append, List.nil_append]; exact rfl) ?_
      refine dwp_draw [([5], []), ([4], []), ([], []), ([], []), ([6], [6]), ([], []), ([], []), ([4], []), ([], []), ([], []), ([0, 1, 2, 7, 8], [0, 1, 2, 7, 8]), ([], []), ([], [])] mixed (by kernel_rfl) ?_
      refine lex_r rfl rfl (op_ldm rfl tb91 (ev1 rfl) rfl rfl) ?_
      refine lex_r rfl rfl (op_ldm rfl tb25 (ev1 rfl) rfl rfl) ?_
      refine lex_r rfl rfl (zad (.inl rfl) (ev1 rfl)) ?_
      refine lex_r rfl rfl (op_ixmr (k) (by decide) rfl sl25 (ev1 rfl) (ev1 rfl) (fun _ => rfl) (by omega) (fun _ => rfl)) ?_
      refine lex_w rfl rfl (zai [6] [] [] rfl (ev1 rfl) (ec (ev1 rfl) en) rfl rfl (misH_d l[k] v (hid _ (List.getElem_mem (by omega)))) rfl rfl rfl rfl rfl rfl) rfl (by simp only [upd, za, zaa]; exact rfl) ?_
      refine lex_r rfl rfl ((zad (.inl rfl) (ev1 rfl)).cast (d' := .val (.bool true)) (by rw [hs])) ?_
      refine lex_k (gd_t (b := true) rfl rfl rfl) rfl rfl (zad (.inl rfl) (ev1 rfl)) rfl (by simp only [upd, za, zaa]; exact rfl) ?_
      refine lex_k (gd_t (b := true) rfl rfl rfl) rfl rfl (op_ldm rfl tb25 (ev1 rfl) rfl rfl) rfl (by simp only [upd, za, zaa]; exact rfl) ?_
      refine lex_k (gd_t (b := true) rfl rfl rfl) rfl rfl (zad (.inl rfl) (ev1 rfl)) rfl (by simp only [upd, za, zaa]; exact rfl) ?_
      refine lex_k (gd_t (b := true) rfl rfl rfl) rfl rfl (op_ixmr (k) (by decide) rfl sl25 (ev2 rfl) (ev2 rfl) (fun _ => rfl) (by omega) (fun _ => rfl)) rfl (by simp only [upd, za, zaa]; exact rfl) ?_
      refine lex_k (gd_t (b := true) rfl rfl rfl) rfl rfl (op_y (i := 0) [0, 1, 2, 7] [] [8] rfl (ev2 rfl) (ec (ev2 rfl) en) rfl rfl (by exact mfits _ _ ⟨rfl, rfl, rfl, (by first | exact rfl | exact arx_fits rfl rfl (vwL_flat (fun _ => rfl) _) | exact arxg_fits rfl rfl (fun _ => rfl) | exact arxs_fits rfl rfl (fun _ => rfl)), trivial⟩) (misRound ((l.take k).filter (hasN v)) l[k] n (hpx _ (List.getElem_mem (by omega))) (by omega) hn2) rfl rfl rfl (by exact (wrc rfl (wrc rfl (wrc rfl (wrc rfl (wrc (by first | exact rfl | exact sb_arx (fun _ => rfl) | exact sb_arxr (nlL_flatR (fun _ => rfl) _) | exact sb_arxg (fun _ => rfl) | exact sb_arxs (fun _ => rfl)) rfl)))))) rfl) rfl (by simp only [upd, za, zaa]; exact rfl) ?_
      refine lex_k (gd_t (b := true) rfl rfl rfl) rfl rfl (op_not rfl (ev2 rfl)) rfl (by simp only [upd, za, zaa]; exact rfl) ?_
      refine lex_r rfl rfl (op_and rfl (ev1 rfl) (ev3 rfl (fun _ => rfl))) ?_
      refine lex_nil ?_
      refine dwp_if_f rfl (rfl) ?_
      refine dwp_skip ?_
      refine zac ?_
      refine zab rfl rfl rfl (op_add' rfl (ev1 rfl) (ev1 rfl) (fun _ => IntWalk.i64_in _ (by omega))) ?_
      refine zab rfl rfl rfl (zad (.inl rfl) (ev1 rfl)) ?_
      refine zae ?_
      refine ⟨k + 1, [0, 1, 2, 3, 4, 5, 6, 8], ⟨by omega, by omega⟩, by simp only []; omega, rfl, ⟨rfl, rfl, rfl, rfl, rfl, trivial⟩, ⟨rfl, rfl, rfl, rfl, rfl, rfl, rfl, arxr_fits (by rw [filt_yes (by omega) hs]) (by rw [filt_yes (by omega) hs]) (ops_nl2 _), trivial⟩⟩
    · refine dwp_draw [([5], []), ([4], []), ([], []), ([], []), ([6], [6]), ([], []), ([], []), ([], []), ([], []), ([], []), ([], []), ([], []), ([], [])] mixed (by kernel_rfl) ?_
      refine lex_r rfl rfl (op_ldm rfl tb91 (ev1 rfl) rfl rfl) ?_
      refine lex_r rfl rfl (op_ldm rfl tb25 (ev1 rfl) rfl rfl) ?_
      refine lex_r rfl rfl (zad (.inl rfl) (ev1 rfl)) ?_
      refine lex_r rfl rfl (op_ixmr (k) (by decide) rfl sl25 (ev1 rfl) (ev1 rfl) (fun _ => rfl) (by omega) (fun _ => rfl)) ?_
      refine lex_w rfl rfl (zai [6] [] [] rfl (ev1 rfl) (ec (ev1 rfl) en) rfl rfl (misH_d l[k] v (hid _ (List.getElem_mem (by omega)))) rfl rfl rfl rfl rfl rfl) rfl (by simp only [upd, za, zaa]; exact rfl) ?_
      refine lex_r rfl rfl ((zad (.inl rfl) (ev1 rfl)).cast (d' := .val (.bool false)) (by rw [show hasN v l[k] = false by simpa using hs])) ?_
      refine lex_gr (gd_t (b := false) rfl rfl rfl) rfl rfl (dop_never (d := .junk)) ?_
      refine lex_gr (gd_t (b := false) rfl rfl rfl) rfl rfl (dop_never (d := .junk)) ?_
      refine lex_gr (gd_t (b := false) rfl rfl rfl) rfl rfl (dop_never (d := .junk)) ?_
      refine lex_gr (gd_t (b := false) rfl rfl rfl) rfl rfl (dop_never (d := .junk)) ?_
      refine lex_gr (gd_t (b := false) rfl rfl rfl) rfl rfl (dop_never (d := .val (.bool false))) ?_
      refine lex_gr (gd_t (b := false) rfl rfl rfl) rfl rfl (dop_never (d := .val (.bool false))) ?_
      refine lex_r rfl rfl (op_and rfl (ev1 rfl) (ev3 rfl id)) ?_
      refine lex_nil ?_
      refine dwp_if_f rfl (rfl) ?_
      refine dwp_skip ?_
      refine zac ?_
      refine zab rfl rfl rfl (op_add' rfl (ev1 rfl) (ev1 rfl) (fun _ => IntWalk.i64_in _ (by omega))) ?_
      refine zab rfl rfl rfl (zad (.inl rfl) (ev1 rfl)) ?_
      refine zae ?_
      refine ⟨k + 1, [0, 1, 2, 3, 4, 5, 6, 7], ⟨by omega, by omega⟩, by simp only []; omega, rfl, ⟨rfl, rfl, rfl, rfl, rfl, trivial⟩, ⟨rfl, rfl, rfl, rfl, rfl, rfl, rfl, arxr_fits (by rw [filt_no (by omega) (by simpa using hs)]) (by rw [filt_no (by omega) (by simpa using hs)]) (ops_nl2 _), trivial⟩⟩
  · try simp only [decide_eq_true_eq, decide_eq_false_iff_not, beq_iff_eq, bne_iff_ne, beq_eq_false_iff_ne, bne_eq_false_iff_eq, Bool.not_eq_true', Bool.not_eq_false', Bool.and_eq_true, Bool.or_eq_true, Bool.or_eq_false_iff, ne_eq, Decidable.not_not, Int.not_lt, Int.not_le] at c3
    refine dwp_exit ?_
    obtain rfl : k = l.length := by omega
    rw [List.take_length]
    refine kend [0, 1, 2, 3, 4, 5, 6, 7] (res_none rfl) rfl rfl ?_ ⟨?_, ?_, ?_, ?_, ?_, ?_, ?_, ?_, trivial⟩
    rfl
    all_goals first | exact rfl | exact arxr_fits rfl rfl (ops_nl2 _)
set_option maxRecDepth 4000 in
set_option maxHeartbeats 1000000 in
theorem Missing_d (l : LogM) (v : Vec) (n : Nat) (hb : logB l = true) (hv : vB v = true) (hc : coB v l.bs = true) (h0 : 0 < l.ops.length) (hh : hasN v l.ops[0] = true) (hn : l.ops.length ≤ n) (hn2 : n ≤ 1000000) : DFun Tryz.prog 17 [.agg (logD l), .val (.agg (c9 v).toArray), .val (.int .i64 (n : Int))] [] (.tup [.slm 19 (l.ops.filter (hasN v)).length ((l.ops.filter (hasN v)).flatMap opD), .val (.int .i64 0)]) [] := by
  refine dcalls_go (N := 45) 0 (by kernel_rfl) Tryz.func17 rfl rfl rfl (by simp only [fr0, Nat.zero_add, Nat.reduceAdd]; exact rfl) rfl fun s0 hs0 => ?_
  refine zaf ?_
  refine zah 3 (by simp only [holes, List.cons_append, List.nil_append]; exact rfl) ?_
  refine zac ?_
  refine walk_w rfl rfl rfl (op_boxam 0 rfl (ev1 rfl) rfl) (by simp only [upd, za, zaa]; exact rfl) ?_
  refine walk_w rfl rfl rfl (op_boxa 1 rfl (ev1 rfl) rfl) (by simp only [upd, za, zaa]; exact rfl) ?_
  refine walk_w rfl rfl rfl (op_boxi 2 rfl (ev1 rfl) rfl) (by simp only [upd, za, zaa]; exact rfl) ?_
  refine zab rfl rfl rfl (zad (.inr rfl) (ev1 rfl)) ?_
  refine zab rfl rfl rfl (zad (.inr rfl) (ev1 rfl)) ?_
  refine zae ?_
  refine dwp_scope ?_
  refine zaf ?_
  refine dwp_block ?_
  refine zaf ?_
  refine zac ?_
  refine zab rfl rfl rfl (op_ldmw rfl tb27 (ev1 rfl) rfl rfl) ?_
  refine zab rfl rfl rfl (zai [] [] [] rfl (ev1 rfl) (ec (ev1 rfl) en) rfl rfl (lCheck_d _) rfl rfl rfl rfl rfl rfl) ?_
  refine zab rfl rfl rfl (op_neq rfl (ev1 rfl) (ev1 rfl)) ?_
  refine zab rfl rfl rfl (zad (.inr rfl) (ev1 rfl)) ?_
  refine zae ?_
  refine dwp_if_f rfl (by rw [hb]; rfl) ?_
  refine zaf ?_
  refine zac ?_
  refine zab rfl rfl rfl (op_ldw rfl tb24 (ev1 rfl) rfl rfl) ?_
  refine zab rfl rfl rfl (zai [] [] [] rfl (ev1 rfl) (ec (ev1 rfl) en) rfl rfl (vCheck_d v) rfl rfl rfl rfl rfl rfl) ?_
  refine zab rfl rfl rfl (op_neq rfl (ev1 rfl) (ev1 rfl)) ?_
  refine zab rfl rfl rfl (zad (.inl rfl) (ev1 rfl)) ?_
  refine zag (gd_f rfl rfl rfl) rfl rfl rfl (op_ldo rfl tb3 (ev1 rfl) rfl rfl) ?_
  refine zag (gd_f rfl rfl rfl) rfl rfl rfl (op_lss rfl (ev2 rfl) (ev1 rfl)) ?_
  refine zab rfl rfl rfl (op_or rfl (ev1 rfl) (ev3 rfl id)) ?_
  refine zab rfl rfl rfl (zad (.inr rfl) (ev1 rfl)) ?_
  refine zae ?_
  refine dwp_if_f rfl (by rw [hv]; simp [errOr]) ?_
  refine zaf ?_
  refine zac ?_
  refine zab rfl rfl rfl (op_ldw rfl tb24 (ev1 rfl) rfl rfl) ?_
  refine zab rfl rfl rfl (op_fa rfl fo27_1 (ev1 rfl)) ?_
  refine zab rfl rfl rfl (op_ldmv (R := [_, _, _, _, _, _, _, _, _]) rfl tb24 (ev1 rfl) rfl rfl rfl) ?_
  refine zab rfl rfl rfl (zai [] [] [] rfl (ev1 rfl) (ec (ev1 rfl) (ec (ev1 rfl) en)) rfl rfl (covers_d v l.bs) rfl rfl rfl rfl rfl rfl) ?_
  refine zab rfl rfl rfl (op_not rfl (ev1 rfl)) ?_
  refine zab rfl rfl rfl (zad (.inr rfl) (ev1 rfl)) ?_
  refine zae ?_
  refine dwp_if_f rfl (by rw [hc]; rfl) ?_
  refine dwp_skip ?_
  refine zaf ?_
  refine zah 1 (by simp only [holes, List.cons_append, List.nil_append]; exact rfl) ?_
  refine zac ?_
  refine walk_w rfl rfl rfl (op_alloc 3 rfl zr25 rfl) (by simp only [upd, za, zaa]; exact rfl) ?_
  refine zae ?_
  refine zaf ?_
  refine dwp_label ?_
  refine zaf ?_
  refine zaf ?_
  obtain ⟨k1, k2, k3, k4⟩ := endR_ok hb
  refine zah 2 (by simp only [holes, List.cons_append, List.nil_append]; exact rfl) ?_
  refine zac ?_
  refine zab rfl rfl rfl (op_fa rfl fo27_2 (ev1 rfl)) ?_
  refine zab rfl rfl rfl (op_ldm rfl tb25 (ev1 rfl) rfl rfl) ?_
  refine zab rfl rfl rfl (op_mkf rfl en (ec (ev1 rfl) en)) ?_
  refine walk_w rfl rfl rfl (zai [1] [] [4, 5] rfl (ev1 rfl) (ec (ev1 rfl) (ec (ev1 rfl) en)) rfl rfl (those_d l.ops v) rfl rfl rfl rfl rfl rfl) (by simp only [upd, za, zaa]; exact rfl) ?_
  refine zae ?_
  refine dwp_block ?_
  refine dwp_adoptm 3 44 19 rfl (by simp only [List.cons_append, List.nil_append, za, zaa, List.length_cons, List.length_nil, Nat.zero_add, Nat.reduceAdd]; exact rfl) ?_
  refine dwp_reb 6 reb_arx rfl rfl (by simp only [List.cons_append, List.nil_append, za, zaa, List.map]; exact rfl) ?_
  refine dwp_hole ?_
  refine dwp_hole ?_
  simp only [List.cons_append, List.nil_append]
  refine dwp_rf (FL := [(5, _), (8, _)]) (st := .ready) (pe := none) [7, 2, 3, 6, 4, 5, 1] [] [8] 7 rfl rfl (ev1 rfl) rfl (subF_lk ⟨rfl, rfl, trivial⟩) rfl rfl rfl (those_go l.ops v n k4 (logB_px hb) h0 hh hn hn2) rfl rfl rfl (by exact (wrc rfl (wrc rfl (wrc rfl (wrc rfl (wrc rfl (wrc rfl (wrc rfl (wrc (by first | exact rfl | exact sb_arx (fun _ => rfl) | exact sb_arxr (nlL_flatR (fun _ => rfl) _) | exact sb_arxg (fun _ => rfl) | exact sb_arxs (fun _ => rfl)) rfl))))))))) rfl rfl rfl (by simp) (fun e => ?_) (fun c e => ?_)
  · simp only [upd, za, zaa]
    refine zaf ?_
    refine dwp_givem 3 0 (ops_nl2 _) rfl rfl rfl (by simp only [za, zaa]; exact rfl) ?_
    refine zac ?_
    refine zab rfl rfl rfl (op_ldm rfl tb25 (ev1 rfl) rfl rfl) ?_
    refine zab rfl rfl rfl (zad (.inr rfl) (ev1 rfl)) ?_
    refine zab rfl rfl rfl (zad (.inr rfl) (ev1 rfl)) ?_
    refine zae ?_
    refine dwp_ret ?_
    refine kend0 (rs2 rfl (rv_t rfl) (rv_t rfl)) rfl ?_
    rfl
  · cases e
end Go.Proofs.YtbcnaacgillhcaaGreat
namespace Go.Proofs.YtbcnaacgillhcaaGreat
set_option linter.unusedVariables false
set_option linter.unusedSimpArgs false
open Go.RowKit
theorem lessR_z {i : I3} (h : mayR i = true) : lessR zI3 i = true := by
  rw [lessR_iff]
  have := mayR_iff.1 h
  left
  show (0 : Int) < i.t
  omega
theorem endE_app {fo : Nat} : ∀ (a b : List OpM) (s : (Nat → I3) × I3), endE fo s (a ++ b) = (endE fo s a).bind fun s' => endE fo s' b
  | [], b, s => rfl
  | o :: a, b, s => by
    rw [List.cons_append, endE, endE]
    cases h : stepE fo s o with
    | none => rfl
    | some s' => exact endE_app a b s'
theorem endE_sim {fo fo2 : Nat} : ∀ {b : List OpM} {s s2 r : (Nat → I3) × I3}, endE fo s b = some r → (∀ i, (s.1 i).q = (s2.1 i).q) → (∀ o ∈ b, (fo2 : Int) < o.id.t) → (∀ o, b.head? = some o → lessR s2.2 o.id = true) → ∃ r2, endE fo2 s2 b = some r2 ∧ ∀ i, (r.1 i).q = (r2.1 i).q
  | [], s, s2, r, h, hq, _, _ => by
    cases h
    exact ⟨s2, rfl, hq⟩
  | o :: b, s, s2, r, h, hq, ht, hh => by
    obtain ⟨s', h1, h2⟩ := endE_cons h
    obtain ⟨⟨k1, k2, k3, k4⟩, rfl⟩ := stepE_inv h1
    have e2 : stepE fo2 s2 o = some (upV s2.1 o.id.s.toNat o.id, o.id) := stepE_yes (by rw [k1, hh o rfl, decide_eq_true (ht o (List.mem_cons_self ..))]; rfl) (by rw [k4, hq])
    obtain ⟨r2, g1, g2⟩ := endE_sim (s2 := (upV s2.1 o.id.s.toNat o.id, o.id)) h2 (fun i => by
      show (upV s.1 _ o.id i).q = (upV s2.1 _ o.id i).q
      unfold upV
      split
      · rfl
      · exact hq i) (fun o' ho => ht o' (List.mem_cons_of_mem _ ho)) (fun o' ho => (endE_pw h2).2 o' (List.mem_of_mem_head? (by rw [ho]; rfl)))
    exact ⟨r2, by rw [endE, e2]; exact g1, g2⟩
def sV9 (v : Vec) : Nat := v 0 + v 1 + v 2 + v 3 + v 4 + v 5 + v 6 + v 7 + v 8
theorem sV9_up (v : Vec) : ∀ j, j < 9 → sV9 (upV v j (v j + 1)) = sV9 v + 1 := lt9 (by simp [sV9, upV]; omega) (by simp [sV9, upV]; omega) (by simp [sV9, upV]; omega) (by simp [sV9, upV]; omega) (by simp [sV9, upV]; omega) (by simp [sV9, upV]; omega) (by simp [sV9, upV]; omega) (by simp [sV9, upV]; omega) (by simp [sV9, upV]; omega)
theorem endE_bs {fo : Nat} : ∀ {a : List OpM} {s r : (Nat → I3) × I3} {v : Vec}, endE fo s a = some r → (∀ i, (s.1 i).q = (v i : Int)) → (∀ i, (r.1 i).q = (bsF v a i : Int)) ∧ sV9 (bsF v a) = sV9 v + a.length ∧ (∀ i, v i ≤ bsF v a i) ∧ ∀ o ∈ a, o.id.q ≤ (bsF v a o.id.s.toNat : Int)
  | [], s, r, v, h, hq => by
    cases h
    exact ⟨hq, rfl, fun _ => Nat.le_refl _, fun o h => by cases h⟩
  | o :: a, s, r, v, h, hq => by
    obtain ⟨s', h1, h2⟩ := endE_cons h
    obtain ⟨⟨k1, k2, k3, k4⟩, rfl⟩ := stepE_inv h1
    have hm := mayR_iff.1 (opB_id k1)
    rw [hq] at k4
    have e1 : o.id.q.toNat = v o.id.s.toNat + 1 := by omega
    obtain ⟨g1, g2, g3, g4⟩ := endE_bs (v := upV v o.id.s.toNat o.id.q.toNat) h2 (fun i => by
      show (upV s.1 _ o.id i).q = ((upV v _ o.id.q.toNat i : Nat) : Int)
      unfold upV
      split
      · omega
      · exact hq i)
    refine ⟨g1, ?_, fun i => Nat.le_trans ?_ (g3 i), fun o' ho => ?_⟩
    · show sV9 (bsF (upV v o.id.s.toNat o.id.q.toNat) a) = _
      rw [g2, e1, sV9_up v _ (by omega), List.length_cons]
      omega
    · unfold upV
      split
      · rename_i e; subst e; omega
      · exact Nat.le_refl _
    · rcases List.mem_cons.1 ho with rfl | ho
      · have := g3 o'.id.s.toNat
        have e3 : upV v o'.id.s.toNat o'.id.q.toNat o'.id.s.toNat = o'.id.q.toNat := by unfold upV; rw [if_pos rfl]
        rw [e3] at this
        show o'.id.q ≤ ((bsF (upV v o'.id.s.toNat o'.id.q.toNat) a o'.id.s.toNat : Nat) : Int)
        omega
      · exact g4 o' ho
theorem bsF_vB : ∀ {a : List OpM} {v : Vec}, idOk a → vB v = true → vB (bsF v a) = true
  | [], _, _, h => h
  | o :: a, v, hi, h => by
    refine bsF_vB (a := a) (fun o' ho => hi o' (List.mem_cons_of_mem _ ho)) (vB_iff.2 ?_)
    have hm := mayR_iff.1 (hi o (List.mem_cons_self ..))
    have hv := vB_iff.1 h
    have hLA : LAST = 4611686018427387904 := rfl
    refine ⟨?_, fun i hi9 => ?_⟩
    · show upV v o.id.s.toNat o.id.q.toNat 0 = 0
      unfold upV
      rw [if_neg (by omega)]
      exact hv.1
    · show upV v o.id.s.toNat o.id.q.toNat i ≤ LAST
      unfold upV
      split
      · omega
      · exact hv.2 i hi9
theorem fold_log {l : LogM} {t : Nat} (hb : logB l = true) (h1 : l.fo ≤ t) (h2 : t ≤ 4611686018427387904) : logB (foldM l t) = true ∧ vecL (foldM l t) = vecL l ∧ (vB l.bs = true ∧ vB (foldM l t).bs = true) ∧ (sV9 (foldM l t).bs = sV9 l.bs + (tW l.ops t).length ∧ ∀ i, l.bs i ≤ (foldM l t).bs i) ∧ ∀ o ∈ tW l.ops t, opB o = true ∧ o.id.q ≤ ((foldM l t).bs o.id.s.toNat : Int) ∧ o.id.q ≤ ((endR (foldM l t)).1 o.id.s.toNat).q := by
  obtain ⟨g1, s, hs⟩ := logB_all hb
  obtain ⟨k1, k2, k3, k4⟩ := endR_ok hb
  have hvb : vB l.bs = true := by rw [Bool.and_eq_true] at g1; exact g1.2
  have hsp : l.ops = tW l.ops t ++ l.ops.drop (tW l.ops t).length := by
    conv => lhs; rw [← List.take_append_drop (tW l.ops t).length l.ops, tW_take]
  have hs' := hs
  rw [hsp, endE_app, Option.bind_eq_some_iff] at hs'
  obtain ⟨sa, ha, hc⟩ := hs'
  obtain ⟨b1, b2, b3, b4⟩ := endE_bs (v := l.bs) ha (fun i => rfl)
  have hidb : idOk (l.ops.drop (tW l.ops t).length) := fun o ho => k4 o (List.mem_of_mem_drop ho)
  obtain ⟨r2, c1, c2⟩ := endE_sim (fo2 := t) (s2 := (la0 t (bsF l.bs (tW l.ops t)), zI3)) hc (fun i => b1 i) (fun o ho => by
    obtain ⟨k, hk, h4, rfl⟩ := mem_drop_get ho
    exact of_decide_eq_true (tW_hi k3 hk h4)) (fun o ho => lessR_z (hidb o (List.mem_of_mem_head? (by rw [ho]; rfl))))
  have hvb2 : vB (bsF l.bs (tW l.ops t)) = true := bsF_vB (fun o ho => k4 o ((List.takeWhile_prefix _).subset ho)) hvb
  have hpre : (decide ((foldM l t).fo ≤ LAST) && vB (foldM l t).bs) = true := by
    rw [Bool.and_eq_true]
    exact ⟨decide_eq_true h2, hvb2⟩
  have hlog : logB (foldM l t) = true := by
    unfold logB
    rw [hpre]
    show (endE t (la0 t (bsF l.bs (tW l.ops t)), zI3) (l.ops.drop (tW l.ops t).length)).isSome = true
    rw [c1]; rfl
  have hr2 : endR (foldM l t) = (r2.1, 0) := endR_some hpre c1
  have hmono : ∀ i, (bsF l.bs (tW l.ops t) i : Int) ≤ (r2.1 i).q := fun i => by
    have := (endE_bs (v := bsF l.bs (tW l.ops t)) c1 (fun i => rfl))
    rw [this.1 i]
    have := this.2.2.1 i
    omega
  refine ⟨hlog, ?_, ⟨hvb, hvb2⟩, ⟨b2, b3⟩, fun o ho => ⟨(endE_mem ha o ho).1, b4 o ho, ?_⟩⟩
  · funext i
    unfold vecL
    rw [if_pos hlog, if_pos hb, hr2, endR_some g1 hs]
    show (r2.1 i).q.toNat = (s.1 i).q.toNat
    rw [c2 i]
  · rw [hr2]
    exact Int.le_trans (b4 o ho) (hmono _)
theorem tW_split {a b : Nat} (h : a ≤ b) : ∀ l : List OpM, tW l b = tW l a ++ tW (l.drop (tW l a).length) b
  | [] => rfl
  | o :: l => by
    by_cases e : o.id.t ≤ (a : Int)
    · have e1 : tW (o :: l) a = o :: tW l a := by unfold tW; rw [List.takeWhile_cons, if_pos (decide_eq_true e)]
      have e2 : tW (o :: l) b = o :: tW l b := by unfold tW; rw [List.takeWhile_cons, if_pos (decide_eq_true (show o.id.t ≤ (b : Int) by omega))]
      rw [e1, e2, List.length_cons, List.drop_succ_cons, List.cons_append, ← tW_split h l]
    · have e1 : tW (o :: l) a = [] := by unfold tW; rw [List.takeWhile_cons, if_neg (by simpa using e)]
      rw [e1]
      rfl
theorem foldM_twice {a b : Nat} (h : a ≤ b) (l : LogM) : foldM (foldM l a) b = foldM l b := by
  unfold foldM
  have hs := tW_split h l.ops
  dsimp only
  rw [hs, List.length_append, ← List.drop_drop]
  congr 1
  unfold bsF
  rw [List.foldl_append]
theorem tW_len {a b : Nat} (h : a ≤ b) (l : LogM) : (tW l.ops a).length + (tW (foldM l a).ops b).length = (tW l.ops b).length := by
  rw [tW_split h l.ops, List.length_append]
  rfl
theorem sameL_refl (l : LogM) : sameL l l = true := by
  unfold sameL
  rw [all2_refl sameO_refl, eqV_refl]
  simp
theorem manyT_app (l : List (Nat × Nat × Nat)) (x : Nat × Nat × Nat) : manyT (l ++ [x]) = min (manyT l + x.2.2 + 1 - x.2.1) 4611686018427387904 := by
  unfold manyT
  rw [List.foldl_append]
  rfl
def dV (v w : Vec) : Nat → Nat
  | 0 => 0
  | j + 1 => dV v w j + (w j - v j)
theorem many_dV {v w : Vec} (h0 : v 0 = 0 ∧ w 0 = 0) : ∀ j, j ≤ 9 → dV v w j ≤ 1000000 → manyT (lackL v w j) = dV v w j
  | 0, _, _ => rfl
  | j + 1, hj, hs => by
    have hs' : dV v w j ≤ 1000000 := by rw [dV] at hs; omega
    have ih := many_dV h0 j (by omega) hs'
    rw [dV] at hs ⊢
    by_cases h : v j < w j
    · have h1 : 1 ≤ j := by
        rcases Nat.eq_zero_or_pos j with e | e
        · subst e; omega
        · exact e
      rw [lackL_yes h1 h, manyT_app, ih]
      dsimp only
      omega
    · rw [lackL_no h, ih]
      omega
theorem many_fold {v w : Vec} {n : Nat} (hv : vB v = true) (hw : vB w = true) (hs : sV9 w = sV9 v + n) (hle : ∀ i, v i ≤ w i) (hn : n ≤ 1000000) : manyT (lackL v w 9) = n := by
  have e : dV v w 9 = n := by
    have a0 := hle 0; have a1 := hle 1; have a2 := hle 2; have a3 := hle 3; have a4 := hle 4; have a5 := hle 5; have a6 := hle 6; have a7 := hle 7; have a8 := hle 8
    unfold sV9 at hs
    simp only [dV]
    omega
  rw [many_dV ⟨(vB_iff.1 hv).1, (vB_iff.1 hw).1⟩ 9 (Nat.le_refl _) (by omega), e]
theorem foldR_nil (l : LogM) (t : Nat) : (foldR l t).2.2 = 0 ∨ (foldR l t).2.1 = [] := by
  unfold foldR
  split
  · split
    · exact .inl rfl
    · exact .inr rfl
  · exact .inr rfl
theorem fold_len {l : LogM} {t n : Nat} (h : l.ops.length ≤ n) : (foldM l t).ops.length ≤ n := by
  unfold foldM
  rw [List.length_drop]
  omega
theorem fold_fo {l : LogM} {a b : Nat} (h : a ≤ b) : (foldM l a).fo ≤ b := h
theorem tW_get {l : List OpM} {t k : Nat} (h : k < (tW l t).length) : ∃ h2 : k < l.length, (tW l t)[k] = l[k] := ⟨Nat.lt_of_lt_of_le h (tW_le l t), (List.takeWhile_prefix (l := l) fun o : OpM => decide (o.id.t ≤ (t : Int))).getElem h⟩
theorem tW_mem {l : List OpM} {t k : Nat} (h : k < (tW l t).length) : ((tW l t)[k]).id.t ≤ (t : Int) := by
  obtain ⟨h2, e⟩ := tW_get h
  have := tW_lo h2 h
  rw [e]
  simpa using this
theorem tW_less {l : LogM} {t j k : Nat} (hb : logB l = true) (hj : j < k) (hk : k < (tW l.ops t).length) : lessR ((tW l.ops t)[j]).id ((tW l.ops t)[k]).id = true := by
  obtain ⟨_, s, hs⟩ := logB_all hb
  obtain ⟨h2, e2⟩ := tW_get hk
  obtain ⟨h1, e1⟩ := tW_get (show j < (tW l.ops t).length by omega)
  rw [e1, e2]
  exact List.pairwise_iff_getElem.1 (endE_pw hs).1 _ _ h1 h2 hj
theorem foldR_zero {l : LogM} {t : Nat} (h : (foldR l t).2.2 = 0) : logB l = true ∧ l.fo ≤ t ∧ t ≤ 4611686018427387904 := by
  unfold foldR at h
  split at h
  · rename_i hb
    split at h
    · rename_i hc
      exact ⟨hb, hc⟩
    · cases h
  · cases h
theorem foldR_res (l m : LogM) (s t : Nat) : (((foldR l s).2.2 == 0 || ((foldR l s).2.1.length : Int) == 0) && ((foldR m t).2.2 == 0 || ((foldR m t).2.1.length : Int) == 0)) = true := by
  rcases foldR_nil l s with h | h <;> rcases foldR_nil m t with k | k <;> simp [h, k]
end Go.Proofs.YtbcnaacgillhcaaGreat
namespace Go.Proofs.YtbcnaacgillhcaaGreat
set_option linter.unusedVariables false
set_option linter.unusedSimpArgs false
open Go.RowKit
attribute [local irreducible] logB foldM tW ownL vecL sameL insE manyT lackL foldR
theorem kn22 : knd Tryz.prog 22 = some .u64 := by kernel_rfl
set_option maxRecDepth 4000 in
set_option maxHeartbeats 1000000 in
theorem twice_ok (hwk : DFun Tryz.prog 4 [] [] (.val (.bool true)) []) (x : LogM) (a b : Nat) (hb : logB (ownL x) = true) (h1 : (ownL x).fo ≤ min a b) (h2 : max a b ≤ 4611686018427387904) : DFun Tryz.prog 3 [.agg (logD x), .val (.int .u64 (a : Int)), .val (.int .u64 (b : Int))] [] (.val (.bool true)) [] := by
  refine dcalls_go (N := 162) 0 (by kernel_rfl) Tryz.func3 rfl rfl rfl (by simp only [fr0, Nat.zero_add, Nat.reduceAdd]; exact rfl) rfl fun s0 hs0 => ?_
  refine zaf ?_
  refine zah 1 (by simp only [holes, List.cons_append, List.nil_append]; exact rfl) ?_
  refine zac ?_
  refine walk_w rfl rfl rfl (op_boxam 0 rfl (ev1 rfl) rfl) (by simp only [upd, za, zaa]; exact rfl) ?_
  refine zab rfl rfl rfl (zad (.inr rfl) (ev1 rfl)) ?_
  refine zae ?_
  refine zaf ?_
  refine zaf ?_
  refine zac ?_
  refine zab rfl rfl rfl (zai [] [] [] rfl (ev1 rfl) en rfl rfl (hwk) rfl rfl rfl rfl rfl rfl) ?_
  refine zab rfl rfl rfl (op_not rfl (ev1 rfl)) ?_
  refine zae ?_
  refine dwp_if_f rfl (rfl) ?_
  refine dwp_skip ?_
  refine zaf ?_
  refine zah 1 (by simp only [holes, List.cons_append, List.nil_append]; exact rfl) ?_
  refine zac ?_
  refine zab rfl rfl rfl (op_ldmw rfl tb27 (ev1 rfl) rfl rfl) ?_
  refine zab rfl rfl rfl (zai [] [] [] rfl (ev1 rfl) (ec (ev1 rfl) en) rfl rfl (own_d _) rfl rfl rfl rfl rfl rfl) ?_
  refine walk_w rfl rfl rfl (op_alloc 1 rfl zr27 rfl) (by simp only [upd, za, zaa]; exact rfl) ?_
  refine walk_s rfl rfl (op_stam rfl tb27 (ev1 rfl) (ev1 rfl) rfl rfl rfl rfl) (by simp only [upd, za, zaa]; exact rfl) ?_
  refine zae ?_
  refine zaf ?_
  refine zac ?_
  refine zab rfl rfl rfl (zad (.inl rfl) (ev1 rfl)) ?_
  refine zab rfl rfl rfl (zad (.inl rfl) (ev1 rfl)) ?_
  refine zab rfl rfl rfl ((op_min rfl (ev1 rfl) (ev1 rfl)).cast (d' := .val (.int .u64 ((min a b : Nat) : Int))) (by congr 2; omega)) ?_
  refine zab rfl rfl rfl (zad (.inl rfl) (ev1 rfl)) ?_
  refine zab rfl rfl rfl (zad (.inl rfl) (ev1 rfl)) ?_
  refine zab rfl rfl rfl ((op_max rfl (ev1 rfl) (ev1 rfl)).cast (d' := .val (.int .u64 ((max a b : Nat) : Int))) (by congr 2; omega)) ?_
  refine zab rfl rfl rfl (zad (.inr rfl) (ev1 rfl)) ?_
  refine zab rfl rfl rfl (zad (.inr rfl) (ev1 rfl)) ?_
  refine zae ?_
  refine zaf ?_
  have hlen : (ownL x).ops.length ≤ 40 := ownL_len x
  have hmm : min a b ≤ max a b := by omega
  obtain ⟨fa1, fa2, fa3, fa4, fa5⟩ := fold_log (t := min a b) hb h1 (by omega)
  obtain ⟨fb1, fb2, fb3, fb4, fb5⟩ := fold_log (t := max a b) hb (by omega) h2
  have hla := tW_le (ownL x).ops (min a b)
  have hlb := tW_le (ownL x).ops (max a b)
  have htl := tW_len hmm (ownL x)
  have hfl : (foldM (ownL x) (min a b)).ops.length ≤ 40 := fold_len hlen
  have hfl2 : (foldM (ownL x) (max a b)).ops.length ≤ 40 := fold_len hlen
  refine zah 1 (by simp only [holes, List.cons_append, List.nil_append]; exact rfl) ?_
  refine zac ?_
  refine zab rfl rfl rfl (op_ldmw rfl tb27 (ev1 rfl) rfl rfl) ?_
  refine zab rfl rfl rfl (zad (.inl rfl) (ev1 rfl)) ?_
  refine zab rfl rfl rfl (zai [] [] [] rfl (ev1 rfl) (ec (ev1 rfl) (ec (ev1 rfl) en)) rfl rfl (Fold_ok (ownL x) (min a b) hb h1 (by omega) (by omega)) rfl rfl rfl rfl rfl rfl) ?_
  refine zab rfl rfl rfl (zad (.inl rfl) (ev1 rfl)) ?_
  refine zab rfl rfl rfl (op_ext rfl (ev1 rfl) rfl) ?_
  refine zab rfl rfl rfl (op_ext rfl (ev1 rfl) rfl) ?_
  refine zab rfl rfl rfl (op_ext rfl (ev1 rfl) rfl) ?_
  refine walk_w rfl rfl rfl (op_alloc 2 rfl zr27 rfl) (by simp only [upd, za, zaa]; exact rfl) ?_
  refine walk_s rfl rfl (op_stam rfl tb27 (ev1 rfl) (ev1 rfl) rfl rfl rfl rfl) (by simp only [upd, za, zaa]; exact rfl) ?_
  refine zab rfl rfl rfl (zad (.inr rfl) (ev1 rfl)) ?_
  refine zab rfl rfl rfl (zad (.inr rfl) (ev1 rfl)) ?_
  refine zae ?_
  refine zaf ?_
  refine zah 1 (by simp only [holes, List.cons_append, List.nil_append]; exact rfl) ?_
  refine zac ?_
  refine zab rfl rfl rfl (op_ldmw rfl tb27 (ev1 rfl) rfl rfl) ?_
  refine zab rfl rfl rfl (zad (.inl rfl) (ev1 rfl)) ?_
  refine zab rfl rfl rfl (zai [] [] [] rfl (ev1 rfl) (ec (ev1 rfl) (ec (ev1 rfl) en)) rfl rfl (Fold_ok (ownL x) (max a b) hb (by omega) h2 (by omega)) rfl rfl rfl rfl rfl rfl) ?_
  refine zab rfl rfl rfl (zad (.inl rfl) (ev1 rfl)) ?_
  refine zab rfl rfl rfl (op_ext rfl (ev1 rfl) rfl) ?_
  refine zab rfl rfl rfl (op_ext rfl (ev1 rfl) rfl) ?_
  refine zab rfl rfl rfl (op_ext rfl (ev1 rfl) rfl) ?_
  refine walk_w rfl rfl rfl (op_alloc 3 rfl zr27 rfl) (by simp only [upd, za, zaa]; exact rfl) ?_
  refine walk_s rfl rfl (op_stam rfl tb27 (ev1 rfl) (ev1 rfl) rfl rfl rfl rfl) (by simp only [upd, za, zaa]; exact rfl) ?_
  refine zab rfl rfl rfl (zad (.inr rfl) (ev1 rfl)) ?_
  refine zab rfl rfl rfl (zad (.inr rfl) (ev1 rfl)) ?_
  refine zae ?_
  refine zaf ?_
  refine zaf ?_
  refine zac ?_
  refine zab rfl rfl rfl (zad (.inl rfl) (ev1 rfl)) ?_
  refine zab rfl rfl rfl (op_neq rfl (ev1 rfl) (ev1 rfl)) ?_
  refine zab rfl rfl rfl (zad (.inl rfl) (ev1 rfl)) ?_
  refine zag (gd_f rfl rfl rfl) rfl rfl rfl (zad (.inl rfl) (ev1 rfl)) ?_
  refine zag (gd_f rfl rfl rfl) rfl rfl rfl (op_neq rfl (ev2 rfl) (ev1 rfl)) ?_
  refine zab rfl rfl rfl (op_or rfl (ev1 rfl) (ev3 rfl id)) ?_
  refine zae ?_
  refine dwp_if_f rfl (rfl) ?_
  refine dwp_skip ?_
  refine zaf ?_
  refine zah 1 (by simp only [holes, List.cons_append, List.nil_append]; exact rfl) ?_
  refine zac ?_
  refine zab rfl rfl rfl (op_ldmw rfl tb27 (ev1 rfl) rfl rfl) ?_
  refine zab rfl rfl rfl (zad (.inl rfl) (ev1 rfl)) ?_
  refine zab rfl rfl rfl (zai [] [] [] rfl (ev1 rfl) (ec (ev1 rfl) (ec (ev1 rfl) en)) rfl rfl (Fold_ok (foldM (ownL x) (min a b)) (max a b) fa1 (fold_fo hmm) h2 (by omega)) rfl rfl rfl rfl rfl rfl) ?_
  refine zab rfl rfl rfl (zad (.inl rfl) (ev1 rfl)) ?_
  refine zab rfl rfl rfl (op_ext rfl (ev1 rfl) rfl) ?_
  refine zab rfl rfl rfl (op_ext rfl (ev1 rfl) rfl) ?_
  refine zab rfl rfl rfl (op_ext rfl (ev1 rfl) rfl) ?_
  refine walk_w rfl rfl rfl (op_alloc 4 rfl zr27 rfl) (by simp only [upd, za, zaa]; exact rfl) ?_
  refine walk_s rfl rfl (op_stam rfl tb27 (ev1 rfl) (ev1 rfl) rfl rfl rfl rfl) (by simp only [upd, za, zaa]; exact rfl) ?_
  refine zab rfl rfl rfl (zad (.inr rfl) (ev1 rfl)) ?_
  refine zab rfl rfl rfl (zad (.inr rfl) (ev1 rfl)) ?_
  refine zae ?_
  refine zaf ?_
  refine zaf ?_
  have q1 : sameL (foldM (foldM (ownL x) (min a b)) (max a b)) (foldM (ownL x) (max a b)) = true := by rw [foldM_twice hmm]; exact sameL_refl _
  have q2 : eqV (vecL (foldM (ownL x) (max a b))) (vecL (ownL x)) = true := by rw [fb2]; exact eqV_refl _
  refine dwp_draw [([], []), ([], []), ([], []), ([4], []), ([3], []), ([], []), ([], []), ([], []), ([], []), ([], []), ([], []), ([], []), ([], []), ([], []), ([], []), ([], []), ([], []), ([], []), ([], []), ([3], []), ([], []), ([1], []), ([], []), ([], []), ([], []), ([], []), ([3], []), ([], []), ([], []), ([], [])] mixed (by kernel_rfl) ?_
  refine lex_r rfl rfl (zad (.inl rfl) (ev1 rfl)) ?_
  refine lex_r rfl rfl (op_neq rfl (ev1 rfl) (ev1 rfl)) ?_
  refine lex_r rfl rfl (zad (.inl rfl) (ev1 rfl)) ?_
  refine lex_gr (gd_f rfl rfl rfl) rfl rfl (op_ldmw rfl tb27 (ev1 rfl) rfl rfl) ?_
  refine lex_gr (gd_f rfl rfl rfl) rfl rfl (op_ldmw rfl tb27 (ev1 rfl) rfl rfl) ?_
  refine lex_gr (gd_f rfl rfl rfl) rfl rfl (zai [] [] [] rfl (ev1 rfl) (ec (ev2 rfl) (ec (ev2 rfl) en)) rfl rfl (lsame_d (foldM (foldM (ownL x) (min a b)) (max a b)) (foldM (ownL x) (max a b))) rfl rfl rfl rfl rfl rfl) ?_
  refine lex_gr (gd_f rfl rfl rfl) rfl rfl (op_not rfl (ev2 rfl)) ?_
  refine lex_r rfl rfl (op_or rfl (ev1 rfl) (ev3 rfl id)) ?_
  refine lex_r rfl rfl (zad (.inl rfl) (ev1 rfl)) ?_
  refine lex_gr (gd_f rfl rfl rfl) rfl rfl (zad (.inl rfl) (ev1 rfl)) ?_
  refine lex_gr (gd_f rfl rfl rfl) rfl rfl (op_lenm rfl sl25 (ev2 rfl)) ?_
  refine lex_gr (gd_f rfl rfl rfl) rfl rfl (zad (.inl rfl) (ev1 rfl)) ?_
  refine lex_gr (gd_f rfl rfl rfl) rfl rfl (op_lenm rfl sl25 (ev2 rfl)) ?_
  refine lex_gr (gd_f rfl rfl rfl) rfl rfl (op_add' rfl (ev2 rfl) (ev2 rfl) (fun _ => IntWalk.i64_in _ (by omega))) ?_
  refine lex_gr (gd_f rfl rfl rfl) rfl rfl (zad (.inl rfl) (ev1 rfl)) ?_
  refine lex_gr (gd_f rfl rfl rfl) rfl rfl (op_lenm rfl sl25 (ev2 rfl)) ?_
  refine lex_gr (gd_f rfl rfl rfl) rfl rfl (op_neq rfl (ev2 rfl) (ev2 rfl)) ?_
  refine lex_r rfl rfl (op_or rfl (ev1 rfl) (ev3 rfl id)) ?_
  refine lex_r rfl rfl (zad (.inl rfl) (ev1 rfl)) ?_
  refine lex_gr (gd_f rfl rfl rfl) rfl rfl (op_ldmw rfl tb27 (ev1 rfl) rfl rfl) ?_
  refine lex_gr (gd_f rfl rfl rfl) rfl rfl (zai [] [] [] rfl (ev1 rfl) (ec (ev2 rfl) en) rfl rfl (Vector_d (foldM (ownL x) (max a b))) rfl rfl rfl rfl rfl rfl) ?_
  refine lex_gr (gd_f rfl rfl rfl) rfl rfl (op_ldmw rfl tb27 (ev1 rfl) rfl rfl) ?_
  refine lex_gr (gd_f rfl rfl rfl) rfl rfl (zai [] [] [] rfl (ev1 rfl) (ec (ev2 rfl) en) rfl rfl (Vector_d (ownL x)) rfl rfl rfl rfl rfl rfl) ?_
  refine lex_gr (gd_f rfl rfl rfl) rfl rfl (op_ner eq24 rfl gd24 tb24 (ev2 rfl) (ev2 rfl)) ?_
  refine lex_r rfl rfl (op_or rfl (ev1 rfl) (ev3 rfl id)) ?_
  refine lex_r rfl rfl (zad (.inl rfl) (ev1 rfl)) ?_
  refine lex_gr (gd_f rfl rfl rfl) rfl rfl (op_ldmw rfl tb27 (ev1 rfl) rfl rfl) ?_
  refine lex_gr (gd_f rfl rfl rfl) rfl rfl (zai [] [] [] rfl (ev1 rfl) (ec (ev2 rfl) en) rfl rfl (lCheck_d (foldM (ownL x) (max a b))) rfl rfl rfl rfl rfl rfl) ?_
  refine lex_gr (gd_f rfl rfl rfl) rfl rfl (op_neq rfl (ev2 rfl) (ev1 rfl)) ?_
  refine lex_r rfl rfl (op_or rfl (ev1 rfl) (ev3 rfl id)) ?_
  refine lex_nil ?_
  refine dwp_if_f rfl (by simp [q1, q2, fb1, errOr]; omega) ?_
  refine dwp_skip ?_
  refine zaf ?_
  refine zaf ?_
  refine zac ?_
  refine zab rfl rfl rfl (zad (.inl rfl) (ev1 rfl)) ?_
  refine zab rfl rfl rfl (op_lenm rfl sl25 (ev1 rfl)) ?_
  refine zab rfl rfl rfl (zad (.inl rfl) (ev1 rfl)) ?_
  refine zae ?_
  refine dwp_block ?_
  refine dwp_loopS ⟨hs0, rfl⟩ (α := Nat) (fun k => [(107, .val (.int .i64 (k : Int)))]) [(2, _), (7, _), (11, _), (12, _), (105, _), (106, _)] (fun k => []) [_, _, _, _, _] (fun k => k ≤ (tW (ownL x).ops (max a b)).length) (fun k => (tW (ownL x).ops (max a b)).length - k) 0 [0, 1, 2, 3, 4] (Nat.zero_le _) rfl ⟨rfl, rfl, rfl, rfl, rfl, rfl, trivial⟩ ⟨rfl, trivial⟩ ⟨rfl, rfl, rfl, rfl, rfl, trivial⟩ ?_
  intro k hx
  simp only [upd, za, zaa, List.cons_append, List.nil_append]
  have hk := hx
  refine zaf ?_
  refine zac ?_
  refine zab rfl rfl rfl (op_lss rfl (ev1 rfl) (ev1 rfl)) ?_
  refine zae ?_
  refine zaf ?_
  refine dwp_cond rfl (fun c4 => ?_) (fun c4 => ?_)
  · try simp only [decide_eq_true_eq, decide_eq_false_iff_not, beq_iff_eq, bne_iff_ne, beq_eq_false_iff_ne, bne_eq_false_iff_eq, Bool.not_eq_true', Bool.not_eq_false', Bool.and_eq_true, Bool.or_eq_true, Bool.or_eq_false_iff, ne_eq, Decidable.not_not, Int.not_lt, Int.not_le] at c4
    refine dwp_skip ?_
    refine zaf ?_
    refine dwp_block ?_
    refine zaf ?_
    refine zah 1 (by simp only [holes, List.cons_append, List.nil_append]; exact rfl) ?_
    refine zac ?_
    refine zab rfl rfl rfl (zad (.inl rfl) (ev1 rfl)) ?_
    refine zab rfl rfl rfl (op_ixmr (k) (by decide) rfl sl25 (ev1 rfl) (ev1 rfl) (fun _ => rfl) (by omega) (fun _ => rfl)) ?_
    refine zab rfl rfl rfl (op_lddr rfl tb44 (ev1 rfl) rfl rfl) ?_
    refine walk_w rfl rfl rfl (op_alloc 5 rfl zr44 rfl) (by simp only [upd, za, zaa]; exact rfl) ?_
    refine zab rfl rfl rfl (zad (.inr rfl) (ev1 rfl)) ?_
    refine walk_s rfl rfl (op_stam rfl tb44 (ev1 rfl) (ev1 rfl) rfl rfl rfl rfl) (by simp only [upd, za, zaa]; exact rfl) ?_
    refine zae ?_
    refine zaf ?_
    obtain ⟨m1, m2, m3⟩ := fb5 _ (List.getElem_mem (show k < (tW (ownL x).ops (max a b)).length by omega))
    have m4 := tW_mem (show k < (tW (ownL x).ops (max a b)).length by omega)
    have m5 : ∀ h : 0 < k, lessR ((tW (ownL x).ops (max a b))[k - 1]).id ((tW (ownL x).ops (max a b))[k]).id = true := fun h => tW_less hb (by omega) (by omega)
    refine zah 1 (by simp only [holes, List.cons_append, List.nil_append]; exact rfl) ?_
    refine zac ?_
    refine zab rfl rfl rfl (op_ldmw rfl tb27 (ev1 rfl) rfl rfl) ?_
    refine zab rfl rfl rfl (op_ldmw rfl tb44 (ev1 rfl) rfl rfl) ?_
    refine zab rfl rfl rfl (zai [] [] [] rfl (ev1 rfl) (ec (ev1 rfl) (ec (ev1 rfl) en)) rfl rfl (Insert_p2 (foldM (ownL x) (max a b)) (tW (ownL x).ops (max a b))[k] fb1 (by omega) m1 m3) rfl rfl rfl rfl rfl rfl) ?_
    refine zab rfl rfl rfl (zad (.inl rfl) (ev1 rfl)) ?_
    refine zab rfl rfl rfl (op_ext rfl (ev1 rfl) rfl) ?_
    refine zab rfl rfl rfl (op_ext rfl (ev1 rfl) rfl) ?_
    refine zab rfl rfl rfl (op_ext rfl (ev1 rfl) rfl) ?_
    refine walk_w rfl rfl rfl (op_alloc 6 rfl zr27 rfl) (by simp only [upd, za, zaa]; exact rfl) ?_
    refine walk_s rfl rfl (op_stwa rfl tb27 (ev1 rfl) (ev1 rfl) rfl rfl rfl rfl) (by simp only [upd, za, zaa]; exact rfl) ?_
    refine zab rfl rfl rfl (zad (.inr rfl) (ev1 rfl)) ?_
    refine zab rfl rfl rfl (zad (.inr rfl) (ev1 rfl)) ?_
    refine zae ?_
    refine zaf ?_
    refine dwp_draw [([], []), ([], []), ([], []), ([], []), ([], []), ([5], []), ([], []), ([], []), ([], []), ([], []), ([], []), ([], []), ([], []), ([], []), ([], []), ([], []), ([], []), ([], []), ([], []), ([], []), ([5], []), ([], []), ([], []), ([], []), ([], []), ([], []), ([], []), ([3], []), ([], []), ([5], []), ([], []), ([], []), ([], [])] mixed (by kernel_rfl) ?_
    refine lex_r rfl rfl (zad (.inl rfl) (ev1 rfl)) ?_
    refine lex_r rfl rfl (op_neq rfl (ev1 rfl) (ev1 rfl)) ?_
    refine lex_r rfl rfl (zad (.inl rfl) (ev1 rfl)) ?_
    refine lex_gr (gd_f rfl rfl rfl) rfl rfl (op_fa rfl fo44_0 (ev1 rfl)) ?_
    refine lex_gr (gd_f rfl rfl rfl) rfl rfl (op_fa rfl fo37_0 (ev2 rfl)) ?_
    refine lex_gr (gd_f rfl rfl rfl) rfl rfl (op_ldm rfl tb22 (ev2 rfl) rfl rfl) ?_
    refine lex_gr (gd_f rfl rfl rfl) rfl rfl (zad (.inl rfl) (ev1 rfl)) ?_
    refine lex_gr (gd_f rfl rfl rfl) rfl rfl (op_gtr rfl (ev2 rfl) (ev2 rfl)) ?_
    refine lex_r rfl rfl (op_or rfl (ev1 rfl) (ev3 rfl id)) ?_
    refine lex_r rfl rfl (zad (.inl rfl) (ev1 rfl)) ?_
    refine lex_gr (gd_f rfl rfl rfl) rfl rfl (zad (.inl rfl) (ev1 rfl)) ?_
    refine lex_gr (gd_f rfl rfl rfl) rfl rfl (op_gtr rfl (ev2 rfl) (ev1 rfl)) ?_
    refine lex_gr (gd_f rfl rfl rfl) rfl rfl (zad (.inl rfl) (ev2 rfl)) ?_
    refine lex_gr (gd_tt rfl rfl rfl) rfl rfl (zad (.inl rfl) (ev1 rfl)) ?_
    refine lex_gr (gd_tt rfl rfl rfl) rfl rfl (zad (.inl rfl) (ev1 rfl)) ?_
    refine lex_gr (gd_tt rfl rfl rfl) rfl rfl (op_sub' rfl (ev2 rfl) (ev1 rfl) (fun hp => IntWalk.i64_in _ (by simp at hp; omega))) ?_
    refine lex_gr (gd_tt rfl rfl rfl) rfl rfl (op_ixmr (k - 1) (by decide) rfl sl25 (ev2 rfl) (ev2 rfl) (fun hp => by simp at hp; omega) (by omega) (fun _ => rfl)) ?_
    refine lex_gr (gd_tt rfl rfl rfl) rfl rfl (op_fadm rfl fo44_0 (ev2 rfl)) ?_
    refine lex_gr (gd_tt rfl rfl rfl) rfl rfl (op_lddv (idc ((tW (ownL x).ops (max a b))[k - 1]).id) rfl tb37 (ev2 rfl) rfl rfl) ?_
    refine lex_gr (gd_tt rfl rfl rfl) rfl rfl (op_fa rfl fo44_0 (ev1 rfl)) ?_
    refine lex_gr (gd_tt rfl rfl rfl) rfl rfl (op_ldmv (R := [_, _, _]) rfl tb37 (ev2 rfl) rfl rfl rfl) ?_
    refine lex_gr (gd_tt rfl rfl rfl) rfl rfl (zai [] [] [] rfl (ev1 rfl) (ec (ev2 rfl) (ec (ev2 rfl) en)) rfl rfl (idLess_d ((tW (ownL x).ops (max a b))[k - 1]).id ((tW (ownL x).ops (max a b))[k]).id) rfl rfl rfl rfl rfl rfl) ?_
    refine lex_gr (gd_tt rfl rfl rfl) rfl rfl (op_not rfl (ev2 rfl)) ?_
    refine lex_gr (gd_f rfl rfl rfl) rfl rfl (op_and rfl (ev2 rfl) (ev2 rfl)) ?_
    refine lex_r rfl rfl (op_or rfl (ev1 rfl) (ev3 rfl id)) ?_
    refine lex_r rfl rfl (zad (.inl rfl) (ev1 rfl)) ?_
    refine lex_gr (gd_f rfl rfl rfl) rfl rfl (op_fa rfl fo27_1 (ev1 rfl)) ?_
    refine lex_gr (gd_f rfl rfl rfl) rfl rfl (op_ldmv (R := [_, _, _, _, _, _, _, _, _]) rfl tb24 (ev2 rfl) rfl rfl rfl) ?_
    refine lex_gr (gd_f rfl rfl rfl) rfl rfl (op_fa rfl fo44_0 (ev1 rfl)) ?_
    refine lex_gr (gd_f rfl rfl rfl) rfl rfl (op_ldmv (R := [_, _, _]) rfl tb37 (ev2 rfl) rfl rfl rfl) ?_
    refine lex_gr (gd_f rfl rfl rfl) rfl rfl (zai [] [] [] rfl (ev1 rfl) (ec (ev2 rfl) (ec (ev2 rfl) en)) rfl rfl (has_d (foldM (ownL x) (max a b)).bs ((tW (ownL x).ops (max a b))[k]).id fb3.2 (opB_id m1) m2) rfl rfl rfl rfl rfl rfl) ?_
    refine lex_gr (gd_f rfl rfl rfl) rfl rfl (op_not rfl (ev2 rfl)) ?_
    refine lex_r rfl rfl (op_or rfl (ev1 rfl) (ev3 rfl id)) ?_
    refine lex_nil ?_
    refine dwp_if_f rfl (by simp; exact ⟨by omega, m5⟩) ?_
    refine dwp_skip ?_
    refine zac ?_
    refine zab rfl rfl rfl (op_add' rfl (ev1 rfl) (ev1 rfl) (fun _ => IntWalk.i64_in _ (by omega))) ?_
    refine zab rfl rfl rfl (zad (.inl rfl) (ev1 rfl)) ?_
    refine zae ?_
    refine ⟨k + 1, [0, 1, 2, 3, 4], by omega, by simp only []; omega, rfl, ⟨rfl, rfl, rfl, rfl, rfl, rfl, rfl, trivial⟩, ⟨rfl, rfl, rfl, rfl, rfl, trivial⟩⟩
  · try simp only [decide_eq_true_eq, decide_eq_false_iff_not, beq_iff_eq, bne_iff_ne, beq_eq_false_iff_ne, bne_eq_false_iff_eq, Bool.not_eq_true', Bool.not_eq_false', Bool.and_eq_true, Bool.or_eq_true, Bool.or_eq_false_iff, ne_eq, Decidable.not_not, Int.not_lt, Int.not_le] at c4
    refine dwp_exit ?_
    refine zaf ?_
    refine zac ?_
    refine zab rfl rfl rfl (op_fa rfl fo27_1 (ev1 rfl)) ?_
    refine zab rfl rfl rfl (op_ldmv (R := [_, _, _, _, _, _, _, _, _]) rfl tb24 (ev1 rfl) rfl rfl rfl) ?_
    refine zab rfl rfl rfl (op_fa rfl fo27_1 (ev1 rfl)) ?_
    refine zab rfl rfl rfl (op_ldmv (R := [_, _, _, _, _, _, _, _, _]) rfl tb24 (ev1 rfl) rfl rfl rfl) ?_
    refine zab rfl rfl rfl (zai [] [] [] rfl (ev1 rfl) (ec (ev1 rfl) (ec (ev1 rfl) en)) rfl rfl (many_d (ownL x).bs (foldM (ownL x) (max a b)).bs fb3.1 fb3.2) rfl rfl rfl rfl rfl rfl) ?_
    refine zab rfl rfl rfl (zad (.inl rfl) (ev1 rfl)) ?_
    refine zab rfl rfl rfl (op_lenm rfl sl25 (ev1 rfl)) ?_
    refine zab rfl rfl rfl (op_conv' ty3 kn22 rfl (ev1 rfl) (fun _ => IntWalk.u64_in _ (by omega))) ?_
    refine zab rfl rfl rfl (op_eql rfl (ev1 rfl) (ev1 rfl)) ?_
    refine zab rfl rfl rfl (zad (.inr rfl) (ev1 rfl)) ?_
    refine zae ?_
    refine dwp_ret ?_
    refine kend0 (rs1 rfl (rv_t rfl)) rfl ?_
    rw [many_fold fb3.1 fb3.2 fb4.1 fb4.2 (by omega)]
    simp
set_option maxRecDepth 4000 in
set_option maxHeartbeats 1000000 in
theorem twice_no (hwk : DFun Tryz.prog 4 [] [] (.val (.bool true)) []) (x : LogM) (a b : Nat) (hno : ¬ (logB (ownL x) = true ∧ (ownL x).fo ≤ min a b ∧ max a b ≤ 4611686018427387904)) : DFun Tryz.prog 3 [.agg (logD x), .val (.int .u64 (a : Int)), .val (.int .u64 (b : Int))] [] (.val (.bool true)) [] := by
  refine dcalls_go (N := 162) 0 (by kernel_rfl) Tryz.func3 rfl rfl rfl (by simp only [fr0, Nat.zero_add, Nat.reduceAdd]; exact rfl) rfl fun s0 hs0 => ?_
  refine zaf ?_
  refine zah 1 (by simp only [holes, List.cons_append, List.nil_append]; exact rfl) ?_
  refine zac ?_
  refine walk_w rfl rfl rfl (op_boxam 0 rfl (ev1 rfl) rfl) (by simp only [upd, za, zaa]; exact rfl) ?_
  refine zab rfl rfl rfl (zad (.inr rfl) (ev1 rfl)) ?_
  refine zae ?_
  refine zaf ?_
  refine zaf ?_
  refine zac ?_
  refine zab rfl rfl rfl (zai [] [] [] rfl (ev1 rfl) en rfl rfl (hwk) rfl rfl rfl rfl rfl rfl) ?_
  refine zab rfl rfl rfl (op_not rfl (ev1 rfl)) ?_
  refine zae ?_
  refine dwp_if_f rfl (rfl) ?_
  refine dwp_skip ?_
  refine zaf ?_
  refine zah 1 (by simp only [holes, List.cons_append, List.nil_append]; exact rfl) ?_
  refine zac ?_
  refine zab rfl rfl rfl (op_ldmw rfl tb27 (ev1 rfl) rfl rfl) ?_
  refine zab rfl rfl rfl (zai [] [] [] rfl (ev1 rfl) (ec (ev1 rfl) en) rfl rfl (own_d _) rfl rfl rfl rfl rfl rfl) ?_
  refine walk_w rfl rfl rfl (op_alloc 1 rfl zr27 rfl) (by simp only [upd, za, zaa]; exact rfl) ?_
  refine walk_s rfl rfl (op_stam rfl tb27 (ev1 rfl) (ev1 rfl) rfl rfl rfl rfl) (by simp only [upd, za, zaa]; exact rfl) ?_
  refine zae ?_
  refine zaf ?_
  refine zac ?_
  refine zab rfl rfl rfl (zad (.inl rfl) (ev1 rfl)) ?_
  refine zab rfl rfl rfl (zad (.inl rfl) (ev1 rfl)) ?_
  refine zab rfl rfl rfl ((op_min rfl (ev1 rfl) (ev1 rfl)).cast (d' := .val (.int .u64 ((min a b : Nat) : Int))) (by congr 2; omega)) ?_
  refine zab rfl rfl rfl (zad (.inl rfl) (ev1 rfl)) ?_
  refine zab rfl rfl rfl (zad (.inl rfl) (ev1 rfl)) ?_
  refine zab rfl rfl rfl ((op_max rfl (ev1 rfl) (ev1 rfl)).cast (d' := .val (.int .u64 ((max a b : Nat) : Int))) (by congr 2; omega)) ?_
  refine zab rfl rfl rfl (zad (.inr rfl) (ev1 rfl)) ?_
  refine zab rfl rfl rfl (zad (.inr rfl) (ev1 rfl)) ?_
  refine zae ?_
  refine zaf ?_
  have hlen : (ownL x).ops.length ≤ 40 := ownL_len x
  have hq : ¬ (foldR (ownL x) (min a b)).2.2 = 0 ∨ ¬ (foldR (ownL x) (max a b)).2.2 = 0 := by
    rcases Decidable.em ((foldR (ownL x) (min a b)).2.2 = 0) with h | h
    · refine .inr fun k => ?_
      obtain ⟨z1, z2, z3⟩ := foldR_zero h
      obtain ⟨z4, z5, z6⟩ := foldR_zero k
      exact hno ⟨z1, z2, z6⟩
    · exact .inl h
  refine zah 1 (by simp only [holes, List.cons_append, List.nil_append]; exact rfl) ?_
  refine zac ?_
  refine zab rfl rfl rfl (op_ldmw rfl tb27 (ev1 rfl) rfl rfl) ?_
  refine zab rfl rfl rfl (zad (.inl rfl) (ev1 rfl)) ?_
  refine zab rfl rfl rfl (zai [] [] [] rfl (ev1 rfl) (ec (ev1 rfl) (ec (ev1 rfl) en)) rfl rfl (Fold_d (ownL x) (min a b) (by omega)) rfl rfl rfl rfl rfl rfl) ?_
  refine zab rfl rfl rfl (zad (.inl rfl) (ev1 rfl)) ?_
  refine zab rfl rfl rfl (op_ext rfl (ev1 rfl) rfl) ?_
  refine zab rfl rfl rfl (op_ext rfl (ev1 rfl) rfl) ?_
  refine zab rfl rfl rfl (op_ext rfl (ev1 rfl) rfl) ?_
  refine walk_w rfl rfl rfl (op_alloc 2 rfl zr27 rfl) (by simp only [upd, za, zaa]; exact rfl) ?_
  refine walk_s rfl rfl (op_stam rfl tb27 (ev1 rfl) (ev1 rfl) rfl rfl rfl rfl) (by simp only [upd, za, zaa]; exact rfl) ?_
  refine zab rfl rfl rfl (zad (.inr rfl) (ev1 rfl)) ?_
  refine zab rfl rfl rfl (zad (.inr rfl) (ev1 rfl)) ?_
  refine zae ?_
  refine zaf ?_
  refine zah 1 (by simp only [holes, List.cons_append, List.nil_append]; exact rfl) ?_
  refine zac ?_
  refine zab rfl rfl rfl (op_ldmw rfl tb27 (ev1 rfl) rfl rfl) ?_
  refine zab rfl rfl rfl (zad (.inl rfl) (ev1 rfl)) ?_
  refine zab rfl rfl rfl (zai [] [] [] rfl (ev1 rfl) (ec (ev1 rfl) (ec (ev1 rfl) en)) rfl rfl (Fold_d (ownL x) (max a b) (by omega)) rfl rfl rfl rfl rfl rfl) ?_
  refine zab rfl rfl rfl (zad (.inl rfl) (ev1 rfl)) ?_
  refine zab rfl rfl rfl (op_ext rfl (ev1 rfl) rfl) ?_
  refine zab rfl rfl rfl (op_ext rfl (ev1 rfl) rfl) ?_
  refine zab rfl rfl rfl (op_ext rfl (ev1 rfl) rfl) ?_
  refine walk_w rfl rfl rfl (op_alloc 3 rfl zr27 rfl) (by simp only [upd, za, zaa]; exact rfl) ?_
  refine walk_s rfl rfl (op_stam rfl tb27 (ev1 rfl) (ev1 rfl) rfl rfl rfl rfl) (by simp only [upd, za, zaa]; exact rfl) ?_
  refine zab rfl rfl rfl (zad (.inr rfl) (ev1 rfl)) ?_
  refine zab rfl rfl rfl (zad (.inr rfl) (ev1 rfl)) ?_
  refine zae ?_
  refine zaf ?_
  refine zaf ?_
  refine zac ?_
  refine zab rfl rfl rfl (zad (.inl rfl) (ev1 rfl)) ?_
  refine zab rfl rfl rfl (op_neq rfl (ev1 rfl) (ev1 rfl)) ?_
  refine zab rfl rfl rfl (zad (.inl rfl) (ev1 rfl)) ?_
  refine zag (gd_f rfl rfl rfl) rfl rfl rfl (zad (.inl rfl) (ev1 rfl)) ?_
  refine zag (gd_f rfl rfl rfl) rfl rfl rfl (op_neq rfl (ev2 rfl) (ev1 rfl)) ?_
  refine zab rfl rfl rfl (op_or rfl (ev1 rfl) (ev3 rfl id)) ?_
  refine zae ?_
  refine dwp_if_t rfl (by simp; exact hq) ?_
  refine zaf ?_
  refine zac ?_
  refine zab rfl rfl rfl (zad (.inl rfl) (ev1 rfl)) ?_
  refine zab rfl rfl rfl (op_eql rfl (ev1 rfl) (ev1 rfl)) ?_
  refine zab rfl rfl rfl (zad (.inl rfl) (ev1 rfl)) ?_
  refine zag (gd_f rfl rfl rfl) rfl rfl rfl (zad (.inl rfl) (ev1 rfl)) ?_
  refine zag (gd_f rfl rfl rfl) rfl rfl rfl (op_lenm rfl sl25 (ev2 rfl)) ?_
  refine zag (gd_f rfl rfl rfl) rfl rfl rfl (op_eql rfl (ev2 rfl) (ev1 rfl)) ?_
  refine zab rfl rfl rfl (op_or rfl (ev1 rfl) (ev3 rfl id)) ?_
  refine zab rfl rfl rfl (zad (.inl rfl) (ev1 rfl)) ?_
  refine zag (gd_t rfl rfl rfl) rfl rfl rfl (zad (.inl rfl) (ev1 rfl)) ?_
  refine zag (gd_t rfl rfl rfl) rfl rfl rfl (op_eql rfl (ev2 rfl) (ev1 rfl)) ?_
  refine zag (gd_t rfl rfl rfl) rfl rfl rfl (zad (.inl rfl) (ev2 rfl)) ?_
  refine zag (gd_ff rfl rfl rfl) rfl rfl rfl (zad (.inl rfl) (ev1 rfl)) ?_
  refine zag (gd_ff rfl rfl rfl) rfl rfl rfl (op_lenm rfl sl25 (ev2 rfl)) ?_
  refine zag (gd_ff rfl rfl rfl) rfl rfl rfl (op_eql rfl (ev2 rfl) (ev1 rfl)) ?_
  refine zag (gd_t rfl rfl rfl) rfl rfl rfl (op_or rfl (ev2 rfl) (ev2 rfl)) ?_
  refine zab rfl rfl rfl (op_and rfl (ev1 rfl) (ev3 rfl id)) ?_
  refine zab rfl rfl rfl (zad (.inr rfl) (ev1 rfl)) ?_
  refine zae ?_
  refine dwp_ret ?_
  refine kend0 (rs1 rfl (rv_t rfl)) rfl ?_
  have hz := foldR_res (ownL x) (ownL x) (min a b) (max a b)
  rw [D.val.injEq, Value.bool.injEq]
  simp at hz ⊢
  exact hz
theorem twice_d (hwk : DFun Tryz.prog 4 [] [] (.val (.bool true)) []) (x : LogM) (a b : Nat) : DFun Tryz.prog 3 [.agg (logD x), .val (.int .u64 (a : Int)), .val (.int .u64 (b : Int))] [] (.val (.bool true)) [] := by
  by_cases h : logB (ownL x) = true ∧ (ownL x).fo ≤ min a b ∧ max a b ≤ 4611686018427387904
  · exact twice_ok hwk x a b h.1 h.2.1 h.2.2
  · exact twice_no hwk x a b h
end Go.Proofs.YtbcnaacgillhcaaGreat
namespace Go.Proofs.YtbcnaacgillhcaaGreat
set_option linter.unusedVariables false
set_option linter.unusedSimpArgs false
open Go.RowKit
def vOf (a b : Nat) : Vec := fun i => if i = 1 then a else if i = 2 then b else 0
def wZ : LogM := ⟨0, z9, []⟩
def wSix : List OpM := [mkO 5 1 1, mkO 3 2 1, mkO 7 1 2, mkO 7 1 2, mkO 9 1 4, mkO 2 2 2]
def wL : LogM := ⟨0, z9, [mkO 3 2 1, mkO 5 1 1, mkO 7 1 2]⟩
def wM : List OpM := [mkO 3 2 1, mkO 7 1 2]
def wN : LogM := ⟨5, vOf 1 1, [mkO 7 1 2]⟩
def wG : List OpM := [mkO 3 2 1, mkO 5 1 1]
theorem wZ_log : logB wZ = true := by kernel_rfl
theorem wL_log : logB wL = true := by kernel_rfl
set_option maxRecDepth 4000 in
set_option maxHeartbeats 1000000 in
theorem equalE (l r : List Int) : DFun Tryz.prog 18 [.slf 1 l.length (l.flatMap inI), .slf 1 r.length (r.flatMap inI)] [] (.val (.bool (decide (l = r)))) [] := by
  refine dcalls_go (N := 26) 0 (by kernel_rfl) Tryz.func18 rfl rfl rfl (by simp only [fr0, Nat.zero_add, Nat.reduceAdd]; exact rfl) rfl fun s0 hs0 => ?_
  refine dwp_len (t := 0) rfl fun hl0 hL0 => ?_
  refine dwp_len (t := 1) rfl fun hl1 hL1 => ?_
  refine zaf ?_
  refine zac ?_
  refine zab rfl rfl rfl (zad (.inr rfl) (ev1 rfl)) ?_
  refine zae ?_
  refine zaf ?_
  refine zaf ?_
  refine zac ?_
  refine zab rfl rfl rfl (zad (.inl rfl) (ev1 rfl)) ?_
  refine zab rfl rfl rfl (op_len rfl sl51 (ev1 rfl)) ?_
  refine zab rfl rfl rfl (zad (.inl rfl) (ev1 rfl)) ?_
  refine zab rfl rfl rfl (op_len rfl sl51 (ev1 rfl)) ?_
  refine zab rfl rfl rfl (op_neq rfl (ev1 rfl) (ev1 rfl)) ?_
  refine zae ?_
  refine dwp_cond rfl (fun c1 => ?_) (fun c1 => ?_)
  · try simp only [decide_eq_true_eq, decide_eq_false_iff_not, beq_iff_eq, bne_iff_ne, beq_eq_false_iff_ne, bne_eq_false_iff_eq, Bool.not_eq_true', Bool.not_eq_false', Bool.and_eq_true, Bool.or_eq_true, Bool.or_eq_false_iff, ne_eq, Decidable.not_not, Int.not_lt, Int.not_le] at c1
    refine zaf ?_
    refine zac ?_
    refine zab rfl rfl rfl (zad (.inr rfl) (ev1 rfl)) ?_
    refine zae ?_
    refine dwp_ret ?_
    refine kend0 (rs1 rfl (rv_t rfl)) rfl ?_
    have hne : l ≠ r := fun e => by subst e; exact c1 rfl
    rw [decide_eq_false hne]
  · try simp only [decide_eq_true_eq, decide_eq_false_iff_not, beq_iff_eq, bne_iff_ne, beq_eq_false_iff_ne, bne_eq_false_iff_eq, Bool.not_eq_true', Bool.not_eq_false', Bool.and_eq_true, Bool.or_eq_true, Bool.or_eq_false_iff, ne_eq, Decidable.not_not, Int.not_lt, Int.not_le] at c1
    have hlen : l.length = r.length := by omega
    refine dwp_skip ?_
    refine zaf ?_
    refine zaf ?_
    refine zac ?_
    refine zab rfl rfl rfl (zad (.inl rfl) (ev1 rfl)) ?_
    refine zab rfl rfl rfl (op_len rfl sl51 (ev1 rfl)) ?_
    refine zab rfl rfl rfl (zad (.inl rfl) (ev1 rfl)) ?_
    refine zae ?_
    refine dwp_block ?_
    refine dwp_loopS ⟨hs0, rfl⟩ (α := Nat) (fun k => [(13, .val (.int .i64 (k : Int)))]) [(0, _), (1, _), (12, _)] (fun k => []) [] (fun k => k ≤ l.length ∧ l.take k = r.take k) (fun k => l.length - k) 0 [] (by simp) rfl ⟨rfl, rfl, rfl, trivial⟩ ⟨rfl, trivial⟩ trivial ?_
    intro k hx
    simp only [upd, za, zaa, List.cons_append, List.nil_append]
    obtain ⟨hk, he⟩ := hx
    refine zaf ?_
    refine zac ?_
    refine zab rfl rfl rfl (op_lss rfl (ev1 rfl) (ev1 rfl)) ?_
    refine zae ?_
    refine zaf ?_
    refine dwp_cond rfl (fun c2 => ?_) (fun c2 => ?_)
    · try simp only [decide_eq_true_eq, decide_eq_false_iff_not, beq_iff_eq, bne_iff_ne, beq_eq_false_iff_ne, bne_eq_false_iff_eq, Bool.not_eq_true', Bool.not_eq_false', Bool.and_eq_true, Bool.or_eq_true, Bool.or_eq_false_iff, ne_eq, Decidable.not_not, Int.not_lt, Int.not_le] at c2
      refine dwp_skip ?_
      refine zaf ?_
      refine dwp_block ?_
      refine zaf ?_
      refine zac ?_
      refine zab rfl rfl rfl (zad (.inl rfl) (ev1 rfl)) ?_
      refine zab rfl rfl rfl (zad (.inr rfl) (ev1 rfl)) ?_
      refine zae ?_
      refine zaf ?_
      refine dwp_draw [([], []), ([], []), ([], []), ([], []), ([], []), ([], []), ([], []), ([], []), ([], [])] mixed (by kernel_rfl) ?_
      refine lex_r rfl rfl (zad (.inl rfl) (ev1 rfl)) ?_
      refine lex_r rfl rfl (zad (.inl rfl) (ev1 rfl)) ?_
      refine lex_r rfl rfl (op_ixsr (j := k) rfl sl51 (ev1 rfl) (ev1 rfl) (fun _ => rfl) (by decide) (by omega) (by omega)) ?_
      refine lex_r rfl rfl (op_ldod rfl tb30 (ev1 rfl) rfl) ?_
      refine lex_r rfl rfl (zad (.inl rfl) (ev1 rfl)) ?_
      refine lex_r rfl rfl (zad (.inl rfl) (ev1 rfl)) ?_
      refine lex_r rfl rfl (op_ixsr (j := k) rfl sl51 (ev1 rfl) (ev1 rfl) (fun _ => rfl) (by decide) (by omega) (by omega)) ?_
      refine lex_r rfl rfl (op_ldod rfl tb30 (ev1 rfl) rfl) ?_
      refine lex_r rfl rfl (op_neq rfl (ev1 rfl) (ev1 rfl)) ?_
      refine lex_nil ?_
      refine dwp_cond rfl (fun c2 => ?_) (fun c2 => ?_)
      · have c3 : l[k] ≠ r[k] := by simpa using c2
        refine zaf ?_
        refine zac ?_
        refine zab rfl rfl rfl (zad (.inr rfl) (ev1 rfl)) ?_
        refine zae ?_
        refine dwp_ret ?_
        refine kend0 (rs1 rfl (rv_t rfl)) rfl ?_
        have hne : l ≠ r := fun e => by subst e; exact c3 rfl
        rw [decide_eq_false hne]
      · have c3 : l[k] = r[k] := by simpa using c2
        refine dwp_skip ?_
        refine zac ?_
        refine zab rfl rfl rfl (op_add' rfl (ev1 rfl) (ev1 rfl) (fun _ => IntWalk.i64_in _ (by omega))) ?_
        refine zab rfl rfl rfl (zad (.inl rfl) (ev1 rfl)) ?_
        refine zae ?_
        refine ⟨k + 1, [], ⟨by omega, by rw [List.take_succ_eq_append_getElem (by omega), List.take_succ_eq_append_getElem (by omega), he, c3]⟩, by simp only []; omega, rfl, ⟨rfl, rfl, rfl, rfl, trivial⟩, trivial⟩
    · try simp only [decide_eq_true_eq, decide_eq_false_iff_not, beq_iff_eq, bne_iff_ne, beq_eq_false_iff_ne, bne_eq_false_iff_eq, Bool.not_eq_true', Bool.not_eq_false', Bool.and_eq_true, Bool.or_eq_true, Bool.or_eq_false_iff, ne_eq, Decidable.not_not, Int.not_lt, Int.not_le] at c2
      refine dwp_exit ?_
      refine zaf ?_
      refine zac ?_
      refine zab rfl rfl rfl (zad (.inr rfl) (ev1 rfl)) ?_
      refine zae ?_
      refine dwp_ret ?_
      refine kend0 (rs1 rfl (rv_t rfl)) rfl ?_
      have e : l = r := by
        have h := he
        rw [List.take_of_length_le (by omega), List.take_of_length_le (by omega)] at h
        exact h
      rw [decide_eq_true e]
set_option maxRecDepth 4000 in
set_option maxHeartbeats 1000000 in
theorem wakes_d : DFun Tryz.prog 4 [] [] (.val (.bool true)) [] := by
  refine dcalls_go (N := 111) 0 (by kernel_rfl) Tryz.func4 rfl rfl rfl (by simp only [fr0, Nat.zero_add, Nat.reduceAdd]; exact rfl) rfl fun s0 hs0 => ?_
  refine zaf ?_
  refine zac ?_
  refine zab rfl rfl rfl (zad (.inr rfl) (ev1 rfl)) ?_
  refine zae ?_
  refine zaf ?_
  refine zah 1 (by simp only [holes, List.cons_append, List.nil_append]; exact rfl) ?_
  refine zac ?_
  refine zab rfl rfl rfl (zai [] [] [] rfl (ev1 rfl) en rfl rfl (new_d) rfl rfl rfl rfl rfl rfl) ?_
  refine zab rfl rfl rfl (zai [] [] [] rfl (ev1 rfl) (ec (ev1 rfl) (ec (ev1 rfl) (ec (ev1 rfl) en))) rfl rfl (mark_d _ _ _) rfl rfl rfl rfl rfl rfl) ?_
  refine zab rfl rfl rfl (zai [] [] [] rfl (ev1 rfl) (ec (ev1 rfl) (ec (ev1 rfl) (ec (ev1 rfl) en))) rfl rfl (mark_d _ _ _) rfl rfl rfl rfl rfl rfl) ?_
  refine zab rfl rfl rfl (zai [] [] [] rfl (ev1 rfl) (ec (ev1 rfl) (ec (ev1 rfl) (ec (ev1 rfl) en))) rfl rfl (mark_d _ _ _) rfl rfl rfl rfl rfl rfl) ?_
  refine zab rfl rfl rfl (zai [] [] [] rfl (ev1 rfl) (ec (ev1 rfl) (ec (ev1 rfl) (ec (ev1 rfl) en))) rfl rfl (mark_d _ _ _) rfl rfl rfl rfl rfl rfl) ?_
  refine zab rfl rfl rfl (zai [] [] [] rfl (ev1 rfl) (ec (ev1 rfl) (ec (ev1 rfl) (ec (ev1 rfl) en))) rfl rfl (mark_d _ _ _) rfl rfl rfl rfl rfl rfl) ?_
  refine zab rfl rfl rfl (zai [] [] [] rfl (ev1 rfl) (ec (ev1 rfl) (ec (ev1 rfl) (ec (ev1 rfl) en))) rfl rfl (mark_d _ _ _) rfl rfl rfl rfl rfl rfl) ?_
  refine zab rfl rfl rfl ((op_bsr (ps := [(0, .tmp 16), (1, .tmp 17), (2, .tmp 18), (3, .tmp 19), (4, .tmp 20), (5, .tmp 21)]) rfl sl25 zr44 rfl (ec (ev1 rfl) (ec (ev1 rfl) (ec (ev1 rfl) (ec (ev1 rfl) (ec (ev1 rfl) (ec (ev1 rfl) en)))))) rfl rfl rfl (by rfl) rfl (by decide) (by decide)).cast (d' := .slm 19 wSix.length (wSix.flatMap opD)) (by kernel_rfl)) ?_
  refine zab rfl rfl rfl (zai [] [] [] rfl (ev1 rfl) (ec (ev1 rfl) (ec (ev1 rfl) en)) rfl rfl (Inserts_d wZ wSix wZ_log (by decide) (by decide)) rfl rfl rfl rfl rfl rfl) ?_
  refine zab rfl rfl rfl (zad (.inl rfl) (ev1 rfl)) ?_
  refine zab rfl rfl rfl ((op_ext rfl (ev1 rfl) rfl).cast (d' := .agg (logD wL)) (by kernel_rfl)) ?_
  refine zab rfl rfl rfl ((op_ext rfl (ev1 rfl) rfl).cast (d' := .slf 1 ([0, 0, 0, 5, 231, 241] : List Int).length (([0, 0, 0, 5, 231, 241] : List Int).flatMap inI)) (by kernel_rfl)) ?_
  refine walk_w rfl rfl rfl (op_alloc 0 rfl zr27 rfl) (by simp only [upd, za, zaa]; exact rfl) ?_
  refine walk_s rfl rfl (op_stam rfl tb27 (ev1 rfl) (ev1 rfl) rfl rfl rfl rfl) (by simp only [upd, za, zaa]; exact rfl) ?_
  refine zab rfl rfl rfl (zad (.inr rfl) (ev1 rfl)) ?_
  refine zae ?_
  refine zaf ?_
  refine zah 1 (by simp only [holes, List.cons_append, List.nil_append]; exact rfl) ?_
  refine dwp_draw [([0], []), ([], []), ([], []), ([], []), ([], []), ([], []), ([], []), ([1], [1]), ([1], [1]), ([], []), ([], [])] mixed (by kernel_rfl) ?_
  refine lex_r rfl rfl (op_ldmw rfl tb27 (ev1 rfl) rfl rfl) ?_
  refine lex_r rfl rfl (zai [] [] [] rfl (ev1 rfl) (ec (ev1 rfl) (ec (ev1 rfl) (ec (ev1 rfl) en))) rfl rfl (mark_d _ _ _) rfl rfl rfl rfl rfl rfl) ?_
  refine lex_r rfl rfl (zai [] [] [] rfl (ev1 rfl) (ec (ev1 rfl) (ec (ev1 rfl) en)) rfl rfl (Insert_d wL (mkO 4 2 2) (by decide)) rfl rfl rfl rfl rfl rfl) ?_
  refine lex_r rfl rfl (zad (.inl rfl) (ev1 rfl)) ?_
  refine lex_r rfl rfl (op_ext rfl (ev1 rfl) rfl) ?_
  refine lex_r rfl rfl ((op_ext rfl (ev1 rfl) rfl).cast (d' := .val (.int .i64 1)) (by kernel_rfl)) ?_
  refine lex_r rfl rfl ((op_ext rfl (ev1 rfl) rfl).cast (d' := .val (.int .i64 0)) (by kernel_rfl)) ?_
  refine lex_w rfl rfl (op_alloc 1 rfl zr27 rfl) rfl (by simp only [upd, za, zaa]; exact rfl) ?_
  refine lex_s rfl rfl (op_stam rfl tb27 (ev1 rfl) (ev1 rfl) rfl rfl rfl rfl) rfl (by simp only [upd, za, zaa]; exact rfl) ?_
  refine lex_r rfl rfl (zad (.inr rfl) (ev1 rfl)) ?_
  refine lex_r rfl rfl (zad (.inr rfl) (ev1 rfl)) ?_
  refine lex_nil ?_
  refine zaf ?_
  refine zac ?_
  refine zab rfl rfl rfl (op_ldmw rfl tb27 (ev1 rfl) rfl rfl) ?_
  refine zab rfl rfl rfl ((op_bldaD (ps := [(1, .const (.int .u64 1))]) rfl ar24 zr24 (ec (ev1 rfl) en) rfl rfl rfl rfl).wk (Wk.aggv (c9 (vOf 1 0)))) ?_
  refine zab rfl rfl rfl (zai [] [] [] rfl (ev1 rfl) (ec (ev1 rfl) (ec (ev1 rfl) (ec (ev1 rfl) en))) rfl rfl (Missing_d wL (vOf 1 0) 5 wL_log (by kernel_rfl) (by kernel_rfl) (by decide) (by kernel_rfl) (by decide) (by decide)) rfl rfl rfl rfl rfl rfl) ?_
  refine zab rfl rfl rfl (zad (.inl rfl) (ev1 rfl)) ?_
  refine zab rfl rfl rfl ((op_ext rfl (ev1 rfl) rfl).cast (d' := .slm 19 wM.length (wM.flatMap opD)) (by kernel_rfl)) ?_
  refine zab rfl rfl rfl (op_ext rfl (ev1 rfl) rfl) ?_
  refine zab rfl rfl rfl (zad (.inr rfl) (ev1 rfl)) ?_
  refine zab rfl rfl rfl (zad (.inr rfl) (ev1 rfl)) ?_
  refine zae ?_
  refine zaf ?_
  refine zah 1 (by simp only [holes, List.cons_append, List.nil_append]; exact rfl) ?_
  refine zac ?_
  refine zab rfl rfl rfl (op_ldmw rfl tb27 (ev1 rfl) rfl rfl) ?_
  refine zab rfl rfl rfl (zai [] [] [] rfl (ev1 rfl) (ec (ev1 rfl) (ec (ev1 rfl) en)) rfl rfl (Fold_d wL 5 (by decide)) rfl rfl rfl rfl rfl rfl) ?_
  refine zab rfl rfl rfl (zad (.inl rfl) (ev1 rfl)) ?_
  refine zab rfl rfl rfl ((op_ext rfl (ev1 rfl) rfl).cast (d' := .agg (logD wN)) (by kernel_rfl)) ?_
  refine zab rfl rfl rfl ((op_ext rfl (ev1 rfl) rfl).cast (d' := .slm 19 wG.length (wG.flatMap opD)) (by kernel_rfl)) ?_
  refine zab rfl rfl rfl ((op_ext rfl (ev1 rfl) rfl).cast (d' := .val (.int .i64 0)) (by kernel_rfl)) ?_
  refine walk_w rfl rfl rfl (op_alloc 2 rfl zr27 rfl) (by simp only [upd, za, zaa]; exact rfl) ?_
  refine walk_s rfl rfl (op_stam rfl tb27 (ev1 rfl) (ev1 rfl) rfl rfl rfl rfl) (by simp only [upd, za, zaa]; exact rfl) ?_
  refine zab rfl rfl rfl (zad (.inr rfl) (ev1 rfl)) ?_
  refine zab rfl rfl rfl (zad (.inr rfl) (ev1 rfl)) ?_
  refine zae ?_
  refine zaf ?_
  refine zah 1 (by simp only [holes, List.cons_append, List.nil_append]; exact rfl) ?_
  refine dwp_draw [([2], []), ([], []), ([], []), ([], []), ([], []), ([], []), ([], []), ([3], [3]), ([3], [3]), ([], []), ([], [])] mixed (by kernel_rfl) ?_
  refine lex_r rfl rfl (op_ldmw rfl tb27 (ev1 rfl) rfl rfl) ?_
  refine lex_r rfl rfl (zai [] [] [] rfl (ev1 rfl) (ec (ev1 rfl) (ec (ev1 rfl) (ec (ev1 rfl) en))) rfl rfl (mark_d _ _ _) rfl rfl rfl rfl rfl rfl) ?_
  refine lex_r rfl rfl (zai [] [] [] rfl (ev1 rfl) (ec (ev1 rfl) (ec (ev1 rfl) en)) rfl rfl (Insert_d wN (mkO 5 2 2) (by decide)) rfl rfl rfl rfl rfl rfl) ?_
  refine lex_r rfl rfl (zad (.inl rfl) (ev1 rfl)) ?_
  refine lex_r rfl rfl (op_ext rfl (ev1 rfl) rfl) ?_
  refine lex_r rfl rfl (op_ext rfl (ev1 rfl) rfl) ?_
  refine lex_r rfl rfl ((op_ext rfl (ev1 rfl) rfl).cast (d' := .val (.int .i64 241)) (by kernel_rfl)) ?_
  refine lex_w rfl rfl (op_alloc 3 rfl zr27 rfl) rfl (by simp only [upd, za, zaa]; exact rfl) ?_
  refine lex_s rfl rfl (op_stam rfl tb27 (ev1 rfl) (ev1 rfl) rfl rfl rfl rfl) rfl (by simp only [upd, za, zaa]; exact rfl) ?_
  refine lex_r rfl rfl (zad (.inr rfl) (ev1 rfl)) ?_
  refine lex_r rfl rfl (zad (.inr rfl) (ev1 rfl)) ?_
  refine lex_nil ?_
  refine zaf ?_
  refine zac ?_
  refine zab rfl rfl rfl (zad (.inl rfl) (ev1 rfl)) ?_
  refine zab rfl rfl rfl (op_eql rfl (ev1 rfl) (ev1 rfl)) ?_
  refine zab rfl rfl rfl (zad (.inl rfl) (ev1 rfl)) ?_
  refine zag (gd_t rfl rfl rfl) rfl rfl rfl (zad (.inl rfl) (ev1 rfl)) ?_
  refine zag (gd_t rfl rfl rfl) rfl rfl rfl (op_eql rfl (ev2 rfl) (ev1 rfl)) ?_
  refine zab rfl rfl rfl (op_and rfl (ev1 rfl) (ev3 rfl id)) ?_
  refine zab rfl rfl rfl (zad (.inl rfl) (ev1 rfl)) ?_
  refine zag (gd_t rfl rfl rfl) rfl rfl rfl (zad (.inl rfl) (ev1 rfl)) ?_
  refine zag (gd_t rfl rfl rfl) rfl rfl rfl (op_eql rfl (ev2 rfl) (ev1 rfl)) ?_
  refine zab rfl rfl rfl (op_and rfl (ev1 rfl) (ev3 rfl id)) ?_
  refine zab rfl rfl rfl (zad (.inl rfl) (ev1 rfl)) ?_
  refine zag (gd_t rfl rfl rfl) rfl rfl rfl (zad (.inl rfl) (ev1 rfl)) ?_
  refine zag (gd_t rfl rfl rfl) rfl rfl rfl (op_eql rfl (ev2 rfl) (ev1 rfl)) ?_
  refine zab rfl rfl rfl (op_and rfl (ev1 rfl) (ev3 rfl id)) ?_
  refine zab rfl rfl rfl (zad (.inl rfl) (ev1 rfl)) ?_
  refine zag (gd_t rfl rfl rfl) rfl rfl rfl (zad (.inl rfl) (ev1 rfl)) ?_
  refine zag (gd_t rfl rfl rfl) rfl rfl rfl (op_eql rfl (ev2 rfl) (ev1 rfl)) ?_
  refine zab rfl rfl rfl (op_and rfl (ev1 rfl) (ev3 rfl id)) ?_
  refine zab rfl rfl rfl (zad (.inl rfl) (ev1 rfl)) ?_
  refine zag (gd_t rfl rfl rfl) rfl rfl rfl (zad (.inl rfl) (ev1 rfl)) ?_
  refine zag (gd_t rfl rfl rfl) rfl rfl rfl ((op_bs (ps := [(0, .const (.int .i64 0)), (1, .const (.int .i64 0)), (2, .const (.int .i64 0)), (3, .const (.int .i64 5)), (4, .const (.int .i64 231)), (5, .const (.int .i64 241))]) rfl sl51 zr30 rfl (vc (ev1 rfl) (vc (ev1 rfl) (vc (ev1 rfl) (vc (ev1 rfl) (vc (ev1 rfl) (vc (ev1 rfl) vn)))))) rfl (by decide) (by decide)).cast (d' := .slf 1 ([0, 0, 0, 5, 231, 241] : List Int).length (([0, 0, 0, 5, 231, 241] : List Int).flatMap inI)) (by kernel_rfl)) ?_
  refine zag (gd_t rfl rfl rfl) rfl rfl rfl (zai [] [] [] rfl (ev1 rfl) (ec (ev2 rfl) (ec (ev2 rfl) en)) rfl rfl (equalE [0, 0, 0, 5, 231, 241] [0, 0, 0, 5, 231, 241]) rfl rfl rfl rfl rfl rfl) ?_
  refine zab rfl rfl rfl (op_and rfl (ev1 rfl) (ev3 rfl id)) ?_
  refine zab rfl rfl rfl (zad (.inl rfl) (ev1 rfl)) ?_
  refine zag (gd_t rfl rfl rfl) rfl rfl rfl (op_ldmw rfl tb27 (ev1 rfl) rfl rfl) ?_
  refine zag (gd_t rfl rfl rfl) rfl rfl rfl ((zai [] [] [] rfl (ev1 rfl) (ec (ev2 rfl) en) rfl rfl (Vector_d wL) rfl rfl rfl rfl rfl rfl).cast (d' := .val (.agg (c9 (vOf 2 1)).toArray)) (by kernel_rfl)) ?_
  refine zag (gd_t rfl rfl rfl) rfl rfl rfl ((op_bldaD (ps := [(1, .const (.int .u64 2)), (2, .const (.int .u64 1))]) rfl ar24 zr24 (ec (ev1 rfl) (ec (ev1 rfl) en)) rfl rfl rfl rfl).wk (Wk.aggv (c9 (vOf 2 1)))) ?_
  refine zag (gd_t rfl rfl rfl) rfl rfl rfl (op_eqr eq24 rfl gd24 tb24 (ev2 rfl) (ev2 rfl)) ?_
  refine zab rfl rfl rfl (op_and rfl (ev1 rfl) (ev3 rfl id)) ?_
  refine zab rfl rfl rfl (zad (.inl rfl) (ev1 rfl)) ?_
  refine zag (gd_t rfl rfl rfl) rfl rfl rfl (zad (.inl rfl) (ev1 rfl)) ?_
  refine zag (gd_t rfl rfl rfl) rfl rfl rfl (op_lenm rfl sl25 (ev2 rfl)) ?_
  refine zag (gd_t rfl rfl rfl) rfl rfl rfl (op_eql rfl (ev2 rfl) (ev1 rfl)) ?_
  refine zab rfl rfl rfl (op_and rfl (ev1 rfl) (ev3 rfl id)) ?_
  refine zab rfl rfl rfl (zad (.inl rfl) (ev1 rfl)) ?_
  refine zag (gd_t rfl rfl rfl) rfl rfl rfl (zad (.inl rfl) (ev1 rfl)) ?_
  refine zag (gd_t rfl rfl rfl) rfl rfl rfl (op_ixmr (0) (by decide) rfl sl25 (ev2 rfl) (ev1 rfl) (fun _ => rfl) (by decide) (fun _ => rfl)) ?_
  refine zag (gd_t rfl rfl rfl) rfl rfl rfl (op_fadm rfl fo44_0 (ev2 rfl)) ?_
  refine zag (gd_t rfl rfl rfl) rfl rfl rfl (op_fadm rfl fo37_1 (ev2 rfl)) ?_
  refine zag (gd_t rfl rfl rfl) rfl rfl rfl (op_lddm rfl tb3 (ev2 rfl) rfl) ?_
  refine zag (gd_t rfl rfl rfl) rfl rfl rfl (op_eql rfl (ev2 rfl) (ev1 rfl)) ?_
  refine zab rfl rfl rfl (op_and rfl (ev1 rfl) (ev3 rfl id)) ?_
  refine zab rfl rfl rfl (zad (.inl rfl) (ev1 rfl)) ?_
  refine zag (gd_t rfl rfl rfl) rfl rfl rfl (zad (.inl rfl) (ev1 rfl)) ?_
  refine zag (gd_t rfl rfl rfl) rfl rfl rfl (op_lenm rfl sl25 (ev2 rfl)) ?_
  refine zag (gd_t rfl rfl rfl) rfl rfl rfl (op_eql rfl (ev2 rfl) (ev1 rfl)) ?_
  refine zab rfl rfl rfl (op_and rfl (ev1 rfl) (ev3 rfl id)) ?_
  refine zab rfl rfl rfl (zad (.inl rfl) (ev1 rfl)) ?_
  refine zag (gd_t rfl rfl rfl) rfl rfl rfl (op_fa rfl fo27_1 (ev1 rfl)) ?_
  refine zag (gd_t rfl rfl rfl) rfl rfl rfl (op_ldmv (R := [_, _, _, _, _, _, _, _, _]) rfl tb24 (ev2 rfl) rfl rfl rfl) ?_
  refine zag (gd_t rfl rfl rfl) rfl rfl rfl ((op_bldaD (ps := [(1, .const (.int .u64 1)), (2, .const (.int .u64 1))]) rfl ar24 zr24 (ec (ev1 rfl) (ec (ev1 rfl) en)) rfl rfl rfl rfl).wk (Wk.aggv (c9 (vOf 1 1)))) ?_
  refine zag (gd_t rfl rfl rfl) rfl rfl rfl (op_eqr eq24 rfl gd24 tb24 (ev2 rfl) (ev2 rfl)) ?_
  refine zab rfl rfl rfl (op_and rfl (ev1 rfl) (ev3 rfl id)) ?_
  refine zab rfl rfl rfl (zad (.inl rfl) (ev1 rfl)) ?_
  refine zag (gd_t rfl rfl rfl) rfl rfl rfl (op_fa rfl fo27_2 (ev1 rfl)) ?_
  refine zag (gd_t rfl rfl rfl) rfl rfl rfl (op_ldm rfl tb25 (ev2 rfl) rfl rfl) ?_
  refine zag (gd_t rfl rfl rfl) rfl rfl rfl (op_lenm rfl sl25 (ev2 rfl)) ?_
  refine zag (gd_t rfl rfl rfl) rfl rfl rfl (op_eql rfl (ev2 rfl) (ev1 rfl)) ?_
  refine zab rfl rfl rfl (op_and rfl (ev1 rfl) (ev3 rfl id)) ?_
  refine zab rfl rfl rfl (zad (.inr rfl) (ev1 rfl)) ?_
  refine zae ?_
  refine dwp_ret ?_
  refine kend0 (rs1 rfl (rv_t rfl)) rfl ?_
  kernel_rfl
theorem twice_z (x : LogM) {a b : Int} (ha : 0 ≤ a) (hb : 0 ≤ b) : DFun Tryz.prog 3 [.agg (logD x), .val (.int .u64 a), .val (.int .u64 b)] [] (.val (.bool true)) [] := by
  obtain ⟨n, rfl⟩ := Int.eq_ofNat_of_zero_le ha
  obtain ⟨m, rfl⟩ := Int.eq_ofNat_of_zero_le hb
  exact twice_d wakes_d x n m
end Go.Proofs.YtbcnaacgillhcaaGreat
namespace Go.Proofs.YtbcnaacgillhcaaGreat
set_option linter.unusedVariables false
set_option linter.unusedSimpArgs false
open Go.RowKit
open Go.ChangeShapes Go.WideShapes Go.ChangeAt Go.Joins Go.Deep
theorem fits_prim_i64 {v : Value} (h : (Prim.int .i64).is v) : ∃ a : Int, (-9223372036854775808 ≤ a ∧ a ≤ 9223372036854775807) ∧ v = .int .i64 a := by
  obtain ⟨x, rfl, w⟩ := h
  exact ⟨x, by simpa [Lit.wf, IntKind.min, IntKind.max, IntKind.signed, IntKind.bits] using w, rfl⟩
theorem fits_prim_u64 {v : Value} (h : (Prim.int .u64).is v) : ∃ a : Int, (0 ≤ a ∧ a ≤ 18446744073709551615) ∧ v = .int .u64 a := by
  obtain ⟨x, rfl, w⟩ := h
  exact ⟨x, by simpa [Lit.wf, IntKind.min, IntKind.max, IntKind.signed, IntKind.bits] using w, rfl⟩
theorem fitsP_cons {p : Prim} {ps : List Prim} {cs : List Value} (h : fitsP (p :: ps) cs) : ∃ v r, cs = v :: r ∧ p.is v ∧ fitsP ps r := by
  cases cs with
  | nil => cases h
  | cons v r => exact ⟨v, r, rfl, h.1, h.2⟩
theorem fitsP_nil {cs : List Value} (h : fitsP [] cs) : cs = [] := by
  cases cs with
  | nil => rfl
  | cons v r => cases h
theorem fits_nat {v : Value} (h : (Prim.int .u64).is v) : ∃ n : Nat, v = .int .u64 n := by
  obtain ⟨a, w, rfl⟩ := fits_prim_u64 h
  exact ⟨a.toNat, by rw [Int.toNat_of_nonneg w.1]⟩
abbrev k9 : List Prim := [.int .u64, .int .u64, .int .u64, .int .u64, .int .u64, .int .u64, .int .u64, .int .u64, .int .u64]
theorem fits_c9 (cs : List Value) (h : fitsP k9 cs) : ∃ v : Vec, True ∧ cs = c9 v := by
  obtain ⟨x0, r, rfl, h0, h⟩ := fitsP_cons h
  obtain ⟨x1, r, rfl, h1, h⟩ := fitsP_cons h
  obtain ⟨x2, r, rfl, h2, h⟩ := fitsP_cons h
  obtain ⟨x3, r, rfl, h3, h⟩ := fitsP_cons h
  obtain ⟨x4, r, rfl, h4, h⟩ := fitsP_cons h
  obtain ⟨x5, r, rfl, h5, h⟩ := fitsP_cons h
  obtain ⟨x6, r, rfl, h6, h⟩ := fitsP_cons h
  obtain ⟨x7, r, rfl, h7, h⟩ := fitsP_cons h
  obtain ⟨x8, r, rfl, h8, h⟩ := fitsP_cons h
  obtain rfl := fitsP_nil h
  obtain ⟨n0, rfl⟩ := fits_nat h0
  obtain ⟨n1, rfl⟩ := fits_nat h1
  obtain ⟨n2, rfl⟩ := fits_nat h2
  obtain ⟨n3, rfl⟩ := fits_nat h3
  obtain ⟨n4, rfl⟩ := fits_nat h4
  obtain ⟨n5, rfl⟩ := fits_nat h5
  obtain ⟨n6, rfl⟩ := fits_nat h6
  obtain ⟨n7, rfl⟩ := fits_nat h7
  obtain ⟨n8, rfl⟩ := fits_nat h8
  exact ⟨fun i => [n0, n1, n2, n3, n4, n5, n6, n7, n8].getD i 0, trivial, rfl⟩
theorem fits_i64 : ∀ cs, fitsP [.int .i64] cs → ∃ a : Int, (-9223372036854775808 ≤ a ∧ a ≤ 9223372036854775807) ∧ cs = inI a
  | [c0], h => by
    obtain ⟨h0, _⟩ := h
    obtain ⟨a, w, rfl⟩ := fits_prim_i64 h0
    exact ⟨a, w, rfl⟩
  | [], h => by cases h
  | _ :: _ :: _, h => by obtain ⟨_, h⟩ := h; cases h
theorem fits_u8 {v : Value} (h : (Prim.int .u8).is v) : ∃ a : Int, v = .int .u8 a := by
  obtain ⟨x, rfl, w⟩ := h
  exact ⟨x, rfl⟩
theorem fits_id (cs : List Value) (h : fitsP [.int .u64, .int .i64, .int .u64] cs) : ∃ a : I3, True ∧ cs = idc a := by
  obtain ⟨x0, r, rfl, h0, h⟩ := fitsP_cons h
  obtain ⟨x1, r, rfl, h1, h⟩ := fitsP_cons h
  obtain ⟨x2, r, rfl, h2, h⟩ := fitsP_cons h
  obtain rfl := fitsP_nil h
  obtain ⟨a0, _, rfl⟩ := fits_prim_u64 h0
  obtain ⟨a1, _, rfl⟩ := fits_prim_i64 h1
  obtain ⟨a2, _, rfl⟩ := fits_prim_u64 h2
  exact ⟨⟨a0, a1, a2⟩, trivial, rfl⟩
theorem fits_c4 (cs : List Value) (h : fitsP [.int .u8, .int .u8, .int .u8, .int .u8] cs) : ∃ a : C4, True ∧ cs = c4 a := by
  obtain ⟨x0, r, rfl, h0, h⟩ := fitsP_cons h
  obtain ⟨x1, r, rfl, h1, h⟩ := fitsP_cons h
  obtain ⟨x2, r, rfl, h2, h⟩ := fitsP_cons h
  obtain ⟨x3, r, rfl, h3, h⟩ := fitsP_cons h
  obtain rfl := fitsP_nil h
  obtain ⟨a0, rfl⟩ := fits_u8 h0
  obtain ⟨a1, rfl⟩ := fits_u8 h1
  obtain ⟨a2, rfl⟩ := fits_u8 h2
  obtain ⟨a3, rfl⟩ := fits_u8 h3
  exact ⟨⟨a0, a1, a2, a3⟩, trivial, rfl⟩
theorem fits_n1 (cs : List Value) (h : fitsP [.int .u64] cs) : ∃ a : Nat, True ∧ cs = [.int .u64 (a : Int)] := by
  obtain ⟨x0, r, rfl, h0, h⟩ := fitsP_cons h
  obtain rfl := fitsP_nil h
  obtain ⟨a0, rfl⟩ := fits_nat h0
  exact ⟨a0, trivial, rfl⟩
theorem opens_i64 {w : World} : Opens Tryz.prog w 3 (fun a : Int => [.val (.int .i64 a)]) (fun a => -9223372036854775808 ≤ a ∧ a ≤ 9223372036854775807) := opens_flat 1 (fun a : Int => [.int .i64 a]) _ fits_i64 (by kernel_rfl)
theorem opens_u64 {w : World} : Opens Tryz.prog w 22 (fun a : Nat => [.val (.int .u64 (a : Int))]) (fun _ => True) := opens_flat 1 (fun a : Nat => [.int .u64 (a : Int)]) _ fits_n1 (by kernel_rfl)
theorem opens_id {w : World} : Opens Tryz.prog w 37 (fun a : I3 => (idc a).map .val) (fun _ => True) := opens_flat 4 idc _ fits_id (by kernel_rfl)
theorem opens_co {w : World} : Opens Tryz.prog w 39 (fun a : C4 => (c4 a).map .val) (fun _ => True) := opens_flat 4 c4 _ fits_c4 (by kernel_rfl)
theorem opens_vec {w : World} : Opens Tryz.prog w 24 (fun a : Vec => (c9 a).map .val) (fun _ => True) := opens_flat 4 c9 _ fits_c9 (by kernel_rfl)
theorem opens_px {w : World} : Opens Tryz.prog w 40 (fun l : List C4 => [.slf 4 l.length (l.flatMap c4)]) (fun l => ∀ x ∈ l, True) :=
  opens_row 4 c4 (fun _ => True) fits_c4 Tryz.underlying40 (show flatT Tryz.prog 4 39 = some [.int .u8, .int .u8, .int .u8, .int .u8] by kernel_rfl) (by kernel_rfl) (by decide) (fun _ => rfl)
theorem opens_st {w : World} : Opens Tryz.prog w 42 (fun a : Int × Int × List C4 => [iD a.1, iD a.2.1, pxD a.2.2]) (fun _ => True) :=
  opens_map (fun a : Int × Int × List C4 × Unit => (a.1, a.2.1, a.2.2.1)) (opens_struct Tryz.underlying42 (by kernel_rfl) (opensF_cons (k := 1) rfl (by kernel_rfl) opens_i64 (opensF_cons (k := 1) rfl (by kernel_rfl) opens_i64 (opensF_cons (k := 1) rfl (by kernel_rfl) opens_px opensF_nil)))) (fun _ => rfl) (fun _ _ => trivial)
theorem opens_op {w : World} : Opens Tryz.prog w 44 opD (fun _ => True) :=
  opens_map (fun a : I3 × Int × Int × Int × Int × Int × Int × C4 × (Int × Int × List C4) × I3 × Unit => (⟨a.1, a.2.1, a.2.2.1, a.2.2.2.1, a.2.2.2.2.1, a.2.2.2.2.2.1, a.2.2.2.2.2.2.1, a.2.2.2.2.2.2.2.1, a.2.2.2.2.2.2.2.2.1.1, a.2.2.2.2.2.2.2.2.1.2.1, a.2.2.2.2.2.2.2.2.1.2.2, a.2.2.2.2.2.2.2.2.2.1⟩ : OpM)) (opens_struct Tryz.underlying44 (by kernel_rfl) (opensF_cons (k := 3) rfl (by kernel_rfl) opens_id (opensF_cons (k := 1) rfl (by kernel_rfl) opens_i64 (opensF_cons (k := 1) rfl (by kernel_rfl) opens_i64 (opensF_cons (k := 1) rfl (by kernel_rfl) opens_i64 (opensF_cons (k := 1) rfl (by kernel_rfl) opens_i64 (opensF_cons (k := 1) rfl (by kernel_rfl) opens_i64 (opensF_cons (k := 1) rfl (by kernel_rfl) opens_i64 (opensF_cons (k := 4) rfl (by kernel_rfl) opens_co (opensF_cons (k := 3) rfl (by kernel_rfl) opens_st (opensF_cons (k := 3) rfl (by kernel_rfl) opens_id opensF_nil))))))))))) (fun _ => rfl) (fun _ _ => trivial)
theorem opens_log {w : World} : Opens Tryz.prog w 27 logD (fun _ => True) :=
  opens_map (fun a : Nat × Vec × List OpM × Unit => (⟨a.1, a.2.1, a.2.2.1⟩ : LogM)) (opens_struct Tryz.underlying27 (by kernel_rfl) (opensF_cons (k := 1) rfl (by kernel_rfl) opens_u64 (opensF_cons (k := 9) rfl (by kernel_rfl) opens_vec (opensF_cons (k := 1) rfl (by kernel_rfl) (opens_rows (sz := 19) opens_op Tryz.underlying25 (by kernel_rfl) (by decide) (fun _ => rfl) (fun _ => rfl)) opensF_nil)))) (fun _ => rfl) (fun _ _ => trivial)
end Go.Proofs.YtbcnaacgillhcaaGreat
