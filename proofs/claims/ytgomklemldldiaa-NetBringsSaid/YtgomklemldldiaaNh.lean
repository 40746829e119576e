/- does the layer do anything? -/
import Derived.Test.YtgomklemldldiaaNg
namespace Go.Proofs.Ytgomklemldldiaa
set_option linter.unusedVariables false
set_option linter.unusedSimpArgs false
open Go.RowKit

theorem wkD {P : Program} {f : FuncId} {args : List D} {d d' : D} (h : DFun P f args [] d []) (hd : ∀ s v, Rep s d v → Rep s d' v) : DFun P f args [] d' [] := by
  refine ⟨h.1, fun s vs hok hM hr => (h.2 s vs hok hM hr).mono ?_⟩
  rintro q w' ⟨s', rfl, ht, hor⟩
  rcases hor with ⟨d0, v, rfl, hrep, rfl, hMo⟩ | ⟨d0, v, _, _, hf⟩
  · exact ⟨s', rfl, ht, .inl ⟨d', v, rfl, hd _ _ hrep, rfl, hMo⟩⟩
  · exact hf.elim
theorem rep_nilm3 {s : St} {v : Value} (h : Rep s (.val (.slice none 0 0)) v) : Rep s (.slm 3 0 []) v := by
  cases h
  exact .slm (vs := []) rfl rfl (Nat.le_refl _) (Nat.zero_le _) (fun _ => rfl) rfl (fun j d v h => by simp at h) (.inl rfl)
theorem rep_nilf {s : St} {v : Value} (h : Rep s (.val (.slice none 0 0)) v) : Rep s (.slf 1 0 []) v := by
  cases h
  exact .slf rfl (Nat.le_refl _) (Nat.zero_le _) (fun _ => rfl) (.inl rfl)
theorem rep_zn {s : St} {u v : Value} (h : Rep s (.val (.agg #[.slice none 0 0, u])) v) : Rep s (.agg [.slm 3 (([] : List Par)).length (([] : List Par).flatMap pD), .val u]) v := by
  cases h
  refine .agg (vs := [.slice none 0 0, u]) rfl fun j d v h1 h2 => ?_
  match j, h1, h2 with
  | 0, h1, h2 => simp at h1 h2; subst h1 h2; exact rep_nilm3 (.val _)
  | 1, h1, h2 => simp at h1 h2; subst h1 h2; exact .val _
  | j + 2, h1, h2 => simp at h1
def zP : Par := ⟨0, [], false⟩
theorem rep_zp {s : St} {v : Value} (h : Rep s (.val (.agg #[.int .i64 0, .slice none 0 0, .bool false])) v) : Rep s (.agg (pD zP)) v := by
  cases h
  refine .agg (vs := [.int .i64 0, .slice none 0 0, .bool false]) rfl fun j d v h1 h2 => ?_
  match j, h1, h2 with
  | 0, h1, h2 => simp [pD, zP] at h1 h2; subst h1 h2; exact .val _
  | 1, h1, h2 => simp [pD, zP] at h1 h2; subst h1 h2; exact rep_nilf (.val _)
  | 2, h1, h2 => simp [pD, zP] at h1 h2; subst h1 h2; exact .val _
  | j + 3, h1, h2 => simp [pD] at h1
theorem rep_tupm {s : St} {l l' : List D} {v : Value} (hl : l'.length = l.length) (h : ∀ (j : Nat) d d' v, l[j]? = some d → l'[j]? = some d' → Rep s d v → Rep s d' v) (hr : Rep s (.tup l) v) : Rep s (.tup l') v := by
  cases hr with
  | @tup _ vs hvl hd =>
    refine .tup (by omega) fun j d' u h1 h2 => ?_
    have hj : j < l.length := by have := (List.getElem?_eq_some_iff.1 h1).1; omega
    exact h j _ _ u (List.getElem?_eq_getElem hj) h1 (hd j _ u (List.getElem?_eq_getElem hj) h2)
theorem wk_2 {P : Program} {f : FuncId} {args : List D} {a a' b : D} (h : DFun P f args [] (.tup [a, b]) []) (ha : ∀ s v, Rep s a v → Rep s a' v) : DFun P f args [] (.tup [a', b]) [] :=
  wkD h fun s v hr => rep_tupm (l := [a, b]) rfl (fun j d d' v h1 h2 h3 => by
    match j, h1, h2 with
    | 0, h1, h2 => simp at h1 h2; subst h1 h2; exact ha _ _ h3
    | 1, h1, h2 => simp at h1 h2; subst h1 h2; exact h3
    | j + 2, h1, h2 => simp at h1) hr
theorem wk_3 {P : Program} {f : FuncId} {args : List D} {a a' b b' c : D} (h : DFun P f args [] (.tup [a, b, c]) []) (ha : ∀ s v, Rep s a v → Rep s a' v) (hb : ∀ s v, Rep s b v → Rep s b' v) : DFun P f args [] (.tup [a', b', c]) [] :=
  wkD h fun s v hr => rep_tupm (l := [a, b, c]) rfl (fun j d d' v h1 h2 h3 => by
    match j, h1, h2 with
    | 0, h1, h2 => simp at h1 h2; subst h1 h2; exact ha _ _ h3
    | 1, h1, h2 => simp at h1 h2; subst h1 h2; exact hb _ _ h3
    | 2, h1, h2 => simp at h1 h2; subst h1 h2; exact h3
    | j + 3, h1, h2 => simp at h1) hr
abbrev nA (P : List Par) (L : Nat) : D := .agg [.slm 3 P.length (P.flatMap pD), .val (.int .u64 (L : Int))]
theorem new_f : DFun Try.prog 14 [] [] (nA [] 0) [] := wkD new_d fun s v h => rep_zn h
theorem id_ {d : D} : ∀ s v, Rep s d v → Rep s d v := fun _ _ h => h
abbrev toB (to : Int) : Par → Bool := fun p => p.to == to
theorem First_f (P : List Par) (L : Nat) (to : Int) (hN : netB P (L : Int) = true) : DFun Try.prog 15 [nA P L, .val (.int .i64 to)] [] (.tup [.val (.int .i64 (if P.any (toB to) = true then fidx (toB to) P else 0)), .val (.bool (P.any (toB to)))]) [] := by
  by_cases h : P.any (toB to) = true
  · rw [if_pos h, h]
    have hj : P.findIdx (toB to) < P.length := List.findIdx_lt_length_of_exists (by
      obtain ⟨x, hx, hh⟩ := List.any_eq_true.1 h
      exact ⟨x, hx, hh⟩)
    have e : fidx (toB to) P = (P.findIdx (toB to) : Nat) := by unfold fidx; rw [if_pos h]
    rw [e]
    exact First_hit P L to hN _ hj (fun i hi hi2 => by
      have := List.not_of_lt_findIdx hi
      simpa using this) (List.findIdx_getElem (w := hj))
  · rw [if_neg h, Bool.eq_false_iff.2 h]
    exact First_all P L to hN fun i hi => by
      refine Bool.eq_false_iff.2 fun e => h (List.any_eq_true.2 ⟨P[i], List.getElem_mem hi, e⟩)
abbrev wW1 : List Par := [⟨0, [1, 2], false⟩, ⟨4, [3], false⟩]
abbrev wW2 : List Par := [⟨0, [0, 2], true⟩, ⟨4, [3], false⟩]
abbrev wW3 : List Par := [⟨0, [0, 2], true⟩, ⟨4, [3], false⟩, ⟨0, [0, 2], true⟩]
theorem w_send : DFun Try.prog 16 [nA [] 0, .slm 3 2 (wW1.flatMap pD)] [] (.tup [nA wW1 0, .val (.int .i64 0)]) [] := by
  have h := net_frz2 (Send_o [] wW1 0 (by decide) (by decide) (by decide) (by decide))
  exact h
theorem w_first : DFun Try.prog 15 [nA wW1 0, .val (.int .i64 4)] [] (.tup [.val (.int .i64 1), .val (.bool true)]) [] := First_f wW1 0 4 (by decide)
abbrev trk (k a b m : Int) : D := .val (.agg #[.int .i64 k, .int .i64 a, .int .i64 b, .int .u32 m])
theorem w_spl : DFun Try.prog 21 [nA wW1 0, trk 4 0 0 1] [] (.tup [nA wW2 0, .agg (pD zP), .val (.int .i64 0)]) [] :=
  wk_3 (net_frz (Do_spl wW1 0 0 1 0 (by decide) (by decide) rfl (by decide) (by decide) (by decide) (by decide) (by decide)) rfl) id_ (fun _ _ => rep_zp)
theorem w_there : DFun Try.prog 21 [nA wW2 0, trk 4 0 0 1] [] (.tup [nA [] 0, .agg (pD zP), .val (.int .i64 5)]) [] :=
  wk_3 (Do_there wW2 0 0 1 0 (by decide) (by decide) rfl) (fun _ _ => rep_zn) (fun _ _ => rep_zp)
theorem w_twice : DFun Try.prog 21 [nA wW2 0, trk 3 0 0 0] [] (.tup [nA wW3 0, .agg (pD zP), .val (.int .i64 0)]) [] :=
  wk_3 (net_frz (Do_twice wW2 0 0 0 0 (by decide) (by decide) (by decide) (by decide)) rfl) id_ (fun _ _ => rep_zp)
theorem w_take : DFun Try.prog 21 [nA wW3 0, trk 1 2 0 0] [] (.tup [nA wW2 0, .agg (pD ⟨0, [0, 2], true⟩), .val (.int .i64 0)]) [] :=
  net_frz (Do_take wW3 0 0 0 2 (by decide) (by decide) (by decide)) rfl
theorem w_at : DFun Try.prog 21 [nA wW3 0, trk 2 9 0 0] [] (.tup [nA [] 0, .agg (pD zP), .val (.int .i64 4)]) [] :=
  wk_3 (Do_at wW3 0 2 9 0 0 (by decide) (by decide) (by decide)) (fun _ _ => rep_zn) (fun _ _ => rep_zp)
theorem empty_f (P : List Par) (L : Nat) (hN : netB P (L : Int) = true) : DFun Try.prog 25 [nA P L] [] (.tup [nA [] L, .slm 3 P.length (P.flatMap pD), .val (.int .i64 0)]) [] :=
  wk_3 (net_frz3 (Empty_o P L hN)) (fun _ _ => rep_zn) id_

set_option maxRecDepth 4000 in
set_option maxHeartbeats 1000000 in
theorem wakes_d : DFun Try.prog 7 [] [] (.val (.bool true)) [] := by
  refine dcalls_go (N := 137) 0 (by kernel_rfl) Try.func7 rfl rfl rfl (by simp only [fr0, Nat.zero_add, Nat.reduceAdd]; exact rfl) rfl fun s0 hs0 => ?_
  refine dwp_seq ?_
  refine dwp_region ?_
  refine walk_r rfl rfl rfl (op_move (.inr rfl) (ev1 rfl)) ?_
  refine walk_nil ?_
  refine dwp_seq ?_
  refine dwp_holes 1 (by simp only [holes, List.cons_append, List.nil_append]; exact rfl) ?_
  refine dwp_region ?_
  refine walk_r rfl rfl rfl (dop_call [] [] [] rfl (ev1 rfl) en rfl rfl (new_f) rfl rfl rfl rfl rfl rfl) ?_
  refine walk_r rfl rfl rfl (op_bs (ps := [(0, .const (.int .u8 1)), (1, .const (.int .u8 2))]) rfl sl36 zr5 rfl (vc (ev1 rfl) (vc (ev1 rfl) vn)) rfl (by decide) (by decide)) ?_
  refine walk_r rfl rfl rfl (op_bldD (ps := [(1, .tmp 23)]) rfl fl38 zr38 (ec (ev1 rfl) en) rfl rfl rfl) ?_
  refine walk_r rfl rfl rfl (op_bs (ps := [(0, .const (.int .u8 3))]) rfl sl36 zr5 rfl (vc (ev1 rfl) vn) rfl (by decide) (by decide)) ?_
  refine walk_r rfl rfl rfl (op_bldD (ps := [(0, .const (.int .i64 4)), (1, .tmp 25)]) rfl fl38 zr38 (ec (ev1 rfl) (ec (ev1 rfl) en)) rfl rfl rfl) ?_
  refine walk_r rfl rfl rfl (op_bsr (ps := [(0, .tmp 24), (1, .tmp 26)]) rfl sl22 zr38 rfl (ec (ev1 rfl) (ec (ev1 rfl) en)) rfl rfl rfl (by rfl) rfl (by decide) (by decide)) ?_
  refine walk_r rfl rfl rfl (dop_call [] [] [] rfl (ev1 rfl) (ec (ev1 rfl) (ec (ev1 rfl) en)) rfl rfl (w_send) rfl rfl rfl rfl rfl rfl) ?_
  refine walk_r rfl rfl rfl (op_move (.inl rfl) (ev1 rfl)) ?_
  refine walk_r rfl rfl rfl (op_ext rfl (ev1 rfl) rfl) ?_
  refine walk_r rfl rfl rfl (op_ext rfl (ev1 rfl) rfl) ?_
  refine walk_w rfl rfl rfl (op_alloc 0 rfl zr25 rfl) (by simp only [upd, List.set_cons_zero, List.set_cons_succ]; exact rfl) ?_
  refine walk_s rfl rfl (op_stam rfl tb25 (ev1 rfl) (ev1 rfl) rfl rfl rfl rfl) (by simp only [upd, List.set_cons_zero, List.set_cons_succ]; exact rfl) ?_
  refine walk_r rfl rfl rfl (op_move (.inr rfl) (ev1 rfl)) ?_
  refine walk_nil ?_
  refine dwp_seq ?_
  refine dwp_region ?_
  refine walk_r rfl rfl rfl (op_ldmw rfl tb25 (ev1 rfl) rfl rfl) ?_
  refine walk_r rfl rfl rfl (dop_call [] [] [] rfl (ev1 rfl) (ec (ev1 rfl) (ec (ev1 rfl) en)) rfl rfl (w_first) rfl rfl rfl rfl rfl rfl) ?_
  refine walk_r rfl rfl rfl (op_move (.inl rfl) (ev1 rfl)) ?_
  refine walk_r rfl rfl rfl (op_ext rfl (ev1 rfl) rfl) ?_
  refine walk_r rfl rfl rfl (op_ext rfl (ev1 rfl) rfl) ?_
  refine walk_r rfl rfl rfl (op_move (.inr rfl) (ev1 rfl)) ?_
  refine walk_r rfl rfl rfl (op_move (.inr rfl) (ev1 rfl)) ?_
  refine walk_nil ?_
  refine dwp_seq ?_
  refine dwp_holes 1 (by simp only [holes, List.cons_append, List.nil_append]; exact rfl) ?_
  refine dwp_region ?_
  refine walk_r rfl rfl rfl (op_ldmw rfl tb25 (ev1 rfl) rfl rfl) ?_
  refine walk_r rfl rfl rfl (op_build (ps := [(0, .const (.int .i64 4)), (3, .const (.int .u32 1))]) rfl fl49 zr49 (vc (ev1 rfl) (vc (ev1 rfl) vn)) rfl rfl) ?_
  refine walk_r rfl rfl rfl (dop_call [] [] [] rfl (ev1 rfl) (ec (ev1 rfl) (ec (ev1 rfl) en)) rfl rfl (w_spl) rfl rfl rfl rfl rfl rfl) ?_
  refine walk_r rfl rfl rfl (op_move (.inl rfl) (ev1 rfl)) ?_
  refine walk_r rfl rfl rfl (op_ext rfl (ev1 rfl) rfl) ?_
  refine walk_r rfl rfl rfl (op_ext rfl (ev1 rfl) rfl) ?_
  refine walk_r rfl rfl rfl (op_ext rfl (ev1 rfl) rfl) ?_
  refine walk_w rfl rfl rfl (op_alloc 1 rfl zr38 rfl) (by simp only [upd, List.set_cons_zero, List.set_cons_succ]; exact rfl) ?_
  refine walk_s rfl rfl (op_stmw rfl tb25 (ev1 rfl) (ev1 rfl) rfl rfl rfl rfl) (by simp only [upd, List.set_cons_zero, List.set_cons_succ]; exact rfl) ?_
  refine walk_s rfl rfl (op_stam rfl tb38 (ev1 rfl) (ev1 rfl) rfl rfl rfl rfl) (by simp only [upd, List.set_cons_zero, List.set_cons_succ]; exact rfl) ?_
  refine walk_r rfl rfl rfl (op_move (.inr rfl) (ev1 rfl)) ?_
  refine walk_nil ?_
  refine dwp_seq ?_
  refine dwp_holes 2 (by simp only [holes, List.cons_append, List.nil_append]; exact rfl) ?_
  refine dwp_region ?_
  refine walk_r rfl rfl rfl (op_ldmw rfl tb25 (ev1 rfl) rfl rfl) ?_
  refine walk_r rfl rfl rfl (op_build (ps := [(0, .const (.int .i64 4)), (3, .const (.int .u32 1))]) rfl fl49 zr49 (vc (ev1 rfl) (vc (ev1 rfl) vn)) rfl rfl) ?_
  refine walk_r rfl rfl rfl (dop_call [] [] [] rfl (ev1 rfl) (ec (ev1 rfl) (ec (ev1 rfl) en)) rfl rfl (w_there) rfl rfl rfl rfl rfl rfl) ?_
  refine walk_r rfl rfl rfl (op_move (.inl rfl) (ev1 rfl)) ?_
  refine walk_r rfl rfl rfl (op_ext rfl (ev1 rfl) rfl) ?_
  refine walk_r rfl rfl rfl (op_ext rfl (ev1 rfl) rfl) ?_
  refine walk_r rfl rfl rfl (op_ext rfl (ev1 rfl) rfl) ?_
  refine walk_w rfl rfl rfl (op_alloc 2 rfl zr25 rfl) (by simp only [upd, List.set_cons_zero, List.set_cons_succ]; exact rfl) ?_
  refine walk_w rfl rfl rfl (op_alloc 3 rfl zr38 rfl) (by simp only [upd, List.set_cons_zero, List.set_cons_succ]; exact rfl) ?_
  refine walk_s rfl rfl (op_stam rfl tb25 (ev1 rfl) (ev1 rfl) rfl rfl rfl rfl) (by simp only [upd, List.set_cons_zero, List.set_cons_succ]; exact rfl) ?_
  refine walk_s rfl rfl (op_stam rfl tb38 (ev1 rfl) (ev1 rfl) rfl rfl rfl rfl) (by simp only [upd, List.set_cons_zero, List.set_cons_succ]; exact rfl) ?_
  refine walk_r rfl rfl rfl (op_move (.inr rfl) (ev1 rfl)) ?_
  refine walk_nil ?_
  refine dwp_seq ?_
  refine dwp_holes 1 (by simp only [holes, List.cons_append, List.nil_append]; exact rfl) ?_
  refine dwp_region ?_
  refine walk_r rfl rfl rfl (op_ldmw rfl tb25 (ev1 rfl) rfl rfl) ?_
  refine walk_r rfl rfl rfl (op_build (ps := [(0, .const (.int .i64 3))]) rfl fl49 zr49 (vc (ev1 rfl) vn) rfl rfl) ?_
  refine walk_r rfl rfl rfl (dop_call [] [] [] rfl (ev1 rfl) (ec (ev1 rfl) (ec (ev1 rfl) en)) rfl rfl (w_twice) rfl rfl rfl rfl rfl rfl) ?_
  refine walk_r rfl rfl rfl (op_move (.inl rfl) (ev1 rfl)) ?_
  refine walk_r rfl rfl rfl (op_ext rfl (ev1 rfl) rfl) ?_
  refine walk_r rfl rfl rfl (op_ext rfl (ev1 rfl) rfl) ?_
  refine walk_r rfl rfl rfl (op_ext rfl (ev1 rfl) rfl) ?_
  refine walk_w rfl rfl rfl (op_alloc 4 rfl zr38 rfl) (by simp only [upd, List.set_cons_zero, List.set_cons_succ]; exact rfl) ?_
  refine walk_s rfl rfl (op_stmw rfl tb25 (ev1 rfl) (ev1 rfl) rfl rfl rfl rfl) (by simp only [upd, List.set_cons_zero, List.set_cons_succ]; exact rfl) ?_
  refine walk_s rfl rfl (op_stam rfl tb38 (ev1 rfl) (ev1 rfl) rfl rfl rfl rfl) (by simp only [upd, List.set_cons_zero, List.set_cons_succ]; exact rfl) ?_
  refine walk_r rfl rfl rfl (op_move (.inr rfl) (ev1 rfl)) ?_
  refine walk_nil ?_
  refine dwp_seq ?_
  refine dwp_holes 2 (by simp only [holes, List.cons_append, List.nil_append]; exact rfl) ?_
  refine dwp_region ?_
  refine walk_r rfl rfl rfl (op_ldmw rfl tb25 (ev1 rfl) rfl rfl) ?_
  refine walk_r rfl rfl rfl (op_build (ps := [(0, .const (.int .i64 1)), (1, .const (.int .i64 2))]) rfl fl49 zr49 (vc (ev1 rfl) (vc (ev1 rfl) vn)) rfl rfl) ?_
  refine walk_r rfl rfl rfl (dop_call [] [] [] rfl (ev1 rfl) (ec (ev1 rfl) (ec (ev1 rfl) en)) rfl rfl (w_take) rfl rfl rfl rfl rfl rfl) ?_
  refine walk_r rfl rfl rfl (op_move (.inl rfl) (ev1 rfl)) ?_
  refine walk_r rfl rfl rfl (op_ext rfl (ev1 rfl) rfl) ?_
  refine walk_r rfl rfl rfl (op_ext rfl (ev1 rfl) rfl) ?_
  refine walk_r rfl rfl rfl (op_ext rfl (ev1 rfl) rfl) ?_
  refine walk_w rfl rfl rfl (op_alloc 5 rfl zr25 rfl) (by simp only [upd, List.set_cons_zero, List.set_cons_succ]; exact rfl) ?_
  refine walk_w rfl rfl rfl (op_alloc 6 rfl zr38 rfl) (by simp only [upd, List.set_cons_zero, List.set_cons_succ]; exact rfl) ?_
  refine walk_s rfl rfl (op_stam rfl tb25 (ev1 rfl) (ev1 rfl) rfl rfl rfl rfl) (by simp only [upd, List.set_cons_zero, List.set_cons_succ]; exact rfl) ?_
  refine walk_s rfl rfl (op_stam rfl tb38 (ev1 rfl) (ev1 rfl) rfl rfl rfl rfl) (by simp only [upd, List.set_cons_zero, List.set_cons_succ]; exact rfl) ?_
  refine walk_r rfl rfl rfl (op_move (.inr rfl) (ev1 rfl)) ?_
  refine walk_nil ?_
  refine dwp_seq ?_
  refine dwp_holes 2 (by simp only [holes, List.cons_append, List.nil_append]; exact rfl) ?_
  refine dwp_region ?_
  refine walk_r rfl rfl rfl (op_ldmw rfl tb25 (ev1 rfl) rfl rfl) ?_
  refine walk_r rfl rfl rfl (op_build (ps := [(0, .const (.int .i64 2)), (1, .const (.int .i64 9))]) rfl fl49 zr49 (vc (ev1 rfl) (vc (ev1 rfl) vn)) rfl rfl) ?_
  refine walk_r rfl rfl rfl (dop_call [] [] [] rfl (ev1 rfl) (ec (ev1 rfl) (ec (ev1 rfl) en)) rfl rfl (w_at) rfl rfl rfl rfl rfl rfl) ?_
  refine walk_r rfl rfl rfl (op_move (.inl rfl) (ev1 rfl)) ?_
  refine walk_r rfl rfl rfl (op_ext rfl (ev1 rfl) rfl) ?_
  refine walk_r rfl rfl rfl (op_ext rfl (ev1 rfl) rfl) ?_
  refine walk_r rfl rfl rfl (op_ext rfl (ev1 rfl) rfl) ?_
  refine walk_w rfl rfl rfl (op_alloc 7 rfl zr25 rfl) (by simp only [upd, List.set_cons_zero, List.set_cons_succ]; exact rfl) ?_
  refine walk_w rfl rfl rfl (op_alloc 8 rfl zr38 rfl) (by simp only [upd, List.set_cons_zero, List.set_cons_succ]; exact rfl) ?_
  refine walk_s rfl rfl (op_stam rfl tb25 (ev1 rfl) (ev1 rfl) rfl rfl rfl rfl) (by simp only [upd, List.set_cons_zero, List.set_cons_succ]; exact rfl) ?_
  refine walk_s rfl rfl (op_stam rfl tb38 (ev1 rfl) (ev1 rfl) rfl rfl rfl rfl) (by simp only [upd, List.set_cons_zero, List.set_cons_succ]; exact rfl) ?_
  refine walk_r rfl rfl rfl (op_move (.inr rfl) (ev1 rfl)) ?_
  refine walk_nil ?_
  refine dwp_seq ?_
  refine dwp_holes 1 (by simp only [holes, List.cons_append, List.nil_append]; exact rfl) ?_
  refine dwp_region ?_
  refine walk_r rfl rfl rfl (op_ldmw rfl tb25 (ev1 rfl) rfl rfl) ?_
  refine walk_r rfl rfl rfl (dop_call [] [] [] rfl (ev1 rfl) (ec (ev1 rfl) en) rfl rfl (empty_f wW3 0 (by decide)) rfl rfl rfl rfl rfl rfl) ?_
  refine walk_r rfl rfl rfl (op_move (.inl rfl) (ev1 rfl)) ?_
  refine walk_r rfl rfl rfl (op_ext rfl (ev1 rfl) rfl) ?_
  refine walk_r rfl rfl rfl (op_ext rfl (ev1 rfl) rfl) ?_
  refine walk_r rfl rfl rfl (op_ext rfl (ev1 rfl) rfl) ?_
  refine walk_w rfl rfl rfl (op_alloc 9 rfl zr25 rfl) (by simp only [upd, List.set_cons_zero, List.set_cons_succ]; exact rfl) ?_
  refine walk_s rfl rfl (op_stam rfl tb25 (ev1 rfl) (ev1 rfl) rfl rfl rfl rfl) (by simp only [upd, List.set_cons_zero, List.set_cons_succ]; exact rfl) ?_
  refine walk_r rfl rfl rfl (op_move (.inr rfl) (ev1 rfl)) ?_
  refine walk_r rfl rfl rfl (op_move (.inr rfl) (ev1 rfl)) ?_
  refine walk_nil ?_
  refine dwp_seq ?_
  refine dwp_region ?_
  refine walk_r rfl rfl rfl (op_move (.inl rfl) (ev1 rfl)) ?_
  refine walk_r rfl rfl rfl (op_eql rfl (ev1 rfl) (ev1 rfl)) ?_
  refine walk_r rfl rfl rfl (op_move (.inl rfl) (ev1 rfl)) ?_
  refine walk_gr (gd_t rfl rfl rfl) rfl rfl rfl (op_move (.inl rfl) (ev1 rfl)) ?_
  refine walk_gr (gd_t rfl rfl rfl) rfl rfl rfl (op_eql rfl (ev2 rfl) (ev1 rfl)) ?_
  refine walk_r rfl rfl rfl (op_and rfl (ev1 rfl) (ev3 rfl id)) ?_
  refine walk_r rfl rfl rfl (op_move (.inl rfl) (ev1 rfl)) ?_
  refine walk_gr (gd_t rfl rfl rfl) rfl rfl rfl (op_move (.inl rfl) (ev1 rfl)) ?_
  refine walk_gr (gd_t rfl rfl rfl) rfl rfl rfl (op_eql rfl (ev2 rfl) (ev1 rfl)) ?_
  refine walk_r rfl rfl rfl (op_and rfl (ev1 rfl) (ev3 rfl id)) ?_
  refine walk_r rfl rfl rfl (op_move (.inl rfl) (ev1 rfl)) ?_
  refine walk_gr (gd_t rfl rfl rfl) rfl rfl rfl (op_move (.inl rfl) (ev1 rfl)) ?_
  refine walk_gr (gd_t rfl rfl rfl) rfl rfl rfl (op_eql rfl (ev2 rfl) (ev1 rfl)) ?_
  refine walk_r rfl rfl rfl (op_and rfl (ev1 rfl) (ev3 rfl id)) ?_
  refine walk_r rfl rfl rfl (op_move (.inl rfl) (ev1 rfl)) ?_
  refine walk_gr (gd_t rfl rfl rfl) rfl rfl rfl (op_move (.inl rfl) (ev1 rfl)) ?_
  refine walk_gr (gd_t rfl rfl rfl) rfl rfl rfl (op_eql rfl (ev2 rfl) (ev1 rfl)) ?_
  refine walk_r rfl rfl rfl (op_and rfl (ev1 rfl) (ev3 rfl id)) ?_
  refine walk_r rfl rfl rfl (op_move (.inl rfl) (ev1 rfl)) ?_
  refine walk_gr (gd_t rfl rfl rfl) rfl rfl rfl (op_move (.inl rfl) (ev1 rfl)) ?_
  refine walk_gr (gd_t rfl rfl rfl) rfl rfl rfl (op_eql rfl (ev2 rfl) (ev1 rfl)) ?_
  refine walk_r rfl rfl rfl (op_and rfl (ev1 rfl) (ev3 rfl id)) ?_
  refine walk_r rfl rfl rfl (op_move (.inl rfl) (ev1 rfl)) ?_
  refine walk_gr (gd_t rfl rfl rfl) rfl rfl rfl (op_move (.inl rfl) (ev1 rfl)) ?_
  refine walk_gr (gd_t rfl rfl rfl) rfl rfl rfl (op_eql rfl (ev2 rfl) (ev1 rfl)) ?_
  refine walk_r rfl rfl rfl (op_and rfl (ev1 rfl) (ev3 rfl id)) ?_
  refine walk_r rfl rfl rfl (op_move (.inl rfl) (ev1 rfl)) ?_
  refine walk_gr (gd_t rfl rfl rfl) rfl rfl rfl (op_move (.inl rfl) (ev1 rfl)) ?_
  refine walk_gr (gd_t rfl rfl rfl) rfl rfl rfl (op_eql rfl (ev2 rfl) (ev1 rfl)) ?_
  refine walk_r rfl rfl rfl (op_and rfl (ev1 rfl) (ev3 rfl id)) ?_
  refine walk_r rfl rfl rfl (op_move (.inl rfl) (ev1 rfl)) ?_
  refine walk_gr (gd_t rfl rfl rfl) rfl rfl rfl (op_move (.inl rfl) (ev1 rfl)) ?_
  refine walk_r rfl rfl rfl (op_and rfl (ev1 rfl) (ev3 rfl id)) ?_
  refine walk_r rfl rfl rfl (op_move (.inl rfl) (ev1 rfl)) ?_
  refine walk_gr (gd_t rfl rfl rfl) rfl rfl rfl (op_fa rfl fo25_0 (ev1 rfl)) ?_
  refine walk_gr (gd_t rfl rfl rfl) rfl rfl rfl (op_ldm rfl tb22 (ev2 rfl) rfl rfl) ?_
  refine walk_gr (gd_t rfl rfl rfl) rfl rfl rfl (op_lenm rfl sl22 (ev2 rfl)) ?_
  refine walk_gr (gd_t rfl rfl rfl) rfl rfl rfl (op_eql rfl (ev2 rfl) (ev1 rfl)) ?_
  refine walk_r rfl rfl rfl (op_and rfl (ev1 rfl) (ev3 rfl id)) ?_
  refine walk_r rfl rfl rfl (op_move (.inl rfl) (ev1 rfl)) ?_
  refine walk_gr (gd_t rfl rfl rfl) rfl rfl rfl (op_fa rfl fo25_0 (ev1 rfl)) ?_
  refine walk_gr (gd_t rfl rfl rfl) rfl rfl rfl (op_ldm rfl tb22 (ev2 rfl) rfl rfl) ?_
  refine walk_gr (gd_t rfl rfl rfl) rfl rfl rfl (op_lenm rfl sl22 (ev2 rfl)) ?_
  refine walk_gr (gd_t rfl rfl rfl) rfl rfl rfl (op_eql rfl (ev2 rfl) (ev1 rfl)) ?_
  refine walk_r rfl rfl rfl (op_and rfl (ev1 rfl) (ev3 rfl id)) ?_
  refine walk_r rfl rfl rfl (op_move (.inl rfl) (ev1 rfl)) ?_
  refine walk_gr (gd_t rfl rfl rfl) rfl rfl rfl (op_fa rfl fo38_2 (ev1 rfl)) ?_
  refine walk_gr (gd_t rfl rfl rfl) rfl rfl rfl (op_ldm rfl tb4 (ev2 rfl) rfl rfl) ?_
  refine walk_r rfl rfl rfl (op_and rfl (ev1 rfl) (ev3 rfl id)) ?_
  refine walk_r rfl rfl rfl (op_move (.inl rfl) (ev1 rfl)) ?_
  refine walk_gr (gd_t rfl rfl rfl) rfl rfl rfl (op_fa rfl fo38_1 (ev1 rfl)) ?_
  refine walk_gr (gd_t rfl rfl rfl) rfl rfl rfl (op_ldm rfl tb36 (ev2 rfl) rfl rfl) ?_
  refine walk_gr (gd_t rfl rfl rfl) rfl rfl rfl (op_bs (ps := [(0, .const (.int .u8 0)), (1, .const (.int .u8 2))]) rfl sl36 zr5 rfl (vc (ev1 rfl) (vc (ev1 rfl) vn)) rfl (by decide) (by decide)) ?_
  refine walk_gr (gd_t rfl rfl rfl) rfl rfl rfl (dop_call [] [] [] rfl (ev1 rfl) (ec (ev2 rfl) (ec (ev2 rfl) en)) rfl rfl (equalN [0, 2] [0, 2]) rfl rfl rfl rfl rfl rfl) ?_
  refine walk_r rfl rfl rfl (op_and rfl (ev1 rfl) (ev3 rfl id)) ?_
  refine walk_r rfl rfl rfl (op_move (.inl rfl) (ev1 rfl)) ?_
  refine walk_gr (gd_t rfl rfl rfl) rfl rfl rfl (op_move (.inl rfl) (ev1 rfl)) ?_
  refine walk_gr (gd_t rfl rfl rfl) rfl rfl rfl (op_lenm rfl sl22 (ev2 rfl)) ?_
  refine walk_gr (gd_t rfl rfl rfl) rfl rfl rfl (op_eql rfl (ev2 rfl) (ev1 rfl)) ?_
  refine walk_r rfl rfl rfl (op_and rfl (ev1 rfl) (ev3 rfl id)) ?_
  refine walk_r rfl rfl rfl (op_move (.inr rfl) (ev1 rfl)) ?_
  refine walk_nil ?_
  refine dwp_ret ?_
  refine kend0 (rs1 rfl (rv_t rfl)) rfl ?_
  rfl

end Go.Proofs.Ytgomklemldldiaa
