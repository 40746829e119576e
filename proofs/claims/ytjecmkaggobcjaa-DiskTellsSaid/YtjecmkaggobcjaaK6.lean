/- disks behind what is done to them, looked at; a disk behind one operation, looked at; the layer does something; fronts of what waits; what is left of a fall is what a front would be; what is told of disks; the law of what is told; The lift of a law whose walk asks how large its arguments are: they take no more bytes than a process has addresses (the form's own reach).  but the kernel's look at the program; what Run tells; fuses; the law of fuses; two numbers that are opened; what is kept; what types are, the rest. No condition. -/
import Derived.Test.YtjecmkaggobcjaaK5
import Derived.SizedLaws
import Derived.Deep.Slices
namespace Go.Proofs.Ytjecmkaggobcjaa
set_option linter.unusedVariables false
set_option linter.unusedSimpArgs false
open Go.RowKit
theorem doF_at' {f : Nat → List Nat} {o : DOpn} (hf : 0 ≤ o.fl ∧ o.fl < 4) (i : Nat) : doF f o i = if o.fl = (i : Int) then setB (f i) o else f i := by
  unfold doF setB updF
  by_cases e : o.fl = (i : Int)
  · have e2 : o.fl.toNat = i := by omega
    rw [if_pos e, e2]
    by_cases k1 : o.kd = 1
    · rw [if_pos k1, if_pos k1, if_pos rfl]
    · rw [if_neg k1, if_neg k1]
      by_cases k2 : o.kd = 2
      · rw [if_pos k2, if_pos k2, if_pos rfl]
      · rw [if_neg k2, if_neg k2]
  · have e2 : ¬ i = o.fl.toNat := by omega
    rw [if_neg e]
    by_cases k1 : o.kd = 1
    · rw [if_pos k1, if_neg e2]
    · rw [if_neg k1]
      by_cases k2 : o.kd = 2
      · rw [if_pos k2, if_neg e2]
      · rw [if_neg k2]
theorem GOk.step' {s : DSt} {Q : List (DOpn × Nat)} {o : DOpn} (h : GOk s Q) (hf : 0 ≤ o.fl ∧ o.fl < 4) : GOk (stG s o) Q := by
  have hj : o.fl.toNat < 4 := by omega
  have lt : ∀ k B, s.B[k]? = some B → k < s.B.length := fun k B e => (List.getElem?_eq_some_iff.1 e).1
  have old : ∀ (k : Nat) B, s.B[k]? = some B → s.g o.fl.toNat ≠ k → (s.B.set (s.g o.fl.toNat) Mem.gone ++ [rowB (setB (s.f o.fl.toNat) o)])[k]? = some B := fun k B e hne => by
    rw [List.getElem?_append_left (by rw [List.length_set]; exact lt k B e), List.getElem?_set_ne hne]
    exact e
  refine ⟨fun i hi => ?_, fun i j hi hj2 e => ?_, fun q hq => old _ _ (h.wait q hq) (h.ne _ hj q hq), fun i hi q hq => ?_⟩
  · show (s.B.set (s.g o.fl.toNat) Mem.gone ++ [rowB (setB (s.f o.fl.toNat) o)])[updG s.g o.fl.toNat s.B.length i]? = some (rowB (doF s.f o i))
    rw [doF_at' hf i]
    unfold updG
    by_cases e : i = o.fl.toNat
    · have e2 : o.fl = (i : Int) := by omega
      rw [if_pos e, if_pos e2, List.getElem?_append_right (by rw [List.length_set]; exact Nat.le_refl _), List.length_set, Nat.sub_self, ← e]
      rfl
    · have e2 : ¬ o.fl = (i : Int) := by omega
      rw [if_neg e, if_neg e2]
      exact old _ _ (h.file i hi) fun e3 => e (h.inj _ _ hj hi e3).symm
  · revert e
    show updG s.g o.fl.toNat s.B.length i = updG s.g o.fl.toNat s.B.length j → i = j
    unfold updG
    have li := lt _ _ (h.file i hi)
    have lj := lt _ _ (h.file j hj2)
    by_cases e1 : i = o.fl.toNat <;> by_cases e2 : j = o.fl.toNat
    · exact fun _ => e1.trans e2.symm
    · rw [if_pos e1, if_neg e2]; intro e; omega
    · rw [if_neg e1, if_pos e2]; intro e; omega
    · rw [if_neg e1, if_neg e2]; exact h.inj i j hi hj2
  · show updG s.g o.fl.toNat s.B.length i ≠ q.2
    unfold updG
    have lq := lt _ _ (h.wait q hq)
    by_cases e1 : i = o.fl.toNat
    · rw [if_pos e1]; omega
    · rw [if_neg e1]; exact h.ne i hi q hq
theorem GOk.out {s : DSt} {Q : List (DOpn × Nat)} {q : DOpn × Nat} (h : GOk s Q) (hq : q ∈ Q) : GOk (outK s q.2) [] := by
  refine ⟨fun i hi => ?_, h.inj, fun q hq => absurd hq List.not_mem_nil, fun _ _ q hq => absurd hq List.not_mem_nil⟩
  show (s.B.set q.2 .gone)[s.g i]? = _
  rw [List.getElem?_set_ne (Ne.symm (h.ne i hi q hq))]
  exact h.file i hi
def fallF (f : Nat → List Nat) (w : List DOpn) (keep t : Nat) : Nat → List Nat := match w[keep]? with
  | some o => if o.kd = 1 then doF (seF f (w.take keep)) (tornO o t) else seF f (w.take keep)
  | none => seF f (w.take keep)
def fallS (d : DkS) (keep t : Nat) : DkS := ⟨fallF d.f d.w keep t, seH d.h (d.w.take keep), [], true, 0⟩
def zDk : DkS := ⟨fun _ => [], 0, [], false, 0⟩
def doS (d : DkS) (o : DOpn) : DkS := if opE d o = 0 then okS d o else if opE d o = 321 then dnS d else zDk
theorem wk_zD (e : Value) : Wk (.tup [.val (.agg #[.slice none 0 0, .slice none 0 0, .slice none 0 0, .slice none 0 0, .int .i64 0, .slice none 0 0, .bool false, .int .i64 0]), .val e]) (.tup [zDk.d, .val e]) :=
  Wk.tup (WkL.cons ((Wk.vagg [.slice none 0 0, .slice none 0 0, .slice none 0 0, .slice none 0 0, .int .i64 0, .slice none 0 0, .bool false, .int .i64 0]).trans (Wk.agg (WkL.cons (Wk.slf0 1) (WkL.cons (Wk.slf0 1) (WkL.cons (Wk.slf0 1) (WkL.cons (Wk.slf0 1) (WkL.cons (Wk.refl _) (WkL.cons (Wk.slm0 3) (WkL.refl _))))))))) (WkL.refl _))
theorem wk_zD3 (e e' : Value) : Wk (.tup [.val (.agg #[.slice none 0 0, .slice none 0 0, .slice none 0 0, .slice none 0 0, .int .i64 0, .slice none 0 0, .bool false, .int .i64 0]), .val e, .val e']) (.tup [zDk.d, .val e, .val e']) :=
  Wk.tup (WkL.cons ((Wk.vagg [.slice none 0 0, .slice none 0 0, .slice none 0 0, .slice none 0 0, .int .i64 0, .slice none 0 0, .bool false, .int .i64 0]).trans (Wk.agg (WkL.cons (Wk.slf0 1) (WkL.cons (Wk.slf0 1) (WkL.cons (Wk.slf0 1) (WkL.cons (Wk.slf0 1) (WkL.cons (Wk.refl _) (WkL.cons (Wk.slm0 3) (WkL.refl _))))))))) (WkL.refl _))
theorem wk_nilw (f : Nat → List Nat) (h : Int) (dn : Bool) (fu : Int) (e : Value) : Wk (.tup [.agg [rB (f 0), rB (f 1), rB (f 2), rB (f 3), .val (.int .i64 h), .val (.slice none 0 0), .val (.bool dn), .val (.int .i64 fu)], .val e]) (.tup [.agg (dD f h [] dn fu), .val e]) :=
  Wk.tup (WkL.cons (Wk.agg (WkL.cons (Wk.refl _) (WkL.cons (Wk.refl _) (WkL.cons (Wk.refl _) (WkL.cons (Wk.refl _) (WkL.cons (Wk.refl _) (WkL.cons (Wk.slm0 3) (WkL.refl _)))))))) (WkL.refl _))
theorem frz_x {x : DSt × List (DOpn × Nat)} {d : DkS} (hx : XOk x d) (dn : Bool) (fu : Int) : vw [] allv [.fam x.1.B, .arx 44 3 x.2.length (x.2.flatMap (oF 0))] (.agg (cG x.1.g x.1.h (.arr 1) dn fu)) = some (.agg (dD d.f d.h d.w dn fu)) := by
  have h1 := vw_cG (σ := []) (V := allv) (M := [.fam x.1.B, .arx 44 3 x.2.length (x.2.flatMap (oF 0))]) (Bs := x.1.B) (f := x.1.f) (g := x.1.g) (h := x.1.h) (dn := dn) (fu := fu) (nq := x.2.length) (i := 1) (Q := x.2) rfl rfl rfl rfl rfl rfl hx.g.wait rfl hx.g.file
  rw [hx.f, hx.h, hx.w] at h1
  rw [hx.h]
  exact h1
theorem frz_n {s : DSt} (hg : ∀ i, i < 4 → s.B[s.g i]? = some (rowB (s.f i))) (h : Int) (dn : Bool) (fu : Int) : vw [] allv [.fam s.B] (.agg (cG s.g h (.val (.slice none 0 0)) dn fu)) = some (.agg [rB (s.f 0), rB (s.f 1), rB (s.f 2), rB (s.f 3), .val (.int .i64 h), .val (.slice none 0 0), .val (.bool dn), .val (.int .i64 fu)]) := by
  have hl : vwL [] allv [.fam s.B] (cG s.g h (.val (.slice none 0 0)) dn fu) = some [rB (s.f 0), rB (s.f 1), rB (s.f 2), rB (s.f 3), .val (.int .i64 h), .val (.slice none 0 0), .val (.bool dn), .val (.int .i64 fu)] :=
    vwL_cons' (vw_fF rfl rfl rfl (hg 0 (by omega))) (vwL_cons' (vw_fF rfl rfl rfl (hg 1 (by omega))) (vwL_cons' (vw_fF rfl rfl rfl (hg 2 (by omega))) (vwL_cons' (vw_fF rfl rfl rfl (hg 3 (by omega))) (vwL_cons' (by rfl) (vwL_cons' (by rfl) (vwL_cons' (by rfl) (vwL_cons' (by rfl) rfl)))))))
  rw [vw, hl]
  rfl
theorem runZ_ok (d : DkS) (l : List DOpn) (hd : d.ok) (hl : l.length ≤ 10000) (hlb : ∀ o ∈ l, o.b.length ≤ 10000000) (hok : okK d l l.length) : DFun Try.prog 26 [d.d, .slm 3 l.length (l.flatMap oD)] [] (.tup [(stK d l l.length).d, .val (.int .i64 (l.length : Int)), .val (.int .i64 0)]) [] :=
  freeze (run_ok d l hd hl hlb hok) (vw_three (frz_x (XK_ok hd _ (Nat.le_refl _) hok) _ _))
theorem runZ_down (d : DkS) (l : List DOpn) (hd : d.ok) (hl : l.length ≤ 10000) (hlb : ∀ o ∈ l, o.b.length ≤ 10000000) (j : Nat) (hj : j < l.length) (hok : okK d l j) (he : opE (stK d l j) l[j] = 321) : DFun Try.prog 26 [d.d, .slm 3 l.length (l.flatMap oD)] [] (.tup [(dnS (stK d l j)).d, .val (.int .i64 (j : Int)), .val (.int .i64 321)]) [] :=
  freeze (run_down d l hd hl hlb j hj hok he) (vw_three (frz_x (XK_ok hd _ (by omega) hok) _ _))
theorem runZ_bad (d : DkS) (l : List DOpn) (hd : d.ok) (hl : l.length ≤ 10000) (hlb : ∀ o ∈ l, o.b.length ≤ 10000000) (j : Nat) (hj : j < l.length) (hok : okK d l j) (h0 : opE (stK d l j) l[j] ≠ 0) (h9 : opE (stK d l j) l[j] ≠ 321) : DFun Try.prog 26 [d.d, .slm 3 l.length (l.flatMap oD)] [] (.tup [zDk.d, .val (.int .i64 (j : Int)), .val (.int .i64 (opE (stK d l j) l[j]))]) [] :=
  (run_bad d l hd hl hlb j hj hok h0 h9).wk (wk_zD3 _ _)
theorem runZ_no (d : DkS) (l : List DOpn) (hb : fewB (szs d.f) d.w) (hl : l.length ≤ 10000) (hc : ¬ d.ok) : DFun Try.prog 26 [d.d, .slm 3 l.length (l.flatMap oD)] [] (.tup [zDk.d, .val (.int .i64 0), .val (.int .i64 320)]) [] :=
  (run_no d.f d.h d.w d.dn d.fu hb l hl hc).wk (wk_zD3 _ _)
theorem fallZ (d : DkS) (hd : d.ok) (keep t : Nat) : DFun Try.prog 31 [d.d, .val (.int .i64 (keep : Int)), .val (.int .i64 (t : Int))] [] (.tup [(fallS d keep t).d, .val (.int .i64 0)]) [] := by
  have hx := X0_ok d
  have hm := (chk_parts hd).2.2.1
  by_cases hkp : keep < d.w.length
  · have hq : keep < (X0 d).2.length := by have h2 : (X0 d).2.length = d.w.length := hx.len; omega
    have h1 := fall_stop d hd keep t hkp hq
    have hG := GOk.steps ((X0 d).2.take keep) hx.g (fun q hq => hx.may hd q (List.mem_of_mem_take hq))
    have hmem := List.getElem_mem hq
    have hof := (mayW_in (hx.may hd _ hmem)).2
    have hwo : ((X0 d).2[keep]'hq).1 = d.w[keep] := by
      have : ((X0 d).2.map Prod.fst)[keep]? = d.w[keep]? := by rw [hx.w]
      rw [List.getElem?_map, List.getElem?_eq_getElem hq, List.getElem?_eq_getElem hkp] at this
      exact Option.some.inj this
    have hG2 : ∀ i, i < 4 → (tearS (stGs (X0 d).1 ((X0 d).2.take keep)) ((X0 d).2[keep]'hq).1 ((X0 d).2[keep]'hq).2 t).B[(tearS (stGs (X0 d).1 ((X0 d).2.take keep)) ((X0 d).2[keep]'hq).1 ((X0 d).2[keep]'hq).2 t).g i]? = some (rowB ((tearS (stGs (X0 d).1 ((X0 d).2.take keep)) ((X0 d).2[keep]'hq).1 ((X0 d).2[keep]'hq).2 t).f i)) := by
      unfold tearS
      by_cases k1 : ((X0 d).2[keep]'hq).1.kd = 1
      · rw [if_pos k1]
        exact ((hG.out hmem).step' (o := tornO ((X0 d).2[keep]'hq).1 t) hof).file
      · rw [if_neg k1]; exact hG.file
    have hf : (tearS (stGs (X0 d).1 ((X0 d).2.take keep)) ((X0 d).2[keep]'hq).1 ((X0 d).2[keep]'hq).2 t).f = (fallS d keep t).f := by
      show _ = fallF d.f d.w keep t
      have e1 : (stGs (X0 d).1 ((X0 d).2.take keep)).f = seF d.f (d.w.take keep) := by rw [stGs_f, List.map_take, hx.w]; rfl
      unfold tearS fallF
      rw [List.getElem?_eq_getElem hkp]
      show _ = if d.w[keep].kd = 1 then _ else _
      rw [hwo]
      by_cases k1 : d.w[keep].kd = 1
      · rw [if_pos k1, if_pos k1]
        show doF (stGs (X0 d).1 ((X0 d).2.take keep)).f _ = _
        rw [e1]
      · rw [if_neg k1, if_neg k1, e1]
    have hh : (tearS (stGs (X0 d).1 ((X0 d).2.take keep)) ((X0 d).2[keep]'hq).1 ((X0 d).2[keep]'hq).2 t).h = (fallS d keep t).h := by
      show _ = seH d.h (d.w.take keep)
      have e1 : (stGs (X0 d).1 ((X0 d).2.take keep)).h = seH d.h (d.w.take keep) := by rw [stGs_h, List.map_take, hx.w]; rfl
      unfold tearS
      by_cases k1 : ((X0 d).2[keep]'hq).1.kd = 1
      · rw [if_pos k1]
        show doH _ (tornO _ t) = _
        unfold doH
        rw [if_pos (by exact k1)]
        exact e1
      · rw [if_neg k1]; exact e1
    have h2 := (freeze h1 (vw_two (frz_n hG2 _ _ _))).wk (wk_nilw _ _ _ _ _)
    rw [hf, hh] at h2
    exact h2
  · have h1 := fall_go d hd keep t (by omega)
    have hG := GOk.steps (X0 d).2 hx.g (hx.may hd)
    have hf : (stGs (X0 d).1 (X0 d).2).f = (fallS d keep t).f := by
      show _ = fallF d.f d.w keep t
      unfold fallF
      rw [List.getElem?_eq_none (by omega), stGs_f, hx.w, List.take_of_length_le (by omega)]; rfl
    have hh : (stGs (X0 d).1 (X0 d).2).h = (fallS d keep t).h := by
      show _ = seH d.h (d.w.take keep)
      rw [stGs_h, hx.w, List.take_of_length_le (by omega)]; rfl
    have h2 := (freeze h1 (vw_two (frz_n hG.file _ _ _))).wk (wk_nilw _ _ _ _ _)
    rw [hf, hh] at h2
    exact h2
theorem fallZ_arg (d : DkS) (hd : d.ok) (a b : Int) (hn : ¬ (0 ≤ a ∧ 0 ≤ b)) : DFun Try.prog 31 [d.d, .val (.int .i64 a), .val (.int .i64 b)] [] (.tup [zDk.d, .val (.int .i64 2)]) [] := (fall_arg d hd a b hn).wk (wk_zD _)
def riseS (d : DkS) : DkS := ⟨d.f, d.h, [], false, d.fu⟩
theorem riseZ (d : DkS) (hd : d.ok) (hn : d.dn = true) : DFun Try.prog 33 [d.d] [] (.tup [(riseS d).d, .val (.int .i64 0)]) [] :=
  (freeze (rise_ok d.f d.h d.w d.dn d.fu (few_of hd) hd hn) (vw_two (frz_n (s := (X0 d).1) (X0_ok d).g.file _ _ _))).wk (wk_nilw _ _ _ _ _)
def armS (d : DkS) (n : Int) : DkS := ⟨d.f, d.h, d.w, d.dn, n⟩
theorem armZ (d : DkS) (n : Int) (hd : d.ok) (hn : 0 ≤ n ∧ n ≤ 4096) (hdn : d.dn = false) : DFun Try.prog 30 [d.d, .val (.int .i64 n)] [] (.tup [(armS d n).d, .val (.int .i64 0)]) [] := by
  have h1 := arm_ok d.f d.h d.w d.dn d.fu n (few_of hd) hd hn hdn
  have h2 := frz_x (X0_ok d) d.dn n
  rw [show (X0 d).2.length = d.w.length from (X0_ok d).len] at h2
  exact freeze h1 (vw_two h2)
end Go.Proofs.Ytjecmkaggobcjaa

namespace Go.Proofs.Ytjecmkaggobcjaa
set_option linter.unusedVariables false
set_option linter.unusedSimpArgs false
open Go.RowKit
theorem okK1 {d : DkS} {o : DOpn} (he : opE d o = 0) : okK d [o] [o].length := fun i hi _ => by
  have : i = 0 := by simpa using hi
  subst this
  exact he
theorem okK0 {d : DkS} {l : List DOpn} : okK d l 0 := fun i hi h => absurd h (Nat.not_lt_zero i)
theorem run1Z_ok (d : DkS) (o : DOpn) (hd : d.ok) (hob : o.b.length ≤ 10000000) (he : opE d o = 0) : DFun Try.prog 26 [d.d, .slm 3 1 (oD o)] [] (.tup [(okS d o).d, .val (.int .i64 1), .val (.int .i64 0)]) [] :=
  runZ_ok d [o] hd (by simp) (by simpa using hob) (okK1 he)
theorem run1Z_down (d : DkS) (o : DOpn) (hd : d.ok) (hob : o.b.length ≤ 10000000) (he : opE d o = 321) : DFun Try.prog 26 [d.d, .slm 3 1 (oD o)] [] (.tup [(dnS d).d, .val (.int .i64 0), .val (.int .i64 321)]) [] :=
  runZ_down d [o] hd (by simp) (by simpa using hob) 0 (by simp) okK0 he
theorem run1Z_bad (d : DkS) (o : DOpn) (hd : d.ok) (hob : o.b.length ≤ 10000000) (h0 : opE d o ≠ 0) (h9 : opE d o ≠ 321) : DFun Try.prog 26 [d.d, .slm 3 1 (oD o)] [] (.tup [zDk.d, .val (.int .i64 0), .val (.int .i64 (opE d o))]) [] :=
  runZ_bad d [o] hd (by simp) (by simpa using hob) 0 (by simp) okK0 h0 h9
theorem run1Z_no (d : DkS) (o : DOpn) (hb : fewB (szs d.f) d.w) (hc : ¬ d.ok) : DFun Try.prog 26 [d.d, .slm 3 1 (oD o)] [] (.tup [zDk.d, .val (.int .i64 0), .val (.int .i64 320)]) [] :=
  runZ_no d [o] hb (by simp) hc
set_option maxRecDepth 4000 in
set_option maxHeartbeats 1000000 in
theorem doZ_ok (d : DkS) (o : DOpn) (hd : d.ok) (hob : o.b.length ≤ 10000000) (he : opE d o = 0) : DFun Try.prog 23 [.agg (dD d.f d.h d.w d.dn d.fu), .agg (oD o)] [] (.tup [(okS d o).d, .val (.int .i64 0)]) [] := by
  refine dcalls_go (N := 19) 0 (by kernel_rfl) Try.func23 rfl rfl rfl (by simp only [fr0, Nat.zero_add, Nat.reduceAdd]; exact rfl) rfl fun s0 hs0 => ?_
  refine dwp_seq ?_
  refine dwp_holes 2 (by simp only [holes, List.cons_append, List.nil_append]; exact rfl) ?_
  refine dwp_region ?_
  refine walk_r rfl rfl rfl (op_boxf rfl rfl (ev1 rfl)) ?_
  refine walk_w rfl rfl rfl (op_boxam 0 rfl (ev1 rfl) rfl) (by simp only [upd, List.set_cons_zero, List.set_cons_succ]; exact rfl) ?_
  refine walk_w rfl rfl rfl (op_alloc 1 rfl zr26 rfl) (by simp only [upd, List.set_cons_zero, List.set_cons_succ]; exact rfl) ?_
  refine walk_r rfl rfl rfl (op_move (.inr rfl) (ev1 rfl)) ?_
  refine walk_nil ?_
  refine dwp_seq ?_
  refine dwp_holes 1 (by simp only [holes, List.cons_append, List.nil_append]; exact rfl) ?_
  refine dwp_region ?_
  refine walk_r rfl rfl rfl (op_lddr rfl tb26 (ev1 rfl) rfl rfl) ?_
  refine walk_r rfl rfl rfl (op_ldmw rfl tb44 (ev1 rfl) rfl rfl) ?_
  refine walk_r rfl rfl rfl (op_bsr (ps := [(0, .tmp 11)]) rfl sl24 zr44 rfl (ec (ev1 rfl) en) rfl rfl rfl (by rfl) rfl (by decide) (by decide)) ?_
  refine walk_r rfl rfl rfl (dop_call [] [] [] rfl (ev1 rfl) (ec (ev1 rfl) (ec (ev1 rfl) en)) rfl rfl (run1Z_ok d o hd hob he) rfl rfl rfl rfl rfl rfl) ?_
  refine walk_r rfl rfl rfl (op_move (.inl rfl) (ev1 rfl)) ?_
  refine walk_r rfl rfl rfl (op_ext rfl (ev1 rfl) rfl) ?_
  refine walk_r rfl rfl rfl (op_ext rfl (ev1 rfl) rfl) ?_
  refine walk_r rfl rfl rfl (op_ext rfl (ev1 rfl) rfl) ?_
  refine walk_w rfl rfl rfl (op_alloc 2 rfl zr26 rfl) (by simp only [upd, List.set_cons_zero, List.set_cons_succ]; exact rfl) ?_
  refine walk_s rfl rfl (op_stam rfl tb26 (ev1 rfl) (ev1 rfl) rfl rfl rfl rfl) (by simp only [upd, List.set_cons_zero, List.set_cons_succ]; exact rfl) ?_
  refine walk_r rfl rfl rfl (op_move (.inr rfl) (ev1 rfl)) ?_
  refine walk_r rfl rfl rfl (op_move (.inr rfl) (ev1 rfl)) ?_
  refine walk_nil ?_
  refine dwp_seq ?_
  refine dwp_region ?_
  refine walk_r rfl rfl rfl (op_ldmw rfl tb26 (ev1 rfl) rfl rfl) ?_
  refine walk_r rfl rfl rfl (op_move (.inl rfl) (ev1 rfl)) ?_
  refine walk_s rfl rfl (op_stam rfl tb26 (ev1 rfl) (ev1 rfl) rfl rfl rfl rfl) (by simp only [upd, List.set_cons_zero, List.set_cons_succ]; exact rfl) ?_
  refine walk_r rfl rfl rfl (op_move (.inr rfl) (ev1 rfl)) ?_
  refine walk_nil ?_
  refine dwp_ret ?_
  refine kend0 (rs2 rfl (rv_mw tb26 rfl rfl rfl) (rv_t rfl)) rfl ?_
  rfl
set_option maxRecDepth 4000 in
set_option maxHeartbeats 1000000 in
theorem doZ_down (d : DkS) (o : DOpn) (hd : d.ok) (hob : o.b.length ≤ 10000000) (he : opE d o = 321) : DFun Try.prog 23 [.agg (dD d.f d.h d.w d.dn d.fu), .agg (oD o)] [] (.tup [(dnS d).d, .val (.int .i64 321)]) [] := by
  refine dcalls_go (N := 19) 0 (by kernel_rfl) Try.func23 rfl rfl rfl (by simp only [fr0, Nat.zero_add, Nat.reduceAdd]; exact rfl) rfl fun s0 hs0 => ?_
  refine dwp_seq ?_
  refine dwp_holes 2 (by simp only [holes, List.cons_append, List.nil_append]; exact rfl) ?_
  refine dwp_region ?_
  refine walk_r rfl rfl rfl (op_boxf rfl rfl (ev1 rfl)) ?_
  refine walk_w rfl rfl rfl (op_boxam 0 rfl (ev1 rfl) rfl) (by simp only [upd, List.set_cons_zero, List.set_cons_succ]; exact rfl) ?_
  refine walk_w rfl rfl rfl (op_alloc 1 rfl zr26 rfl) (by simp only [upd, List.set_cons_zero, List.set_cons_succ]; exact rfl) ?_
  refine walk_r rfl rfl rfl (op_move (.inr rfl) (ev1 rfl)) ?_
  refine walk_nil ?_
  refine dwp_seq ?_
  refine dwp_holes 1 (by simp only [holes, List.cons_append, List.nil_append]; exact rfl) ?_
  refine dwp_region ?_
  refine walk_r rfl rfl rfl (op_lddr rfl tb26 (ev1 rfl) rfl rfl) ?_
  refine walk_r rfl rfl rfl (op_ldmw rfl tb44 (ev1 rfl) rfl rfl) ?_
  refine walk_r rfl rfl rfl (op_bsr (ps := [(0, .tmp 11)]) rfl sl24 zr44 rfl (ec (ev1 rfl) en) rfl rfl rfl (by rfl) rfl (by decide) (by decide)) ?_
  refine walk_r rfl rfl rfl (dop_call [] [] [] rfl (ev1 rfl) (ec (ev1 rfl) (ec (ev1 rfl) en)) rfl rfl (run1Z_down d o hd hob he) rfl rfl rfl rfl rfl rfl) ?_
  refine walk_r rfl rfl rfl (op_move (.inl rfl) (ev1 rfl)) ?_
  refine walk_r rfl rfl rfl (op_ext rfl (ev1 rfl) rfl) ?_
  refine walk_r rfl rfl rfl (op_ext rfl (ev1 rfl) rfl) ?_
  refine walk_r rfl rfl rfl (op_ext rfl (ev1 rfl) rfl) ?_
  refine walk_w rfl rfl rfl (op_alloc 2 rfl zr26 rfl) (by simp only [upd, List.set_cons_zero, List.set_cons_succ]; exact rfl) ?_
  refine walk_s rfl rfl (op_stam rfl tb26 (ev1 rfl) (ev1 rfl) rfl rfl rfl rfl) (by simp only [upd, List.set_cons_zero, List.set_cons_succ]; exact rfl) ?_
  refine walk_r rfl rfl rfl (op_move (.inr rfl) (ev1 rfl)) ?_
  refine walk_r rfl rfl rfl (op_move (.inr rfl) (ev1 rfl)) ?_
  refine walk_nil ?_
  refine dwp_seq ?_
  refine dwp_region ?_
  refine walk_r rfl rfl rfl (op_ldmw rfl tb26 (ev1 rfl) rfl rfl) ?_
  refine walk_r rfl rfl rfl (op_move (.inl rfl) (ev1 rfl)) ?_
  refine walk_s rfl rfl (op_stam rfl tb26 (ev1 rfl) (ev1 rfl) rfl rfl rfl rfl) (by simp only [upd, List.set_cons_zero, List.set_cons_succ]; exact rfl) ?_
  refine walk_r rfl rfl rfl (op_move (.inr rfl) (ev1 rfl)) ?_
  refine walk_nil ?_
  refine dwp_ret ?_
  refine kend0 (rs2 rfl (rv_mw tb26 rfl rfl rfl) (rv_t rfl)) rfl ?_
  rfl
set_option maxRecDepth 4000 in
set_option maxHeartbeats 1000000 in
theorem doZ_bad (d : DkS) (o : DOpn) (hd : d.ok) (hob : o.b.length ≤ 10000000) (h0 : opE d o ≠ 0) (h9 : opE d o ≠ 321) : DFun Try.prog 23 [.agg (dD d.f d.h d.w d.dn d.fu), .agg (oD o)] [] (.tup [zDk.d, .val (.int .i64 (opE d o))]) [] := by
  refine dcalls_go (N := 19) 0 (by kernel_rfl) Try.func23 rfl rfl rfl (by simp only [fr0, Nat.zero_add, Nat.reduceAdd]; exact rfl) rfl fun s0 hs0 => ?_
  refine dwp_seq ?_
  refine dwp_holes 2 (by simp only [holes, List.cons_append, List.nil_append]; exact rfl) ?_
  refine dwp_region ?_
  refine walk_r rfl rfl rfl (op_boxf rfl rfl (ev1 rfl)) ?_
  refine walk_w rfl rfl rfl (op_boxam 0 rfl (ev1 rfl) rfl) (by simp only [upd, List.set_cons_zero, List.set_cons_succ]; exact rfl) ?_
  refine walk_w rfl rfl rfl (op_alloc 1 rfl zr26 rfl) (by simp only [upd, List.set_cons_zero, List.set_cons_succ]; exact rfl) ?_
  refine walk_r rfl rfl rfl (op_move (.inr rfl) (ev1 rfl)) ?_
  refine walk_nil ?_
  refine dwp_seq ?_
  refine dwp_holes 1 (by simp only [holes, List.cons_append, List.nil_append]; exact rfl) ?_
  refine dwp_region ?_
  refine walk_r rfl rfl rfl (op_lddr rfl tb26 (ev1 rfl) rfl rfl) ?_
  refine walk_r rfl rfl rfl (op_ldmw rfl tb44 (ev1 rfl) rfl rfl) ?_
  refine walk_r rfl rfl rfl (op_bsr (ps := [(0, .tmp 11)]) rfl sl24 zr44 rfl (ec (ev1 rfl) en) rfl rfl rfl (by rfl) rfl (by decide) (by decide)) ?_
  refine walk_r rfl rfl rfl (dop_call [] [] [] rfl (ev1 rfl) (ec (ev1 rfl) (ec (ev1 rfl) en)) rfl rfl (run1Z_bad d o hd hob h0 h9) rfl rfl rfl rfl rfl rfl) ?_
  refine walk_r rfl rfl rfl (op_move (.inl rfl) (ev1 rfl)) ?_
  refine walk_r rfl rfl rfl (op_ext rfl (ev1 rfl) rfl) ?_
  refine walk_r rfl rfl rfl (op_ext rfl (ev1 rfl) rfl) ?_
  refine walk_r rfl rfl rfl (op_ext rfl (ev1 rfl) rfl) ?_
  refine walk_w rfl rfl rfl (op_alloc 2 rfl zr26 rfl) (by simp only [upd, List.set_cons_zero, List.set_cons_succ]; exact rfl) ?_
  refine walk_s rfl rfl (op_stam rfl tb26 (ev1 rfl) (ev1 rfl) rfl rfl rfl rfl) (by simp only [upd, List.set_cons_zero, List.set_cons_succ]; exact rfl) ?_
  refine walk_r rfl rfl rfl (op_move (.inr rfl) (ev1 rfl)) ?_
  refine walk_r rfl rfl rfl (op_move (.inr rfl) (ev1 rfl)) ?_
  refine walk_nil ?_
  refine dwp_seq ?_
  refine dwp_region ?_
  refine walk_r rfl rfl rfl (op_ldmw rfl tb26 (ev1 rfl) rfl rfl) ?_
  refine walk_r rfl rfl rfl (op_move (.inl rfl) (ev1 rfl)) ?_
  refine walk_s rfl rfl (op_stam rfl tb26 (ev1 rfl) (ev1 rfl) rfl rfl rfl rfl) (by simp only [upd, List.set_cons_zero, List.set_cons_succ]; exact rfl) ?_
  refine walk_r rfl rfl rfl (op_move (.inr rfl) (ev1 rfl)) ?_
  refine walk_nil ?_
  refine dwp_ret ?_
  refine kend0 (rs2 rfl (rv_mw tb26 rfl rfl rfl) (rv_t rfl)) rfl ?_
  rfl
set_option maxRecDepth 4000 in
set_option maxHeartbeats 1000000 in
theorem doZ_no (d : DkS) (o : DOpn) (hb : fewB (szs d.f) d.w) (hc : ¬ d.ok) : DFun Try.prog 23 [.agg (dD d.f d.h d.w d.dn d.fu), .agg (oD o)] [] (.tup [zDk.d, .val (.int .i64 320)]) [] := by
  refine dcalls_go (N := 19) 0 (by kernel_rfl) Try.func23 rfl rfl rfl (by simp only [fr0, Nat.zero_add, Nat.reduceAdd]; exact rfl) rfl fun s0 hs0 => ?_
  refine dwp_seq ?_
  refine dwp_holes 2 (by simp only [holes, List.cons_append, List.nil_append]; exact rfl) ?_
  refine dwp_region ?_
  refine walk_r rfl rfl rfl (op_boxf rfl rfl (ev1 rfl)) ?_
  refine walk_w rfl rfl rfl (op_boxam 0 rfl (ev1 rfl) rfl) (by simp only [upd, List.set_cons_zero, List.set_cons_succ]; exact rfl) ?_
  refine walk_w rfl rfl rfl (op_alloc 1 rfl zr26 rfl) (by simp only [upd, List.set_cons_zero, List.set_cons_succ]; exact rfl) ?_
  refine walk_r rfl rfl rfl (op_move (.inr rfl) (ev1 rfl)) ?_
  refine walk_nil ?_
  refine dwp_seq ?_
  refine dwp_holes 1 (by simp only [holes, List.cons_append, List.nil_append]; exact rfl) ?_
  refine dwp_region ?_
  refine walk_r rfl rfl rfl (op_lddr rfl tb26 (ev1 rfl) rfl rfl) ?_
  refine walk_r rfl rfl rfl (op_ldmw rfl tb44 (ev1 rfl) rfl rfl) ?_
  refine walk_r rfl rfl rfl (op_bsr (ps := [(0, .tmp 11)]) rfl sl24 zr44 rfl (ec (ev1 rfl) en) rfl rfl rfl (by rfl) rfl (by decide) (by decide)) ?_
  refine walk_r rfl rfl rfl (dop_call [] [] [] rfl (ev1 rfl) (ec (ev1 rfl) (ec (ev1 rfl) en)) rfl rfl (run1Z_no d o hb hc) rfl rfl rfl rfl rfl rfl) ?_
  refine walk_r rfl rfl rfl (op_move (.inl rfl) (ev1 rfl)) ?_
  refine walk_r rfl rfl rfl (op_ext rfl (ev1 rfl) rfl) ?_
  refine walk_r rfl rfl rfl (op_ext rfl (ev1 rfl) rfl) ?_
  refine walk_r rfl rfl rfl (op_ext rfl (ev1 rfl) rfl) ?_
  refine walk_w rfl rfl rfl (op_alloc 2 rfl zr26 rfl) (by simp only [upd, List.set_cons_zero, List.set_cons_succ]; exact rfl) ?_
  refine walk_s rfl rfl (op_stam rfl tb26 (ev1 rfl) (ev1 rfl) rfl rfl rfl rfl) (by simp only [upd, List.set_cons_zero, List.set_cons_succ]; exact rfl) ?_
  refine walk_r rfl rfl rfl (op_move (.inr rfl) (ev1 rfl)) ?_
  refine walk_r rfl rfl rfl (op_move (.inr rfl) (ev1 rfl)) ?_
  refine walk_nil ?_
  refine dwp_seq ?_
  refine dwp_region ?_
  refine walk_r rfl rfl rfl (op_ldmw rfl tb26 (ev1 rfl) rfl rfl) ?_
  refine walk_r rfl rfl rfl (op_move (.inl rfl) (ev1 rfl)) ?_
  refine walk_s rfl rfl (op_stam rfl tb26 (ev1 rfl) (ev1 rfl) rfl rfl rfl rfl) (by simp only [upd, List.set_cons_zero, List.set_cons_succ]; exact rfl) ?_
  refine walk_r rfl rfl rfl (op_move (.inr rfl) (ev1 rfl)) ?_
  refine walk_nil ?_
  refine dwp_ret ?_
  refine kend0 (rs2 rfl (rv_mw tb26 rfl rfl rfl) (rv_t rfl)) rfl ?_
  rfl
theorem doZ (d : DkS) (o : DOpn) (hd : d.ok) (hob : o.b.length ≤ 10000000) : DFun Try.prog 23 [d.d, .agg (oD o)] [] (.tup [(doS d o).d, .val (.int .i64 (opE d o))]) [] := by
  unfold doS
  by_cases h0 : opE d o = 0
  · rw [if_pos h0, h0]; exact doZ_ok d o hd hob h0
  · rw [if_neg h0]
    by_cases h9 : opE d o = 321
    · rw [if_pos h9, h9]; exact doZ_down d o hd hob h9
    · rw [if_neg h9]; exact doZ_bad d o hd hob h0 h9
theorem readZ (d : DkS) (hd : d.ok) (n : Int) (hn : fileB n = true) : DFun Try.prog 18 [d.d, .val (.int .i64 n)] [] (.tup [rB (seenB n (d.f n.toNat) d.w), .val (.int .i64 0)]) [] :=
  freeze (read_o d.f d.h d.w d.dn d.fu n (few_of hd) hd hn) rfl
theorem newZ : DFun Try.prog 17 [] [] zDk.d [] := new_d.wk ((Wk.vagg [.slice none 0 0, .slice none 0 0, .slice none 0 0, .slice none 0 0, .int .i64 0, .slice none 0 0, .bool false, .int .i64 0]).trans (Wk.agg (WkL.cons (Wk.slf0 1) (WkL.cons (Wk.slf0 1) (WkL.cons (Wk.slf0 1) (WkL.cons (Wk.slf0 1) (WkL.cons (Wk.refl _) (WkL.cons (Wk.slm0 3) (WkL.refl _)))))))))
abbrev wL : List DOpn := [⟨1, 0, [1, 2]⟩, ⟨4, 0, []⟩, ⟨1, 0, [3, 4]⟩, ⟨3, 1, []⟩]
abbrev wL2 : List DOpn := [⟨1, 0, [1]⟩, ⟨1, 0, [2]⟩]
def w1 : DkS := stK zDk wL 4
def w2 : DkS := fallS w1 0 1
def w3 : DkS := riseS w2
def w4 : DkS := armS zDk 2
theorem z_ok : zDk.ok := by unfold DkS.ok; decide
theorem w1_ok : w1.ok := by unfold DkS.ok; decide
theorem w2_ok : w2.ok := by unfold DkS.ok; decide
theorem w3_ok : w3.ok := by unfold DkS.ok; decide
theorem w4_ok : w4.ok := by unfold DkS.ok; decide
theorem w_run : DFun Try.prog 26 [zDk.d, .slm 3 4 (wL.flatMap oD)] [] (.tup [w1.d, .val (.int .i64 4), .val (.int .i64 0)]) [] := runZ_ok zDk wL z_ok (by decide) (by decide) (by unfold okK; decide)
theorem w_read : DFun Try.prog 18 [w1.d, .val (.int .i64 0)] [] (.tup [rB [1, 2, 3, 4], .val (.int .i64 0)]) [] := readZ w1 w1_ok 0 rfl
theorem w_fall : DFun Try.prog 31 [w1.d, .val (.int .i64 0), .val (.int .i64 1)] [] (.tup [w2.d, .val (.int .i64 0)]) [] := fallZ w1 w1_ok 0 1
theorem w_rise : DFun Try.prog 33 [w2.d] [] (.tup [w3.d, .val (.int .i64 0)]) [] := riseZ w2 w2_ok rfl
theorem w_read2 : DFun Try.prog 18 [w3.d, .val (.int .i64 0)] [] (.tup [rB [1, 2, 3], .val (.int .i64 0)]) [] := readZ w3 w3_ok 0 rfl
theorem w_arm : DFun Try.prog 30 [zDk.d, .val (.int .i64 2)] [] (.tup [w4.d, .val (.int .i64 0)]) [] := armZ zDk 2 z_ok (by decide) rfl
theorem w_run2 : DFun Try.prog 26 [w4.d, .slm 3 2 (wL2.flatMap oD)] [] (.tup [(dnS (stK w4 wL2 1)).d, .val (.int .i64 1), .val (.int .i64 321)]) [] := runZ_down w4 wL2 w4_ok (by decide) (by decide) 1 (by decide) (by unfold okK; decide) (by decide)
theorem w_do : DFun Try.prog 23 [w1.d, .agg (oD ⟨1, 0, []⟩)] [] (.tup [zDk.d, .val (.int .i64 2)]) [] := doZ w1 ⟨1, 0, []⟩ w1_ok (by decide)
theorem w_head : DFun Try.prog 16 [w1.d] [] (.val (.int .i64 1)) [] := head_d w1.f w1.h w1.w w1.dn w1.fu (few_of w1_ok)
theorem w_head2 : DFun Try.prog 16 [w3.d] [] (.val (.int .i64 0)) [] := head_d w3.f w3.h w3.w w3.dn w3.fu (few_of w3_ok)
set_option maxRecDepth 4000 in
set_option maxHeartbeats 1000000 in
theorem put_d (b : List Nat) : DFun Try.prog 37 [.slf 1 (b).length ((b).flatMap un8)] [] (.agg (oD ⟨1, 0, b⟩)) [] := by
  refine dcalls_go (N := 5) 0 (by kernel_rfl) Try.func37 rfl rfl rfl (by simp only [fr0, Nat.zero_add, Nat.reduceAdd]; exact rfl) rfl fun s0 hs0 => ?_
  refine dwp_len (t := 0) rfl fun hl0 hL0 => ?_
  refine dwp_seq ?_
  refine dwp_holes 1 (by simp only [holes, List.cons_append, List.nil_append]; exact rfl) ?_
  refine dwp_region ?_
  refine walk_w rfl rfl rfl (op_alloc 0 rfl zr44 rfl) (by simp only [upd, List.set_cons_zero, List.set_cons_succ]; exact rfl) ?_
  refine walk_nil ?_
  refine dwp_seq ?_
  refine dwp_region ?_
  refine walk_r rfl rfl rfl (op_move (.inl rfl) (ev1 rfl)) ?_
  refine walk_r rfl rfl rfl (op_bldD (ps := [(0, .const (.int .i64 1)), (2, .tmp 3)]) rfl fl44 zr44 (ec (ev1 rfl) (ec (ev1 rfl) en)) rfl rfl rfl) ?_
  refine walk_s rfl rfl (op_stam rfl tb44 (ev1 rfl) (ev1 rfl) rfl rfl rfl rfl) (by simp only [upd, List.set_cons_zero, List.set_cons_succ]; exact rfl) ?_
  refine walk_nil ?_
  refine dwp_ret ?_
  refine kend0 (rs1 rfl (rv_mw tb44 rfl rfl rfl)) rfl ?_
  rfl
set_option maxRecDepth 4000 in
set_option maxHeartbeats 1000000 in
theorem put_n : DFun Try.prog 37 [.val (.slice none 0 0)] [] (.val (.agg #[.int .i64 1, .int .i64 0, .slice none 0 0])) [] := by
  refine dcalls_go (N := 5) 0 (by kernel_rfl) Try.func37 rfl rfl rfl (by simp only [fr0, Nat.zero_add, Nat.reduceAdd]; exact rfl) rfl fun s0 hs0 => ?_
  refine dwp_seq ?_
  refine dwp_holes 1 (by simp only [holes, List.cons_append, List.nil_append]; exact rfl) ?_
  refine dwp_region ?_
  refine walk_w rfl rfl rfl (op_alloc 0 rfl zr44 rfl) (by simp only [upd, List.set_cons_zero, List.set_cons_succ]; exact rfl) ?_
  refine walk_nil ?_
  refine dwp_seq ?_
  refine dwp_region ?_
  refine walk_r rfl rfl rfl (op_move (.inl rfl) (ev1 rfl)) ?_
  refine walk_r rfl rfl rfl (op_build (ps := [(0, .const (.int .i64 1)), (2, .tmp 3)]) rfl fl44 zr44 (vc (ev1 rfl) (vc (ev1 rfl) vn)) rfl rfl) ?_
  refine walk_s rfl rfl (op_stwa rfl tb44 (ev1 rfl) (ev1 rfl) rfl rfl rfl rfl) (by simp only [upd, List.set_cons_zero, List.set_cons_succ]; exact rfl) ?_
  refine walk_nil ?_
  refine dwp_ret ?_
  refine kend0 (rs1 rfl (rv_w tb44 rfl rfl rfl)) rfl ?_
  rfl
set_option maxRecDepth 4000 in
set_option maxHeartbeats 1000000 in
theorem sync_n : DFun Try.prog 34 [] [] (.val (.agg #[.int .i64 4, .int .i64 0, .slice none 0 0])) [] := by
  refine dcalls_go (N := 2) 0 (by kernel_rfl) Try.func34 rfl rfl rfl (by simp only [fr0, Nat.zero_add, Nat.reduceAdd]; exact rfl) rfl fun s0 hs0 => ?_
  refine dwp_seq ?_
  refine dwp_holes 1 (by simp only [holes, List.cons_append, List.nil_append]; exact rfl) ?_
  refine dwp_region ?_
  refine walk_w rfl rfl rfl (op_alloc 0 rfl zr44 rfl) (by simp only [upd, List.set_cons_zero, List.set_cons_succ]; exact rfl) ?_
  refine walk_nil ?_
  refine dwp_seq ?_
  refine dwp_region ?_
  refine walk_r rfl rfl rfl (op_build (ps := [(0, .const (.int .i64 4))]) rfl fl44 zr44 (vc (ev1 rfl) vn) rfl rfl) ?_
  refine walk_s rfl rfl (op_stwa rfl tb44 (ev1 rfl) (ev1 rfl) rfl rfl rfl rfl) (by simp only [upd, List.set_cons_zero, List.set_cons_succ]; exact rfl) ?_
  refine walk_nil ?_
  refine dwp_ret ?_
  refine kend0 (rs1 rfl (rv_w tb44 rfl rfl rfl)) rfl ?_
  rfl
theorem wk_op (k z : Int) : Wk (.val (.agg #[.int .i64 k, .int .i64 z, .slice none 0 0])) (.agg (oD ⟨k, z, []⟩)) := (Wk.vagg [.int .i64 k, .int .i64 z, .slice none 0 0]).trans (Wk.agg (WkL.cons (Wk.refl _) (WkL.cons (Wk.refl _) (WkL.cons (Wk.slf0 1) WkL.nil))))
theorem putZ : DFun Try.prog 37 [.val (.slice none 0 0)] [] (.agg (oD ⟨1, 0, []⟩)) [] := put_n.wk (wk_op 1 0)
theorem syncZ : DFun Try.prog 34 [] [] (.agg (oD ⟨4, 0, []⟩)) [] := sync_n.wk (wk_op 4 0)
end Go.Proofs.Ytjecmkaggobcjaa

namespace Go.Proofs.Ytjecmkaggobcjaa
set_option linter.unusedVariables false
set_option linter.unusedSimpArgs false
open Go.RowKit
set_option maxRecDepth 4000 in
set_option maxHeartbeats 1000000 in
theorem wakes_d : DFun Try.prog 9 [] [] (.val (.bool true)) [] := by
  refine dcalls_go (N := 141) 0 (by kernel_rfl) Try.func9 rfl rfl rfl (by simp only [fr0, Nat.zero_add, Nat.reduceAdd]; exact rfl) rfl fun s0 hs0 => ?_
  refine dwp_seq ?_
  refine dwp_region ?_
  refine walk_r rfl rfl rfl (op_move (.inr rfl) (ev1 rfl)) ?_
  refine walk_nil ?_
  refine dwp_seq ?_
  refine dwp_holes 1 (by simp only [holes, List.cons_append, List.nil_append]; exact rfl) ?_
  refine dwp_region ?_
  refine walk_r rfl rfl rfl (dop_call [] [] [] rfl (ev1 rfl) en rfl rfl (newZ) rfl rfl rfl rfl rfl rfl) ?_
  refine walk_r rfl rfl rfl (op_bs (ps := [(0, .const (.int .u8 1)), (1, .const (.int .u8 2))]) rfl sl22 zr5 rfl (vc (ev1 rfl) (vc (ev1 rfl) vn)) rfl (by decide) (by decide)) ?_
  refine walk_r rfl rfl rfl (dop_call [] [] [] rfl (ev1 rfl) (ec (ev1 rfl) en) rfl rfl (put_d [1, 2]) rfl rfl rfl rfl rfl rfl) ?_
  refine walk_r rfl rfl rfl (dop_call [] [] [] rfl (ev1 rfl) en rfl rfl (syncZ) rfl rfl rfl rfl rfl rfl) ?_
  refine walk_r rfl rfl rfl (op_bs (ps := [(0, .const (.int .u8 3)), (1, .const (.int .u8 4))]) rfl sl22 zr5 rfl (vc (ev1 rfl) (vc (ev1 rfl) vn)) rfl (by decide) (by decide)) ?_
  refine walk_r rfl rfl rfl (dop_call [] [] [] rfl (ev1 rfl) (ec (ev1 rfl) en) rfl rfl (put_d [3, 4]) rfl rfl rfl rfl rfl rfl) ?_
  refine walk_r rfl rfl rfl ((op_build (ps := [(0, .const (.int .i64 3)), (1, .const (.int .i64 1))]) rfl fl44 zr44 (vc (ev1 rfl) (vc (ev1 rfl) vn)) rfl rfl).wk (wk_op 3 1)) ?_
  refine walk_r rfl rfl rfl (op_bsr (ps := [(0, .tmp 22), (1, .tmp 23), (2, .tmp 25), (3, .tmp 26)]) rfl sl24 zr44 rfl (ec (ev1 rfl) (ec (ev1 rfl) (ec (ev1 rfl) (ec (ev1 rfl) en)))) rfl rfl rfl (by rfl) rfl (by decide) (by decide)) ?_
  refine walk_r rfl rfl rfl (dop_call [] [] [] rfl (ev1 rfl) (ec (ev1 rfl) (ec (ev1 rfl) en)) rfl rfl (w_run) rfl rfl rfl rfl rfl rfl) ?_
  refine walk_r rfl rfl rfl (op_move (.inl rfl) (ev1 rfl)) ?_
  refine walk_r rfl rfl rfl (op_ext rfl (ev1 rfl) rfl) ?_
  refine walk_r rfl rfl rfl (op_ext rfl (ev1 rfl) rfl) ?_
  refine walk_r rfl rfl rfl (op_ext rfl (ev1 rfl) rfl) ?_
  refine walk_w rfl rfl rfl (op_alloc 0 rfl zr26 rfl) (by simp only [upd, List.set_cons_zero, List.set_cons_succ]; exact rfl) ?_
  refine walk_s rfl rfl (op_stam rfl tb26 (ev1 rfl) (ev1 rfl) rfl rfl rfl rfl) (by simp only [upd, List.set_cons_zero, List.set_cons_succ]; exact rfl) ?_
  refine walk_r rfl rfl rfl (op_move (.inr rfl) (ev1 rfl)) ?_
  refine walk_r rfl rfl rfl (op_move (.inr rfl) (ev1 rfl)) ?_
  refine walk_nil ?_
  refine dwp_seq ?_
  refine dwp_region ?_
  refine walk_r rfl rfl rfl (op_ldmw rfl tb26 (ev1 rfl) rfl rfl) ?_
  refine walk_r rfl rfl rfl (dop_call [] [] [] rfl (ev1 rfl) (ec (ev1 rfl) (ec (ev1 rfl) en)) rfl rfl (w_read) rfl rfl rfl rfl rfl rfl) ?_
  refine walk_r rfl rfl rfl (op_move (.inl rfl) (ev1 rfl)) ?_
  refine walk_r rfl rfl rfl (op_ext rfl (ev1 rfl) rfl) ?_
  refine walk_r rfl rfl rfl (op_ext rfl (ev1 rfl) rfl) ?_
  refine walk_r rfl rfl rfl (op_move (.inr rfl) (ev1 rfl)) ?_
  refine walk_r rfl rfl rfl (op_move (.inr rfl) (ev1 rfl)) ?_
  refine walk_nil ?_
  refine dwp_seq ?_
  refine dwp_holes 1 (by simp only [holes, List.cons_append, List.nil_append]; exact rfl) ?_
  refine dwp_region ?_
  refine walk_r rfl rfl rfl (op_ldmw rfl tb26 (ev1 rfl) rfl rfl) ?_
  refine walk_r rfl rfl rfl (dop_call [] [] [] rfl (ev1 rfl) (ec (ev1 rfl) (ec (ev1 rfl) (ec (ev1 rfl) en))) rfl rfl (w_fall) rfl rfl rfl rfl rfl rfl) ?_
  refine walk_r rfl rfl rfl (op_move (.inl rfl) (ev1 rfl)) ?_
  refine walk_r rfl rfl rfl (op_ext rfl (ev1 rfl) rfl) ?_
  refine walk_r rfl rfl rfl (op_ext rfl (ev1 rfl) rfl) ?_
  refine walk_w rfl rfl rfl (op_alloc 1 rfl zr26 rfl) (by simp only [upd, List.set_cons_zero, List.set_cons_succ]; exact rfl) ?_
  refine walk_s rfl rfl (op_stam rfl tb26 (ev1 rfl) (ev1 rfl) rfl rfl rfl rfl) (by simp only [upd, List.set_cons_zero, List.set_cons_succ]; exact rfl) ?_
  refine walk_r rfl rfl rfl (op_move (.inr rfl) (ev1 rfl)) ?_
  refine walk_nil ?_
  refine dwp_seq ?_
  refine dwp_holes 1 (by simp only [holes, List.cons_append, List.nil_append]; exact rfl) ?_
  refine dwp_region ?_
  refine walk_r rfl rfl rfl (op_ldmw rfl tb26 (ev1 rfl) rfl rfl) ?_
  refine walk_r rfl rfl rfl (dop_call [] [] [] rfl (ev1 rfl) (ec (ev1 rfl) en) rfl rfl (w_rise) rfl rfl rfl rfl rfl rfl) ?_
  refine walk_r rfl rfl rfl (op_move (.inl rfl) (ev1 rfl)) ?_
  refine walk_r rfl rfl rfl (op_ext rfl (ev1 rfl) rfl) ?_
  refine walk_r rfl rfl rfl (op_ext rfl (ev1 rfl) rfl) ?_
  refine walk_w rfl rfl rfl (op_alloc 2 rfl zr26 rfl) (by simp only [upd, List.set_cons_zero, List.set_cons_succ]; exact rfl) ?_
  refine walk_s rfl rfl (op_stam rfl tb26 (ev1 rfl) (ev1 rfl) rfl rfl rfl rfl) (by simp only [upd, List.set_cons_zero, List.set_cons_succ]; exact rfl) ?_
  refine walk_r rfl rfl rfl (op_move (.inr rfl) (ev1 rfl)) ?_
  refine walk_nil ?_
  refine dwp_seq ?_
  refine dwp_region ?_
  refine walk_r rfl rfl rfl (op_ldmw rfl tb26 (ev1 rfl) rfl rfl) ?_
  refine walk_r rfl rfl rfl (dop_call [] [] [] rfl (ev1 rfl) (ec (ev1 rfl) (ec (ev1 rfl) en)) rfl rfl (w_read2) rfl rfl rfl rfl rfl rfl) ?_
  refine walk_r rfl rfl rfl (op_move (.inl rfl) (ev1 rfl)) ?_
  refine walk_r rfl rfl rfl (op_ext rfl (ev1 rfl) rfl) ?_
  refine walk_r rfl rfl rfl (op_ext rfl (ev1 rfl) rfl) ?_
  refine walk_r rfl rfl rfl (op_move (.inr rfl) (ev1 rfl)) ?_
  refine walk_r rfl rfl rfl (op_move (.inr rfl) (ev1 rfl)) ?_
  refine walk_nil ?_
  refine dwp_seq ?_
  refine dwp_holes 1 (by simp only [holes, List.cons_append, List.nil_append]; exact rfl) ?_
  refine dwp_region ?_
  refine walk_r rfl rfl rfl (dop_call [] [] [] rfl (ev1 rfl) en rfl rfl (newZ) rfl rfl rfl rfl rfl rfl) ?_
  refine walk_r rfl rfl rfl (dop_call [] [] [] rfl (ev1 rfl) (ec (ev1 rfl) (ec (ev1 rfl) en)) rfl rfl (w_arm) rfl rfl rfl rfl rfl rfl) ?_
  refine walk_r rfl rfl rfl (op_move (.inl rfl) (ev1 rfl)) ?_
  refine walk_r rfl rfl rfl (op_ext rfl (ev1 rfl) rfl) ?_
  refine walk_r rfl rfl rfl (op_ext rfl (ev1 rfl) rfl) ?_
  refine walk_w rfl rfl rfl (op_alloc 3 rfl zr26 rfl) (by simp only [upd, List.set_cons_zero, List.set_cons_succ]; exact rfl) ?_
  refine walk_s rfl rfl (op_stam rfl tb26 (ev1 rfl) (ev1 rfl) rfl rfl rfl rfl) (by simp only [upd, List.set_cons_zero, List.set_cons_succ]; exact rfl) ?_
  refine walk_r rfl rfl rfl (op_move (.inr rfl) (ev1 rfl)) ?_
  refine walk_nil ?_
  refine dwp_seq ?_
  refine dwp_holes 1 (by simp only [holes, List.cons_append, List.nil_append]; exact rfl) ?_
  refine dwp_draw [([3], []), ([], []), ([], []), ([], []), ([], []), ([], []), ([], []), ([], []), ([], []), ([], []), ([], []), ([4], [4]), ([4], [4]), ([], []), ([], [])] mixed (by kernel_rfl) ?_
  refine lex_r rfl rfl (op_ldmw rfl tb26 (ev1 rfl) rfl rfl) ?_
  refine lex_r rfl rfl (op_bs (ps := [(0, .const (.int .u8 1))]) rfl sl22 zr5 rfl (vc (ev1 rfl) vn) rfl (by decide) (by decide)) ?_
  refine lex_r rfl rfl (dop_call [] [] [] rfl (ev1 rfl) (ec (ev1 rfl) en) rfl rfl (put_d [1]) rfl rfl rfl rfl rfl rfl) ?_
  refine lex_r rfl rfl (op_bs (ps := [(0, .const (.int .u8 2))]) rfl sl22 zr5 rfl (vc (ev1 rfl) vn) rfl (by decide) (by decide)) ?_
  refine lex_r rfl rfl (dop_call [] [] [] rfl (ev1 rfl) (ec (ev1 rfl) en) rfl rfl (put_d [2]) rfl rfl rfl rfl rfl rfl) ?_
  refine lex_r rfl rfl (op_bsr (ps := [(0, .tmp 60), (1, .tmp 62)]) rfl sl24 zr44 rfl (ec (ev1 rfl) (ec (ev1 rfl) en)) rfl rfl rfl (by rfl) rfl (by decide) (by decide)) ?_
  refine lex_r rfl rfl (dop_call [] [] [] rfl (ev1 rfl) (ec (ev1 rfl) (ec (ev1 rfl) en)) rfl rfl (w_run2) rfl rfl rfl rfl rfl rfl) ?_
  refine lex_r rfl rfl (op_move (.inl rfl) (ev1 rfl)) ?_
  refine lex_r rfl rfl (op_ext rfl (ev1 rfl) rfl) ?_
  refine lex_r rfl rfl (op_ext rfl (ev1 rfl) rfl) ?_
  refine lex_r rfl rfl (op_ext rfl (ev1 rfl) rfl) ?_
  refine lex_w rfl rfl (op_alloc 4 rfl zr26 rfl) rfl (by simp only [upd, List.set_cons_zero, List.set_cons_succ]; exact rfl) ?_
  refine lex_s rfl rfl (op_stam rfl tb26 (ev1 rfl) (ev1 rfl) rfl rfl rfl rfl) rfl (by simp only [upd, List.set_cons_zero, List.set_cons_succ]; exact rfl) ?_
  refine lex_r rfl rfl (op_move (.inr rfl) (ev1 rfl)) ?_
  refine lex_r rfl rfl (op_move (.inr rfl) (ev1 rfl)) ?_
  refine lex_nil ?_
  refine dwp_seq ?_
  refine dwp_holes 1 (by simp only [holes, List.cons_append, List.nil_append]; exact rfl) ?_
  refine dwp_draw [([0], []), ([], []), ([], []), ([], []), ([], []), ([], []), ([5], [5]), ([5], [5]), ([], [])] mixed (by kernel_rfl) ?_
  refine lex_r rfl rfl (op_ldmw rfl tb26 (ev1 rfl) rfl rfl) ?_
  refine lex_r rfl rfl (dop_call [] [] [] rfl (ev1 rfl) (ec (ev1 rfl) en) rfl rfl (putZ) rfl rfl rfl rfl rfl rfl) ?_
  refine lex_r rfl rfl (dop_call [] [] [] rfl (ev1 rfl) (ec (ev1 rfl) (ec (ev1 rfl) en)) rfl rfl (w_do) rfl rfl rfl rfl rfl rfl) ?_
  refine lex_r rfl rfl (op_move (.inl rfl) (ev1 rfl)) ?_
  refine lex_r rfl rfl (op_ext rfl (ev1 rfl) rfl) ?_
  refine lex_r rfl rfl (op_ext rfl (ev1 rfl) rfl) ?_
  refine lex_w rfl rfl (op_alloc 5 rfl zr26 rfl) rfl (by simp only [upd, List.set_cons_zero, List.set_cons_succ]; exact rfl) ?_
  refine lex_s rfl rfl (op_stam rfl tb26 (ev1 rfl) (ev1 rfl) rfl rfl rfl rfl) rfl (by simp only [upd, List.set_cons_zero, List.set_cons_succ]; exact rfl) ?_
  refine lex_r rfl rfl (op_move (.inr rfl) (ev1 rfl)) ?_
  refine lex_nil ?_
  refine dwp_seq ?_
  refine dwp_region ?_
  refine walk_r rfl rfl rfl (op_move (.inl rfl) (ev1 rfl)) ?_
  refine walk_r rfl rfl rfl (op_eql rfl (ev1 rfl) (ev1 rfl)) ?_
  refine walk_r rfl rfl rfl (op_move (.inl rfl) (ev1 rfl)) ?_
  refine walk_gr (gd_t rfl rfl rfl) rfl rfl rfl (op_move (.inl rfl) (ev1 rfl)) ?_
  refine walk_gr (gd_t rfl rfl rfl) rfl rfl rfl (op_eql rfl (ev2 rfl) (ev1 rfl)) ?_
  refine walk_r rfl rfl rfl (op_and rfl (ev1 rfl) (ev3 rfl id)) ?_
  refine walk_r rfl rfl rfl (op_move (.inl rfl) (ev1 rfl)) ?_
  refine walk_gr (gd_t rfl rfl rfl) rfl rfl rfl (op_move (.inl rfl) (ev1 rfl)) ?_
  refine walk_gr (gd_t rfl rfl rfl) rfl rfl rfl (op_eql rfl (ev2 rfl) (ev1 rfl)) ?_
  refine walk_r rfl rfl rfl (op_and rfl (ev1 rfl) (ev3 rfl id)) ?_
  refine walk_r rfl rfl rfl (op_move (.inl rfl) (ev1 rfl)) ?_
  refine walk_gr (gd_t rfl rfl rfl) rfl rfl rfl (op_move (.inl rfl) (ev1 rfl)) ?_
  refine walk_gr (gd_t rfl rfl rfl) rfl rfl rfl (op_eql rfl (ev2 rfl) (ev1 rfl)) ?_
  refine walk_r rfl rfl rfl (op_and rfl (ev1 rfl) (ev3 rfl id)) ?_
  refine walk_r rfl rfl rfl (op_move (.inl rfl) (ev1 rfl)) ?_
  refine walk_gr (gd_t rfl rfl rfl) rfl rfl rfl (op_move (.inl rfl) (ev1 rfl)) ?_
  refine walk_gr (gd_t rfl rfl rfl) rfl rfl rfl (op_eql rfl (ev2 rfl) (ev1 rfl)) ?_
  refine walk_r rfl rfl rfl (op_and rfl (ev1 rfl) (ev3 rfl id)) ?_
  refine walk_r rfl rfl rfl (op_move (.inl rfl) (ev1 rfl)) ?_
  refine walk_gr (gd_t rfl rfl rfl) rfl rfl rfl (op_move (.inl rfl) (ev1 rfl)) ?_
  refine walk_gr (gd_t rfl rfl rfl) rfl rfl rfl (op_eql rfl (ev2 rfl) (ev1 rfl)) ?_
  refine walk_r rfl rfl rfl (op_and rfl (ev1 rfl) (ev3 rfl id)) ?_
  refine walk_r rfl rfl rfl (op_move (.inl rfl) (ev1 rfl)) ?_
  refine walk_gr (gd_t rfl rfl rfl) rfl rfl rfl (op_move (.inl rfl) (ev1 rfl)) ?_
  refine walk_gr (gd_t rfl rfl rfl) rfl rfl rfl (op_eql rfl (ev2 rfl) (ev1 rfl)) ?_
  refine walk_r rfl rfl rfl (op_and rfl (ev1 rfl) (ev3 rfl id)) ?_
  refine walk_r rfl rfl rfl (op_move (.inl rfl) (ev1 rfl)) ?_
  refine walk_gr (gd_t rfl rfl rfl) rfl rfl rfl (op_move (.inl rfl) (ev1 rfl)) ?_
  refine walk_gr (gd_t rfl rfl rfl) rfl rfl rfl (op_eql rfl (ev2 rfl) (ev1 rfl)) ?_
  refine walk_r rfl rfl rfl (op_and rfl (ev1 rfl) (ev3 rfl id)) ?_
  refine walk_r rfl rfl rfl (op_move (.inl rfl) (ev1 rfl)) ?_
  refine walk_gr (gd_t rfl rfl rfl) rfl rfl rfl (op_move (.inl rfl) (ev1 rfl)) ?_
  refine walk_gr (gd_t rfl rfl rfl) rfl rfl rfl (op_eql rfl (ev2 rfl) (ev1 rfl)) ?_
  refine walk_r rfl rfl rfl (op_and rfl (ev1 rfl) (ev3 rfl id)) ?_
  refine walk_r rfl rfl rfl (op_move (.inl rfl) (ev1 rfl)) ?_
  refine walk_gr (gd_t rfl rfl rfl) rfl rfl rfl (op_move (.inl rfl) (ev1 rfl)) ?_
  refine walk_gr (gd_t rfl rfl rfl) rfl rfl rfl (op_eql rfl (ev2 rfl) (ev1 rfl)) ?_
  refine walk_r rfl rfl rfl (op_and rfl (ev1 rfl) (ev3 rfl id)) ?_
  refine walk_r rfl rfl rfl (op_move (.inl rfl) (ev1 rfl)) ?_
  refine walk_gr (gd_t rfl rfl rfl) rfl rfl rfl (op_move (.inl rfl) (ev1 rfl)) ?_
  refine walk_gr (gd_t rfl rfl rfl) rfl rfl rfl (op_bs (ps := [(0, .const (.int .u8 1)), (1, .const (.int .u8 2)), (2, .const (.int .u8 3)), (3, .const (.int .u8 4))]) rfl sl22 zr5 rfl (vc (ev1 rfl) (vc (ev1 rfl) (vc (ev1 rfl) (vc (ev1 rfl) vn)))) rfl (by decide) (by decide)) ?_
  refine walk_gr (gd_t rfl rfl rfl) rfl rfl rfl (dop_call [] [] [] rfl (ev1 rfl) (ec (ev2 rfl) (ec (ev2 rfl) en)) rfl rfl (equalN [1, 2, 3, 4] [1, 2, 3, 4]) rfl rfl rfl rfl rfl rfl) ?_
  refine walk_r rfl rfl rfl (op_and rfl (ev1 rfl) (ev3 rfl id)) ?_
  refine walk_r rfl rfl rfl (op_move (.inl rfl) (ev1 rfl)) ?_
  refine walk_gr (gd_t rfl rfl rfl) rfl rfl rfl (op_ldmw rfl tb26 (ev1 rfl) rfl rfl) ?_
  refine walk_gr (gd_t rfl rfl rfl) rfl rfl rfl (dop_call [] [] [] rfl (ev1 rfl) (ec (ev2 rfl) en) rfl rfl (w_head) rfl rfl rfl rfl rfl rfl) ?_
  refine walk_gr (gd_t rfl rfl rfl) rfl rfl rfl (op_eql rfl (ev2 rfl) (ev1 rfl)) ?_
  refine walk_r rfl rfl rfl (op_and rfl (ev1 rfl) (ev3 rfl id)) ?_
  refine walk_r rfl rfl rfl (op_move (.inl rfl) (ev1 rfl)) ?_
  refine walk_gr (gd_t rfl rfl rfl) rfl rfl rfl (op_move (.inl rfl) (ev1 rfl)) ?_
  refine walk_gr (gd_t rfl rfl rfl) rfl rfl rfl (op_bs (ps := [(0, .const (.int .u8 1)), (1, .const (.int .u8 2)), (2, .const (.int .u8 3))]) rfl sl22 zr5 rfl (vc (ev1 rfl) (vc (ev1 rfl) (vc (ev1 rfl) vn))) rfl (by decide) (by decide)) ?_
  refine walk_gr (gd_t rfl rfl rfl) rfl rfl rfl (dop_call [] [] [] rfl (ev1 rfl) (ec (ev2 rfl) (ec (ev2 rfl) en)) rfl rfl (equalN [1, 2, 3] [1, 2, 3]) rfl rfl rfl rfl rfl rfl) ?_
  refine walk_r rfl rfl rfl (op_and rfl (ev1 rfl) (ev3 rfl id)) ?_
  refine walk_r rfl rfl rfl (op_move (.inl rfl) (ev1 rfl)) ?_
  refine walk_gr (gd_t rfl rfl rfl) rfl rfl rfl (op_ldmw rfl tb26 (ev1 rfl) rfl rfl) ?_
  refine walk_gr (gd_t rfl rfl rfl) rfl rfl rfl (dop_call [] [] [] rfl (ev1 rfl) (ec (ev2 rfl) en) rfl rfl (w_head2) rfl rfl rfl rfl rfl rfl) ?_
  refine walk_gr (gd_t rfl rfl rfl) rfl rfl rfl (op_eql rfl (ev2 rfl) (ev1 rfl)) ?_
  refine walk_r rfl rfl rfl (op_and rfl (ev1 rfl) (ev3 rfl id)) ?_
  refine walk_r rfl rfl rfl (op_move (.inl rfl) (ev1 rfl)) ?_
  refine walk_gr (gd_t rfl rfl rfl) rfl rfl rfl (op_fa rfl fo26_3 (ev1 rfl)) ?_
  refine walk_gr (gd_t rfl rfl rfl) rfl rfl rfl (op_ldm rfl tb4 (ev2 rfl) rfl rfl) ?_
  refine walk_r rfl rfl rfl (op_and rfl (ev1 rfl) (ev3 rfl id)) ?_
  refine walk_r rfl rfl rfl (op_move (.inl rfl) (ev1 rfl)) ?_
  refine walk_gr (gd_t rfl rfl rfl) rfl rfl rfl (op_fa rfl fo26_3 (ev1 rfl)) ?_
  refine walk_gr (gd_t rfl rfl rfl) rfl rfl rfl (op_ldm rfl tb4 (ev2 rfl) rfl rfl) ?_
  refine walk_gr (gd_t rfl rfl rfl) rfl rfl rfl (op_not rfl (ev2 rfl)) ?_
  refine walk_r rfl rfl rfl (op_and rfl (ev1 rfl) (ev3 rfl id)) ?_
  refine walk_r rfl rfl rfl (op_move (.inr rfl) (ev1 rfl)) ?_
  refine walk_nil ?_
  refine dwp_ret ?_
  refine kend0 (rs1 rfl (rv_t rfl)) rfl ?_
  rfl
end Go.Proofs.Ytjecmkaggobcjaa

namespace Go.Proofs.Ytjecmkaggobcjaa
set_option linter.unusedVariables false
set_option linter.unusedSimpArgs false
open Go.RowKit
def ownK (f : Nat → List Nat) (h : Int) (w : List DOpn) (dn : Bool) (fu : Int) : DkS := ⟨ownF f, h, opsL w, dn, fu⟩
abbrev syO : DOpn := ⟨4, 0, []⟩
def syS (d : DkS) : DkS := ⟨seF d.f d.w, seH d.h d.w, [], d.dn, fuB d.fu⟩
theorem okS_sy (d : DkS) : okS d syO = syS d := by unfold okS; rw [if_pos rfl]; rfl
theorem opE_sy {d : DkS} (h1 : d.dn = false) (h2 : d.fu ≠ 1) : opE d syO = 0 := by
  unfold opE
  rw [if_neg (by decide), if_neg (by rw [h1]; decide), if_neg (fun h => h.1 rfl), if_neg h2]
theorem syS_ok {d : DkS} (hd : d.ok) (h1 : d.dn = false) (h2 : d.fu ≠ 1) : (syS d).ok := by
  rw [← okS_sy]; exact ok_step hd (opE_sy h1 h2)
theorem syncD (d : DkS) (hd : d.ok) (h1 : d.dn = false) (h2 : d.fu ≠ 1) : DFun Try.prog 23 [d.d, .agg (oD syO)] [] (.tup [(syS d).d, .val (.int .i64 0)]) [] := by
  have h := doZ_ok d syO hd (by decide) (opE_sy h1 h2)
  rw [okS_sy] at h
  exact h
theorem headZ (d : DkS) (hd : d.ok) : DFun Try.prog 16 [d.d] [] (.val (.int .i64 (seH d.h d.w))) [] := by
  have h := head_d d.f d.h d.w d.dn d.fu (few_of hd)
  rw [if_pos (show chkB d.f d.h d.w d.dn d.fu = true from hd), ← seH_head d.w d.h (chk_parts hd).2.2.1] at h
  exact h
theorem readI (d : DkS) (hd : d.ok) (i : Nat) (hi : i < 4) : DFun Try.prog 18 [d.d, .val (.int .i64 (i : Int))] [] (.tup [rB (seF d.f d.w i), .val (.int .i64 0)]) [] := by
  have h := readZ d hd (i : Int) (by unfold fileB; simp; omega)
  rw [seF_seen i d.w d.f (chk_parts hd).2.2.1]
  exact h
theorem sizeI (d : DkS) (hd : d.ok) (i : Nat) (hi : i < 4) : DFun Try.prog 21 [d.d, .val (.int .i64 (i : Int))] [] (.val (.int .i64 ((seF d.f d.w i).length : Int))) [] := by
  have h := size_d d.f d.h d.w d.dn d.fu (i : Int) (few_of hd)
  rw [if_pos (by rw [show chkB d.f d.h d.w d.dn d.fu = true from hd]; unfold fileB; simp; omega)] at h
  rw [seF_len (chk_parts hd).2.2.1 hi]
  exact h
def cutW (d : DkS) (w : List DOpn) : DkS := ⟨d.f, d.h, w, d.dn, d.fu⟩
theorem cut_ok {d : DkS} (hd : d.ok) (k : Nat) : (cutW d (d.w.take k)).ok := by
  obtain ⟨h1, h2, h3, h4⟩ := chk_parts hd
  obtain ⟨g1, g2, g3, g4⟩ := chk0_parts h1
  refine chk_join (chk0_join g1 g2 g3 (by show (d.w.take k).length ≤ _; rw [List.length_take]; omega)) h2 (fun o ho => h3 o (List.mem_of_mem_take ho)) (szB_all fun j hj => ?_)
  have hj' : j < (d.w.take k).length := hj
  have hjk : j < k ∧ j < d.w.length := by rw [List.length_take] at hj'; omega
  show (afts (szs d.f) ((d.w.take k).take (j + 1))).getD ((d.w.take k)[j]).fl.toNat 0 ≤ _
  rw [List.take_take, Nat.min_eq_left (by omega), List.getElem_take]
  exact of_decide_eq_true h4 j hjk.2
theorem mayO_of {o : DOpn} (h : mayW o = true) : mayO o = true := by unfold mayO; rw [h]; rfl
theorem fullB_join {d : DkS} {o : DOpn} (h1 : o.kd = 1 → (afts (szs d.f) d.w).getD o.fl.toNat 0 + o.b.length ≤ 4194304) (h2 : d.w.length < 4096) : fullB d o = false := by
  unfold fullB
  rw [decide_eq_true h2]
  by_cases k1 : o.kd = 1
  · have h3 := h1 k1
    have e : decide (4194304 < (afts (szs d.f) d.w).getD o.fl.toNat 0 + o.b.length) = false := decide_eq_false (by omega)
    rw [e]; simp
  · rw [decide_eq_false k1]; rfl
theorem opE_join {d : DkS} {o : DOpn} (h1 : mayO o = true) (h2 : d.dn = false) (h3 : o.kd = 4 ∨ fullB d o = false) (h4 : d.fu ≠ 1) : opE d o = 0 := by
  unfold opE
  rw [if_neg (by rw [h1]; decide), if_neg (by rw [h2]; decide), if_neg (fun h => h3.elim h.1 fun e => by rw [h.2] at e; cases e), if_neg h4]
theorem sz_at {d : DkS} (hd : d.ok) {k : Nat} (hk : k < d.w.length) (k1 : d.w[k].kd = 1) : (afts (szs d.f) (d.w.take k)).getD (d.w[k]).fl.toNat 0 + d.w[k].b.length ≤ 4194304 := by
  obtain ⟨h1, h2, h3, h4⟩ := chk_parts hd
  have := of_decide_eq_true h4 k hk
  rw [afts_succ hk, aft_1 k1 (by rw [afts_len]; show _ < 4; have := (mayW_in (h3 _ (List.getElem_mem hk))).2; omega)] at this
  exact this
theorem front_E {d : DkS} (hd : d.ok) (h1 : d.dn = false) (h2 : d.fu ≠ 1) {k : Nat} (hk : k < d.w.length) : opE (cutW d (d.w.take k)) d.w[k] = 0 :=
  opE_join (mayO_of ((chk_parts hd).2.2.1 _ (List.getElem_mem hk))) h1 (.inr (fullB_join (fun k1 => sz_at hd hk k1) (by show (d.w.take k).length < _; rw [List.length_take]; have := (chk0_parts (chk_parts hd).1).2.2.2; omega))) h2
theorem torn_may {o : DOpn} {t : Nat} (h : mayW o = true) (k1 : o.kd = 1) (ht : t ≠ 0) : mayW (tornO o t) = true := by
  have hl : 0 < o.b.length := by
    unfold mayW at h
    simp only [Bool.and_eq_true] at h
    have h2 := h.2
    rw [show (o.kd == 1) = true by simp [k1]] at h2
    have : decide (0 < (o.b.length : Int)) = true := by simpa using h2.symm
    simpa using this
  have hl2 : 0 < (tornO o t).b.length := by show 0 < (o.b.take (min t o.b.length)).length; rw [List.length_take]; omega
  unfold mayW at h ⊢
  simp only [Bool.and_eq_true] at h ⊢
  refine ⟨h.1, ?_⟩
  show ((o.kd == 1) == decide (0 < ((tornO o t).b.length : Int))) = true
  have e : decide (0 < ((tornO o t).b.length : Int)) = true := decide_eq_true (by omega)
  rw [e, show (o.kd == 1) = true by simp [k1]]; rfl
theorem torn_E {d : DkS} (hd : d.ok) (h1 : d.dn = false) (h2 : d.fu ≠ 1) {k t : Nat} (hk : k < d.w.length) (k1 : d.w[k].kd = 1) (ht : t ≠ 0) : opE (cutW d (d.w.take k)) (tornO d.w[k] t) = 0 := by
  refine opE_join (mayO_of (torn_may ((chk_parts hd).2.2.1 _ (List.getElem_mem hk)) k1 ht)) h1 (.inr (fullB_join (fun _ => ?_) (by show (d.w.take k).length < _; rw [List.length_take]; have := (chk0_parts (chk_parts hd).1).2.2.2; omega))) h2
  have := sz_at hd hk k1
  have hl : (tornO d.w[k] t).b.length ≤ d.w[k].b.length := by show (d.w[k].b.take (min t d.w[k].b.length)).length ≤ _; rw [List.length_take]; omega
  show (afts (szs d.f) (d.w.take k)).getD (d.w[k]).fl.toNat 0 + (tornO d.w[k] t).b.length ≤ 4194304
  omega
def frontW (w : List DOpn) (keep t : Nat) : List DOpn := match w[keep]? with
  | some o => if o.kd = 1 ∧ t ≠ 0 then w.take keep ++ [tornO o t] else w.take keep
  | none => w.take keep
theorem seF_app (f : Nat → List Nat) (w : List DOpn) (o : DOpn) : seF f (w ++ [o]) = doF (seF f w) o := by unfold seF; rw [List.foldl_append]; rfl
theorem seH_app (h : Int) (w : List DOpn) (o : DOpn) : seH h (w ++ [o]) = doH (seH h w) o := by unfold seH; rw [List.foldl_append]; rfl
theorem front_f (f : Nat → List Nat) (w : List DOpn) (keep t : Nat) : fallF f w keep t = seF f (frontW w keep t) := by
  unfold fallF frontW
  cases e : w[keep]? with
  | none => rfl
  | some o =>
    show (if o.kd = 1 then _ else _) = seF f (if o.kd = 1 ∧ t ≠ 0 then _ else _)
    by_cases k1 : o.kd = 1
    · rw [if_pos k1]
      by_cases ht : t = 0
      · rw [if_neg (fun h => h.2 ht)]
        subst ht
        unfold doF
        rw [if_pos (by exact k1)]
        funext i
        show (if i = o.fl.toNat then _ else _) = _
        by_cases ei : i = o.fl.toNat
        · rw [if_pos ei, ei]
          show _ ++ o.b.take (min 0 o.b.length) = _
          simp [tornO]
        · rw [if_neg ei]
      · rw [if_pos ⟨k1, ht⟩, seF_app]
    · rw [if_neg k1, if_neg (fun h => k1 h.1)]
theorem front_h (h : Int) (w : List DOpn) (keep t : Nat) : seH h (w.take keep) = seH h (frontW w keep t) := by
  unfold frontW
  cases e : w[keep]? with
  | none => rfl
  | some o =>
    show _ = seH h (if o.kd = 1 ∧ t ≠ 0 then _ else _)
    by_cases k1 : o.kd = 1 ∧ t ≠ 0
    · rw [if_pos k1, seH_app]
      unfold doH
      rw [if_pos (by exact k1.1)]
    · rw [if_neg k1]
theorem run_ok0 {d : DkS} (hd : d.ok) : (⟨d.f, d.h, d.w, false, 0⟩ : DkS).ok := by
  obtain ⟨h1, h2, h3, h4⟩ := chk_parts hd
  obtain ⟨g1, g2, g3, g4⟩ := chk0_parts h1
  exact chk_join (chk0_join g1 (show (0 : Int) ≤ 0 ∧ (0 : Int) ≤ 4096 by decide) (fun e => by cases e) g4) h2 h3 h4
theorem front_ok {d : DkS} (hd : d.ok) (keep t : Nat) : (cutW d (frontW d.w keep t)).ok := by
  unfold frontW
  cases e : d.w[keep]? with
  | none => exact cut_ok hd keep
  | some o =>
    show (cutW d (if o.kd = 1 ∧ t ≠ 0 then _ else _)).ok
    by_cases k1 : o.kd = 1 ∧ t ≠ 0
    · rw [if_pos k1]
      obtain ⟨hk, rfl⟩ := List.getElem?_eq_some_iff.1 e
      have h5 := ok_step (cut_ok (run_ok0 hd) keep) (torn_E (run_ok0 hd) rfl (by show (0 : Int) ≠ 1; decide) hk k1.1 k1.2)
      unfold okS at h5
      rw [if_neg (by show ¬ d.w[keep].kd = 4; omega)] at h5
      obtain ⟨h1, h2, h3, h4⟩ := chk_parts h5
      obtain ⟨g1, g2, g3, g4⟩ := chk0_parts h1
      obtain ⟨q1, q2, q3, q4⟩ := chk0_parts (chk_parts hd).1
      exact chk_join (chk0_join g1 q2 q3 g4) h2 h3 h4
    · rw [if_neg k1]; exact cut_ok hd keep
theorem settled_ok {d : DkS} (hd : d.ok) {dn : Bool} {fu : Int} (h1 : 0 ≤ fu ∧ fu ≤ 4096) (h2 : dn = true → fu = 0) : (⟨seF d.f d.w, seH d.h d.w, [], dn, fu⟩ : DkS).ok := by
  obtain ⟨p1, p2, p3, p4⟩ := chk_parts hd
  obtain ⟨g1, g2, g3, g4⟩ := chk0_parts p1
  have hmax := afts_max p2 p4
  refine chk_join (chk0_join (seH_in _ _ g1 p3) h1 h2 (Nat.zero_le _)) (allF_yes fun i hi => ?_) (fun o ho => absurd ho List.not_mem_nil) (szB_all fun k hk => absurd hk (Nat.not_lt_zero k))
  show ((seF d.f d.w i).length : Int) ≤ _
  rw [seF_len p3 hi]
  have := hmax d.w.length (Nat.le_refl _) i
  rw [List.take_length] at this
  omega
theorem fall_ok {d : DkS} (hd : d.ok) (keep t : Nat) : (fallS d keep t).ok := by
  have h := settled_ok (front_ok hd keep t) (dn := true) (fu := 0) ⟨by decide, by decide⟩ (fun _ => rfl)
  unfold fallS
  rw [front_f, front_h d.h d.w keep t]
  exact h
theorem isN_setB {b : List Nat} {o : DOpn} (h1 : isN b) (h2 : isN o.b) : isN (setB b o) := by
  unfold setB
  split
  · exact fun x hx => (List.mem_append.1 hx).elim (h1 x) (h2 x)
  · split
    · exact fun x hx => absurd hx List.not_mem_nil
    · exact h1
theorem isN_seF : ∀ (w : List DOpn) (f : Nat → List Nat), (∀ o ∈ w, mayW o = true) → (∀ i, i < 4 → isN (f i)) → (∀ o ∈ w, isN o.b) → ∀ i, i < 4 → isN (seF f w i)
  | [], _, _, hf, _ => hf
  | o :: w, f, hm, hf, hw => isN_seF w (doF f o) (fun q hq => hm q (List.mem_cons_of_mem _ hq)) (fun i hi => by
    rw [doF_at (hm o (List.mem_cons_self ..))]
    split
    · exact isN_setB (hf i hi) (hw o (List.mem_cons_self ..))
    · exact hf i hi) fun q hq => hw q (List.mem_cons_of_mem _ hq)
theorem isN_own {f : Nat → List Nat} (h : ∀ i, i < 4 → isN (f i)) : ∀ i, i < 4 → isN (ownF f i) := fun i hi x hx => h i hi x (List.mem_of_mem_take hx)
theorem isN_ops {w : List DOpn} (h : ∀ o ∈ w, isN o.b) : ∀ o ∈ opsL w, isN o.b := fun o ho x hx => by
  obtain ⟨q, hq, rfl⟩ := List.mem_map.1 ho
  exact h q (List.mem_of_mem_take hq) x (List.mem_of_mem_take hx)
theorem isN_front {w : List DOpn} (h : ∀ o ∈ w, isN o.b) (K T : Nat) : ∀ o ∈ frontW w K T, isN o.b := by
  unfold frontW
  cases e : w[K]? with
  | none => exact fun o ho => h o (List.mem_of_mem_take ho)
  | some q =>
    show ∀ o ∈ (if q.kd = 1 ∧ T ≠ 0 then _ else _), _
    have hq := List.mem_of_getElem? e
    split
    · intro o ho
      rcases List.mem_append.1 ho with ho | ho
      · exact h o (List.mem_of_mem_take ho)
      · rw [List.mem_singleton.1 ho]
        exact fun x hx => h q hq x (List.mem_of_mem_take hx)
    · exact fun o ho => h o (List.mem_of_mem_take ho)
def frK (w : List DOpn) (K T k : Nat) : List DOpn := if k ≤ K then w.take k else frontW w K T
theorem frK_end {w : List DOpn} {K T k : Nat} (h : k = w.length) (hk : k ≤ K + 1) : frK w K T k = frontW w K T := by
  unfold frK
  by_cases e : k ≤ K
  · rw [if_pos e]
    unfold frontW
    rw [List.getElem?_eq_none (by omega), List.take_of_length_le (by omega), List.take_of_length_le (by omega)]
  · rw [if_neg e]
theorem frK_stop {w : List DOpn} {K T : Nat} (hk : K < w.length) (h : ¬ (w[K].kd = 1 ∧ T ≠ 0)) : frK w K T K = frontW w K T := by
  unfold frK frontW
  rw [if_pos (Nat.le_refl K), List.getElem?_eq_getElem hk]
  show _ = if _ then _ else _
  rw [if_neg h]
theorem frontD1 (d : DkS) (hd : d.ok) (h1 : d.dn = false) (h2 : d.fu = 0) (K T : Nat) {k : Nat} (hk : k < d.w.length) (hkK : k < K) (hob : d.w[k].b.length ≤ 10000000) : DFun Try.prog 23 [(cutW d (frK d.w K T k)).d, .agg (oD d.w[k])] [] (.tup [(cutW d (frK d.w K T (k + 1))).d, .val (.int .i64 0)]) [] := by
  have e1 : frK d.w K T k = d.w.take k := by unfold frK; rw [if_pos (by omega)]
  have e2 : frK d.w K T (k + 1) = d.w.take k ++ [d.w[k]] := by unfold frK; rw [if_pos (by omega), List.take_succ_eq_append_getElem hk]
  rw [e1, e2]
  have h := doZ_ok (cutW d (d.w.take k)) d.w[k] (cut_ok hd k) hob (front_E hd h1 (by rw [h2]; decide) hk)
  have hm := (mayW_in ((chk_parts hd).2.2.1 _ (List.getElem_mem hk))).1
  unfold okS at h
  rw [if_neg (by omega)] at h
  have e3 : fuB d.fu = d.fu := by rw [h2]; rfl
  have h' : DFun Try.prog 23 [(cutW d (d.w.take k)).d, .agg (oD d.w[k])] [] (.tup [.agg (dD d.f d.h (d.w.take k ++ [d.w[k]]) d.dn (fuB d.fu)), .val (.int .i64 0)]) [] := h
  rw [e3] at h'
  exact h'
theorem frontD2 (d : DkS) (hd : d.ok) (h1 : d.dn = false) (h2 : d.fu = 0) (K T : Nat) (hk : K < d.w.length) (k1 : d.w[K].kd = 1) (ht : T ≠ 0) (hob : d.w[K].b.length ≤ 10000000) : DFun Try.prog 23 [(cutW d (frK d.w K T K)).d, .agg (oD (tornO d.w[K] T))] [] (.tup [(cutW d (frK d.w K T (K + 1))).d, .val (.int .i64 0)]) [] := by
  have e1 : frK d.w K T K = d.w.take K := by unfold frK; rw [if_pos (by omega)]
  have e2 : frK d.w K T (K + 1) = d.w.take K ++ [tornO d.w[K] T] := by
    unfold frK frontW
    rw [if_neg (by omega), List.getElem?_eq_getElem hk]
    show (if _ then _ else _) = _
    rw [if_pos ⟨k1, ht⟩]
  rw [e1, e2]
  have h := doZ_ok (cutW d (d.w.take K)) (tornO d.w[K] T) (cut_ok hd K) (by show (d.w[K].b.take (min T d.w[K].b.length)).length ≤ _; rw [List.length_take]; omega) (torn_E hd h1 (by rw [h2]; decide) hk k1 ht)
  unfold okS at h
  rw [if_neg (by show ¬ d.w[K].kd = 4; omega)] at h
  have e3 : fuB d.fu = d.fu := by rw [h2]; rfl
  have h' : DFun Try.prog 23 [(cutW d (d.w.take K)).d, .agg (oD (tornO d.w[K] T))] [] (.tup [.agg (dD d.f d.h (d.w.take K ++ [tornO d.w[K] T]) d.dn (fuB d.fu)), .val (.int .i64 0)]) [] := h
  rw [e3] at h'
  exact h'
end Go.Proofs.Ytjecmkaggobcjaa

namespace Go.Proofs.Ytjecmkaggobcjaa
set_option linter.unusedVariables false
set_option linter.unusedSimpArgs false
open Go.RowKit
theorem frb_t {w : List DOpn} {K T k : Nat} (hk : k < w.length) (hk1 : k ≤ K + 1) (h : (decide ((K : Int) < (k : Int)) || (((k : Int) == (K : Int)) && ((w[k].kd != 1) || ((T : Int) == 0)))) = true) : frK w K T k = frontW w K T := by
  by_cases e : k = K
  · subst e
    refine frK_stop hk fun hh => ?_
    rw [decide_eq_false (by omega)] at h
    have h2 : ¬ T = 0 := hh.2
    simp [hh.1, h2] at h
  · have : ¬ k ≤ K := fun hle => by
      rw [decide_eq_false (by omega)] at h
      have : ((k : Int) == (K : Int)) = false := by simp; omega
      rw [this] at h
      cases h
    unfold frK
    rw [if_neg this]
theorem frb_f {K T k : Nat} {kd : Int} (h : (decide ((K : Int) < (k : Int)) || (((k : Int) == (K : Int)) && ((kd != 1) || ((T : Int) == 0)))) = false) : k ≤ K ∧ (k = K → kd = 1 ∧ T ≠ 0) := by
  simp only [Bool.or_eq_false_iff, decide_eq_false_iff_not, Bool.and_eq_false_iff] at h
  refine ⟨by omega, fun e => ?_⟩
  subst e
  rcases h.2 with h2 | h2
  · simp at h2
  · refine ⟨by simpa using h2.1, fun e => ?_⟩
    rw [e] at h2
    simp at h2
theorem frontD3 (d : DkS) (hd : d.ok) (h1 : d.dn = false) (h2 : d.fu = 0) (K T : Nat) {k : Nat} (hk : k < d.w.length) (e : k = K) (h3 : k = K → d.w[k].kd = 1 ∧ T ≠ 0) (hob : d.w[k].b.length ≤ 10000000) : DFun Try.prog 23 [(cutW d (frK d.w K T k)).d, .agg (oD (tornO d.w[k] T))] [] (.tup [(cutW d (frK d.w K T (k + 1))).d, .val (.int .i64 0)]) [] := by
  subst e
  exact frontD2 d hd h1 h2 k T hk (h3 rfl).1 (h3 rfl).2 hob
theorem ops_small {w : List DOpn} : ∀ o ∈ opsL w, o.b.length ≤ 10000000 := fun o ho => by
  obtain ⟨q, _, rfl⟩ := List.mem_map.1 ho
  have := cutOn q
  omega
theorem fronts_cond {e : Bool} {a b fu : Int} {dn : Bool} (h : ((((((if e = true then (0 : Int) else 320) != 0) || decide (a < 0)) || decide (b < 0)) || dn) || decide (0 < fu)) = false) : e = true ∧ (0 ≤ a ∧ 0 ≤ b) ∧ dn = false ∧ fu ≤ 0 := by
  cases e <;> cases dn <;> simp at h ⊢
  omega
set_option maxRecDepth 4000 in
set_option maxHeartbeats 1000000 in
theorem fronts_d (f : Nat → List Nat) (h : Int) (w : List DOpn) (dn : Bool) (fu : Int) (hNf : ∀ i, i < 4 → isN (f i)) (hNw : ∀ o ∈ w, isN o.b) (keep torn : Int) : DFun Try.prog 7 [.agg (dD f h w dn fu), .val (.int .i64 keep), .val (.int .i64 torn)] [] (.val (.bool true)) [] := by
  refine dcalls_go (N := 206) 0 (by kernel_rfl) Try.func7 rfl rfl rfl (by simp only [fr0, Nat.zero_add, Nat.reduceAdd]; exact rfl) rfl fun s0 hs0 => ?_
  refine dwp_seq ?_
  refine dwp_region ?_
  refine walk_r rfl rfl rfl (op_boxf rfl rfl (ev1 rfl)) ?_
  refine walk_r rfl rfl rfl (op_move (.inr rfl) (ev1 rfl)) ?_
  refine walk_nil ?_
  refine dwp_seq ?_
  refine dwp_seq ?_
  refine dwp_region ?_
  refine walk_r rfl rfl rfl (dop_call [] [] [] rfl (ev1 rfl) en rfl rfl (wakes_d) rfl rfl rfl rfl rfl rfl) ?_
  refine walk_r rfl rfl rfl (op_not rfl (ev1 rfl)) ?_
  refine walk_nil ?_
  refine dwp_if_f rfl (rfl) ?_
  refine dwp_skip ?_
  refine dwp_seq ?_
  refine dwp_holes 1 (by simp only [holes, List.cons_append, List.nil_append]; exact rfl) ?_
  refine dwp_region ?_
  refine walk_r rfl rfl rfl (op_lddr rfl tb26 (ev1 rfl) rfl rfl) ?_
  refine walk_r rfl rfl rfl (dop_call [] [] [] rfl (ev1 rfl) (ec (ev1 rfl) en) rfl rfl (own_d f h w dn fu) rfl rfl rfl rfl rfl rfl) ?_
  refine walk_w rfl rfl rfl (op_alloc 0 rfl zr26 rfl) (by simp only [upd, List.set_cons_zero, List.set_cons_succ]; exact rfl) ?_
  refine walk_s rfl rfl (op_stam rfl tb26 (ev1 rfl) (ev1 rfl) rfl rfl rfl rfl) (by simp only [upd, List.set_cons_zero, List.set_cons_succ]; exact rfl) ?_
  refine walk_nil ?_
  refine dwp_seq ?_
  refine dwp_seq ?_
  refine dwp_region ?_
  refine walk_r rfl rfl rfl (op_ldmw rfl tb26 (ev1 rfl) rfl rfl) ?_
  refine walk_r rfl rfl rfl (dop_call [] [] [] rfl (ev1 rfl) (ec (ev1 rfl) en) rfl rfl (check_d (ownF f) h (opsL w) dn fu (own_few f w)) rfl rfl rfl rfl rfl rfl) ?_
  refine walk_r rfl rfl rfl (op_neq rfl (ev1 rfl) (ev1 rfl)) ?_
  refine walk_r rfl rfl rfl (op_move (.inl rfl) (ev1 rfl)) ?_
  refine walk_gr (gd_f rfl rfl rfl) rfl rfl rfl (op_move (.inl rfl) (ev1 rfl)) ?_
  refine walk_gr (gd_f rfl rfl rfl) rfl rfl rfl (op_lss rfl (ev2 rfl) (ev1 rfl)) ?_
  refine walk_r rfl rfl rfl (op_or rfl (ev1 rfl) (ev3 rfl id)) ?_
  refine walk_r rfl rfl rfl (op_move (.inl rfl) (ev1 rfl)) ?_
  refine walk_gr (gd_f rfl rfl rfl) rfl rfl rfl (op_move (.inl rfl) (ev1 rfl)) ?_
  refine walk_gr (gd_f rfl rfl rfl) rfl rfl rfl (op_lss rfl (ev2 rfl) (ev1 rfl)) ?_
  refine walk_r rfl rfl rfl (op_or rfl (ev1 rfl) (ev3 rfl id)) ?_
  refine walk_r rfl rfl rfl (op_move (.inl rfl) (ev1 rfl)) ?_
  refine walk_gr (gd_f rfl rfl rfl) rfl rfl rfl (op_fa rfl fo26_3 (ev1 rfl)) ?_
  refine walk_gr (gd_f rfl rfl rfl) rfl rfl rfl (op_ldm rfl tb4 (ev2 rfl) rfl rfl) ?_
  refine walk_r rfl rfl rfl (op_or rfl (ev1 rfl) (ev3 rfl id)) ?_
  refine walk_r rfl rfl rfl (op_move (.inl rfl) (ev1 rfl)) ?_
  refine walk_gr (gd_f rfl rfl rfl) rfl rfl rfl (op_fa rfl fo26_4 (ev1 rfl)) ?_
  refine walk_gr (gd_f rfl rfl rfl) rfl rfl rfl (op_ldm rfl tb3 (ev2 rfl) rfl rfl) ?_
  refine walk_gr (gd_f rfl rfl rfl) rfl rfl rfl (op_gtr rfl (ev2 rfl) (ev1 rfl)) ?_
  refine walk_r rfl rfl rfl (op_or rfl (ev1 rfl) (ev3 rfl id)) ?_
  refine walk_nil ?_
  refine dwp_cond rfl (fun cA => ?_) (fun cA => ?_)
  · refine dwp_seq ?_
    refine dwp_region ?_
    refine walk_r rfl rfl rfl (op_move (.inr rfl) (ev1 rfl)) ?_
    refine walk_nil ?_
    refine dwp_ret ?_
    refine kend0 (rs1 rfl (rv_t rfl)) rfl ?_
    rfl
  · obtain ⟨hd, ⟨hk0, ht0⟩, hdn, hfu⟩ := fronts_cond cA
    replace hd : (ownK f h w dn fu).ok := hd
    have hfu0 : fu = 0 := by have := (chk0_parts (chk_parts hd).1).2.1.1; have e : (ownK f h w dn fu).fu = fu := rfl; omega
    obtain ⟨K, rfl⟩ := Int.eq_ofNat_of_zero_le hk0
    obtain ⟨T, rfl⟩ := Int.eq_ofNat_of_zero_le ht0
    have hsm := ops_small (w := w)
    have hNo := isN_own hNf
    have hNp := isN_ops hNw
    have hfo := fall_ok hd K T
    have hso := syS_ok hd hdn (by rw [show (ownK f h w dn fu).fu = fu from rfl, hfu0]; decide)
    have hro := front_ok hd K T
    refine dwp_skip ?_
    refine dwp_seq ?_
    refine dwp_holes 1 (by simp only [holes, List.cons_append, List.nil_append]; exact rfl) ?_
    refine dwp_draw [([0], []), ([], []), ([], []), ([], []), ([], []), ([], []), ([1], [1]), ([1], [1]), ([], [])] mixed (by kernel_rfl) ?_
    refine lex_r rfl rfl (op_ldmw rfl tb26 (ev1 rfl) rfl rfl) ?_
    refine lex_r rfl rfl (dop_call [] [] [] rfl (ev1 rfl) en rfl rfl (syncZ) rfl rfl rfl rfl rfl rfl) ?_
    refine lex_r rfl rfl (dop_call [] [] [] rfl (ev1 rfl) (ec (ev1 rfl) (ec (ev1 rfl) en)) rfl rfl (syncD (ownK f h w dn fu) hd hdn (by rw [show (ownK f h w dn fu).fu = fu from rfl, hfu0]; decide)) rfl rfl rfl rfl rfl rfl) ?_
    refine lex_r rfl rfl (op_move (.inl rfl) (ev1 rfl)) ?_
    refine lex_r rfl rfl (op_ext rfl (ev1 rfl) rfl) ?_
    refine lex_r rfl rfl (op_ext rfl (ev1 rfl) rfl) ?_
    refine lex_w rfl rfl (op_alloc 1 rfl zr26 rfl) rfl (by simp only [upd, List.set_cons_zero, List.set_cons_succ]; exact rfl) ?_
    refine lex_s rfl rfl (op_stam rfl tb26 (ev1 rfl) (ev1 rfl) rfl rfl rfl rfl) rfl (by simp only [upd, List.set_cons_zero, List.set_cons_succ]; exact rfl) ?_
    refine lex_r rfl rfl (op_move (.inr rfl) (ev1 rfl)) ?_
    refine lex_nil ?_
    refine dwp_seq ?_
    refine dwp_seq ?_
    refine dwp_draw [([], []), ([], []), ([], []), ([1], []), ([], []), ([0], []), ([], []), ([], []), ([], []), ([], []), ([], []), ([1], []), ([0], []), ([], []), ([], []), ([], []), ([], []), ([], []), ([1], []), ([], []), ([], []), ([], [])] mixed (by kernel_rfl) ?_
    refine lex_r rfl rfl (op_move (.inl rfl) (ev1 rfl)) ?_
    refine lex_r rfl rfl (op_neq rfl (ev1 rfl) (ev1 rfl)) ?_
    refine lex_r rfl rfl (op_move (.inl rfl) (ev1 rfl)) ?_
    refine lex_gr (gd_f rfl rfl rfl) rfl rfl (op_ldmw rfl tb26 (ev1 rfl) rfl rfl) ?_
    refine lex_gr (gd_f rfl rfl rfl) rfl rfl (dop_call [] [] [] rfl (ev1 rfl) (ec (ev2 rfl) en) rfl rfl (headZ (syS (ownK f h w dn fu)) hso) rfl rfl rfl rfl rfl rfl) ?_
    refine lex_gr (gd_f rfl rfl rfl) rfl rfl (op_ldmw rfl tb26 (ev1 rfl) rfl rfl) ?_
    refine lex_gr (gd_f rfl rfl rfl) rfl rfl (dop_call [] [] [] rfl (ev1 rfl) (ec (ev2 rfl) en) rfl rfl (headZ (ownK f h w dn fu) hd) rfl rfl rfl rfl rfl rfl) ?_
    refine lex_gr (gd_f rfl rfl rfl) rfl rfl (op_neq rfl (ev2 rfl) (ev2 rfl)) ?_
    refine lex_r rfl rfl (op_or rfl (ev1 rfl) (ev3 rfl id)) ?_
    refine lex_r rfl rfl (op_move (.inl rfl) (ev1 rfl)) ?_
    refine lex_gr (gd_f rfl rfl rfl) rfl rfl (op_fa rfl fo26_1 (ev1 rfl)) ?_
    refine lex_gr (gd_f rfl rfl rfl) rfl rfl (op_ldm rfl tb3 (ev2 rfl) rfl rfl) ?_
    refine lex_gr (gd_f rfl rfl rfl) rfl rfl (op_ldmw rfl tb26 (ev1 rfl) rfl rfl) ?_
    refine lex_gr (gd_f rfl rfl rfl) rfl rfl (dop_call [] [] [] rfl (ev1 rfl) (ec (ev2 rfl) en) rfl rfl (headZ (ownK f h w dn fu) hd) rfl rfl rfl rfl rfl rfl) ?_
    refine lex_gr (gd_f rfl rfl rfl) rfl rfl (op_neq rfl (ev2 rfl) (ev2 rfl)) ?_
    refine lex_r rfl rfl (op_or rfl (ev1 rfl) (ev3 rfl id)) ?_
    refine lex_r rfl rfl (op_move (.inl rfl) (ev1 rfl)) ?_
    refine lex_gr (gd_f rfl rfl rfl) rfl rfl (op_fa rfl fo26_2 (ev1 rfl)) ?_
    refine lex_gr (gd_f rfl rfl rfl) rfl rfl (op_ldm rfl tb24 (ev2 rfl) rfl rfl) ?_
    refine lex_gr (gd_f rfl rfl rfl) rfl rfl (op_lenm rfl sl24 (ev2 rfl)) ?_
    refine lex_gr (gd_f rfl rfl rfl) rfl rfl (op_gtr rfl (ev2 rfl) (ev1 rfl)) ?_
    refine lex_r rfl rfl (op_or rfl (ev1 rfl) (ev3 rfl id)) ?_
    refine lex_nil ?_
    refine dwp_if_f rfl (by simp [syS, ownK, seH]) ?_
    refine dwp_skip ?_
    refine dwp_seq ?_
    refine dwp_holes 1 (by simp only [holes, List.cons_append, List.nil_append]; exact rfl) ?_
    refine dwp_region ?_
    refine walk_r rfl rfl rfl (op_ldmw rfl tb26 (ev1 rfl) rfl rfl) ?_
    refine walk_r rfl rfl rfl (op_move (.inl rfl) (ev1 rfl)) ?_
    refine walk_r rfl rfl rfl (op_move (.inl rfl) (ev1 rfl)) ?_
    refine walk_r rfl rfl rfl (dop_call [] [] [] rfl (ev1 rfl) (ec (ev1 rfl) (ec (ev1 rfl) (ec (ev1 rfl) en))) rfl rfl (fallZ (ownK f h w dn fu) hd K T) rfl rfl rfl rfl rfl rfl) ?_
    refine walk_r rfl rfl rfl (op_move (.inl rfl) (ev1 rfl)) ?_
    refine walk_r rfl rfl rfl (op_ext rfl (ev1 rfl) rfl) ?_
    refine walk_r rfl rfl rfl (op_ext rfl (ev1 rfl) rfl) ?_
    refine walk_w rfl rfl rfl (op_alloc 2 rfl zr26 rfl) (by simp only [upd, List.set_cons_zero, List.set_cons_succ]; exact rfl) ?_
    refine walk_s rfl rfl (op_stam rfl tb26 (ev1 rfl) (ev1 rfl) rfl rfl rfl rfl) (by simp only [upd, List.set_cons_zero, List.set_cons_succ]; exact rfl) ?_
    refine walk_r rfl rfl rfl (op_move (.inr rfl) (ev1 rfl)) ?_
    refine walk_nil ?_
    refine dwp_seq ?_
    refine dwp_holes 1 (by simp only [holes, List.cons_append, List.nil_append]; exact rfl) ?_
    refine dwp_region ?_
    refine walk_r rfl rfl rfl (op_lddr rfl tb26 (ev1 rfl) rfl rfl) ?_
    refine walk_r rfl rfl rfl (dop_call [] [] [] rfl (ev1 rfl) (ec (ev1 rfl) en) rfl rfl (own_d f h w dn fu) rfl rfl rfl rfl rfl rfl) ?_
    refine walk_w rfl rfl rfl (op_alloc 3 rfl zr26 rfl) (by simp only [upd, List.set_cons_zero, List.set_cons_succ]; exact rfl) ?_
    refine walk_s rfl rfl (op_stam rfl tb26 (ev1 rfl) (ev1 rfl) rfl rfl rfl rfl) (by simp only [upd, List.set_cons_zero, List.set_cons_succ]; exact rfl) ?_
    refine walk_nil ?_
    refine dwp_seq ?_
    refine dwp_region ?_
    refine walk_r rfl rfl rfl (op_fa rfl fo26_2 (ev1 rfl)) ?_
    refine walk_s rfl rfl (op_stm rfl tb24 (ev1 rfl) (evwk (ev1 rfl) (Wk.slm0 3)) (fun s v h => by cases h <;> exact ⟨rfl, rfl⟩) rfl (Nat.le_of_ble_eq_true rfl)) (by simp only [upd, List.set_cons_zero, List.set_cons_succ]; exact rfl) ?_
    refine walk_nil ?_
    refine dwp_seq ?_
    refine dwp_seq ?_
    refine dwp_region ?_
    refine walk_r rfl rfl rfl (op_lddr rfl tb26 (ev1 rfl) rfl rfl) ?_
    refine walk_r rfl rfl rfl (dop_call [] [] [] rfl (ev1 rfl) (ec (ev1 rfl) en) rfl rfl (own_d f h w dn fu) rfl rfl rfl rfl rfl rfl) ?_
    refine walk_r rfl rfl rfl (op_fdc rfl fp26_2 (ev1 rfl) rfl) ?_
    refine walk_r rfl rfl rfl (op_lenm rfl sl24 (ev1 rfl)) ?_
    refine walk_r rfl rfl rfl (op_move (.inl rfl) (ev1 rfl)) ?_
    refine walk_nil ?_
    refine dwp_block ?_
    refine dwp_loopS ⟨hs0, rfl⟩ (α := Nat) (fun k => [(91, .val (.int .i64 (k : Int)))]) [(1, _), (2, _), (7, _), (8, _), (9, _), (10, _), (11, _), (89, _), (90, _)] (fun k => [(3, .mix 26 (dD (ownF f) h (frK (opsL w) K T k) dn fu))]) [_, _, _, .hole] (fun k => k ≤ (opsL w).length ∧ k ≤ K + 1) (fun k => (opsL w).length - k) 0 [0, 1, 2, 3] (⟨by omega, by omega⟩) rfl ⟨rfl, rfl, rfl, rfl, rfl, rfl, rfl, rfl, rfl, trivial⟩ ⟨rfl, trivial⟩ ⟨rfl, rfl, rfl, by rw [show frK (opsL w) K T 0 = [] by unfold frK; rw [if_pos (Nat.zero_le K)]; rfl]; rfl, trivial⟩ ?_
    intro k hx
    simp only [upd, List.set_cons_zero, List.set_cons_succ, List.cons_append, List.nil_append]
    obtain ⟨hk, hk1⟩ := hx
    have hwl := opsL_len w
    refine dwp_seq ?_
    refine dwp_region ?_
    refine walk_r rfl rfl rfl (op_lss rfl (ev1 rfl) (ev1 rfl)) ?_
    refine walk_nil ?_
    refine dwp_seq ?_
    refine dwp_cond rfl (fun c4 => ?_) (fun c4 => ?_)
    · try simp only [decide_eq_true_eq, decide_eq_false_iff_not, beq_iff_eq, bne_iff_ne, beq_eq_false_iff_ne, bne_eq_false_iff_eq, Bool.not_eq_true', Bool.not_eq_false', Bool.and_eq_true, Bool.or_eq_true, Bool.or_eq_false_iff, ne_eq, Decidable.not_not, Int.not_lt, Int.not_le] at c4
      refine dwp_skip ?_
      refine dwp_seq ?_
      refine dwp_block ?_
      refine dwp_seq ?_
      have hkl : k < (opsL w).length := by omega
      have hob := hsm _ (List.getElem_mem hkl)
      refine dwp_holes 1 (by simp only [holes, List.cons_append, List.nil_append]; exact rfl) ?_
      refine dwp_region ?_
      refine walk_r rfl rfl rfl (op_move (.inl rfl) (ev1 rfl)) ?_
      refine walk_r rfl rfl rfl (op_ixmr (k) (by decide) rfl sl24 (ev1 rfl) (ev1 rfl) (fun _ => rfl) (by omega) (fun _ => rfl)) ?_
      refine walk_r rfl rfl rfl (op_lddr rfl tb44 (ev1 rfl) rfl rfl) ?_
      refine walk_w rfl rfl rfl (op_alloc 4 rfl zr44 rfl) (by simp only [upd, List.set_cons_zero, List.set_cons_succ]; exact rfl) ?_
      refine walk_r rfl rfl rfl (op_move (.inr rfl) (ev1 rfl)) ?_
      refine walk_s rfl rfl (op_stam rfl tb44 (ev1 rfl) (ev1 rfl) rfl rfl rfl rfl) (by simp only [upd, List.set_cons_zero, List.set_cons_succ]; exact rfl) ?_
      refine walk_nil ?_
      refine dwp_seq ?_
      refine dwp_seq ?_
      refine dwp_region ?_
      refine walk_r rfl rfl rfl (op_move (.inl rfl) (ev1 rfl)) ?_
      refine walk_r rfl rfl rfl (op_move (.inl rfl) (ev1 rfl)) ?_
      refine walk_r rfl rfl rfl (op_gtr rfl (ev1 rfl) (ev1 rfl)) ?_
      refine walk_r rfl rfl rfl (op_move (.inl rfl) (ev1 rfl)) ?_
      refine walk_gr (gd_f rfl rfl rfl) rfl rfl rfl (op_move (.inl rfl) (ev1 rfl)) ?_
      refine walk_gr (gd_f rfl rfl rfl) rfl rfl rfl (op_move (.inl rfl) (ev1 rfl)) ?_
      refine walk_gr (gd_f rfl rfl rfl) rfl rfl rfl (op_eql rfl (ev2 rfl) (ev2 rfl)) ?_
      refine walk_gr (gd_f rfl rfl rfl) rfl rfl rfl (op_move (.inl rfl) (ev2 rfl)) ?_
      refine walk_gr (gd_tt rfl rfl rfl) rfl rfl rfl (op_fa rfl fo44_0 (ev1 rfl)) ?_
      refine walk_gr (gd_tt rfl rfl rfl) rfl rfl rfl (op_ldm rfl tb3 (ev2 rfl) rfl rfl) ?_
      refine walk_gr (gd_tt rfl rfl rfl) rfl rfl rfl (op_neq rfl (ev2 rfl) (ev1 rfl)) ?_
      refine walk_gr (gd_tt rfl rfl rfl) rfl rfl rfl (op_move (.inl rfl) (ev2 rfl)) ?_
      refine walk_gr (gd_ff rfl rfl rfl) rfl rfl rfl (op_move (.inl rfl) (ev1 rfl)) ?_
      refine walk_gr (gd_ff rfl rfl rfl) rfl rfl rfl (op_eql rfl (ev2 rfl) (ev1 rfl)) ?_
      refine walk_gr (gd_tt rfl rfl rfl) rfl rfl rfl (op_or rfl (ev2 rfl) (ev2 rfl)) ?_
      refine walk_gr (gd_f rfl rfl rfl) rfl rfl rfl (op_and rfl (ev2 rfl) (ev2 rfl)) ?_
      refine walk_r rfl rfl rfl (op_or rfl (ev1 rfl) (ev3 rfl id)) ?_
      refine walk_nil ?_
      refine dwp_cond rfl (fun cB => ?_) (fun cB => ?_)
      · have hfin : frK (opsL w) K T k = frontW (opsL w) K T := frb_t hkl hk1 cB
        refine dwp_exit ?_
        refine dwp_seq ?_
        refine dwp_seq ?_
        rw [hfin]
        refine dwp_draw [([], []), ([], []), ([], []), ([2], []), ([], []), ([3], []), ([], []), ([], []), ([], [])] mixed (by kernel_rfl) ?_
        refine lex_r rfl rfl (op_move (.inl rfl) (ev1 rfl)) ?_
        refine lex_r rfl rfl (op_neq rfl (ev1 rfl) (ev1 rfl)) ?_
        refine lex_r rfl rfl (op_move (.inl rfl) (ev1 rfl)) ?_
        refine lex_gr (gd_f rfl rfl rfl) rfl rfl (op_ldmw rfl tb26 (ev1 rfl) rfl rfl) ?_
        refine lex_gr (gd_f rfl rfl rfl) rfl rfl (dop_call [] [] [] rfl (ev1 rfl) (ec (ev2 rfl) en) rfl rfl (headZ (fallS (ownK f h w dn fu) K T) hfo) rfl rfl rfl rfl rfl rfl) ?_
        refine lex_gr (gd_f rfl rfl rfl) rfl rfl (op_ldmw rfl tb26 (ev1 rfl) rfl rfl) ?_
        refine lex_gr (gd_f rfl rfl rfl) rfl rfl (dop_call [] [] [] rfl (ev1 rfl) (ec (ev2 rfl) en) rfl rfl (headZ (cutW (ownK f h w dn fu) (frontW (opsL w) K T)) hro) rfl rfl rfl rfl rfl rfl) ?_
        refine lex_gr (gd_f rfl rfl rfl) rfl rfl (op_neq rfl (ev2 rfl) (ev2 rfl)) ?_
        refine lex_r rfl rfl (op_or rfl (ev1 rfl) (ev3 rfl id)) ?_
        refine lex_nil ?_
        refine dwp_if_f rfl (by rw [show seH (fallS (ownK f h w dn fu) K T).h (fallS (ownK f h w dn fu) K T).w = seH (cutW (ownK f h w dn fu) (frontW (opsL w) K T)).h (cutW (ownK f h w dn fu) (frontW (opsL w) K T)).w from front_h h (opsL w) K T]; simp) ?_
        refine dwp_skip ?_
        refine dwp_seq ?_
        refine dwp_seq ?_
        refine dwp_region ?_
        refine walk_r rfl rfl rfl (op_move (.inl rfl) (ev1 rfl)) ?_
        refine walk_nil ?_
        refine dwp_block ?_
        refine dwp_loopS ⟨hs0, rfl⟩ (α := Nat) (fun i => [(144, .val (.int .i64 (i : Int)))]) [(7, _), (8, _), (10, _), (11, _)] (fun i => []) [_, _, _, _, _] (fun i => i ≤ 4) (fun i => 4 - i) 0 [0, 1, 2, 3, 4] (by simp) rfl ⟨rfl, rfl, rfl, rfl, trivial⟩ ⟨rfl, trivial⟩ ⟨rfl, rfl, rfl, rfl, rfl, trivial⟩ ?_
        intro i hx
        simp only [upd, List.set_cons_zero, List.set_cons_succ, List.cons_append, List.nil_append]
        have hi := hx
        refine dwp_seq ?_
        refine dwp_region ?_
        refine walk_r rfl rfl rfl (op_lss rfl (ev1 rfl) (ev1 rfl)) ?_
        refine walk_nil ?_
        refine dwp_seq ?_
        refine dwp_cond rfl (fun c7 => ?_) (fun c7 => ?_)
        · try simp only [decide_eq_true_eq, decide_eq_false_iff_not, beq_iff_eq, bne_iff_ne, beq_eq_false_iff_ne, bne_eq_false_iff_eq, Bool.not_eq_true', Bool.not_eq_false', Bool.and_eq_true, Bool.or_eq_true, Bool.or_eq_false_iff, ne_eq, Decidable.not_not, Int.not_lt, Int.not_le] at c7
          refine dwp_skip ?_
          refine dwp_seq ?_
          refine dwp_block ?_
          refine dwp_seq ?_
          have hi4 : i < 4 := by omega
          have e1 : seF (fallS (ownK f h w dn fu) K T).f (fallS (ownK f h w dn fu) K T).w i = seF (cutW (ownK f h w dn fu) (frontW (opsL w) K T)).f (cutW (ownK f h w dn fu) (frontW (opsL w) K T)).w i := congrFun (front_f (ownF f) (opsL w) K T) i
          have e2 : seF (syS (ownK f h w dn fu)).f (syS (ownK f h w dn fu)).w i = seF (ownK f h w dn fu).f (ownK f h w dn fu).w i := rfl
          have hn2 : isN (seF (cutW (ownK f h w dn fu) (frontW (opsL w) K T)).f (cutW (ownK f h w dn fu) (frontW (opsL w) K T)).w i) := isN_seF _ _ (chk_parts hro).2.2.1 hNo (isN_front hNp K T) i hi4
          have hn4 : isN (seF (ownK f h w dn fu).f (ownK f h w dn fu).w i) := isN_seF _ _ (chk_parts hd).2.2.1 hNo hNp i hi4
          refine dwp_region ?_
          refine walk_r rfl rfl rfl (op_move (.inl rfl) (ev1 rfl)) ?_
          refine walk_r rfl rfl rfl (op_move (.inr rfl) (ev1 rfl)) ?_
          refine walk_nil ?_
          refine dwp_seq ?_
          refine dwp_region ?_
          refine walk_r rfl rfl rfl (op_ldmw rfl tb26 (ev1 rfl) rfl rfl) ?_
          refine walk_r rfl rfl rfl (op_move (.inl rfl) (ev1 rfl)) ?_
          refine walk_r rfl rfl rfl (dop_call [] [] [] rfl (ev1 rfl) (ec (ev1 rfl) (ec (ev1 rfl) en)) rfl rfl (readI (fallS (ownK f h w dn fu) K T) (hfo) i hi4) rfl rfl rfl rfl rfl rfl) ?_
          refine walk_r rfl rfl rfl (op_move (.inl rfl) (ev1 rfl)) ?_
          refine walk_r rfl rfl rfl (op_ext rfl (ev1 rfl) rfl) ?_
          refine walk_r rfl rfl rfl (op_ext rfl (ev1 rfl) rfl) ?_
          refine walk_r rfl rfl rfl (op_move (.inr rfl) (ev1 rfl)) ?_
          refine walk_r rfl rfl rfl (op_move (.inr rfl) (ev1 rfl)) ?_
          refine walk_nil ?_
          refine dwp_seq ?_
          refine dwp_region ?_
          refine walk_r rfl rfl rfl (op_ldmw rfl tb26 (ev1 rfl) rfl rfl) ?_
          refine walk_r rfl rfl rfl (op_move (.inl rfl) (ev1 rfl)) ?_
          refine walk_r rfl rfl rfl (dop_call [] [] [] rfl (ev1 rfl) (ec (ev1 rfl) (ec (ev1 rfl) en)) rfl rfl (readI (cutW (ownK f h w dn fu) (frontW (opsL w) K T)) (hro) i hi4) rfl rfl rfl rfl rfl rfl) ?_
          refine walk_r rfl rfl rfl (op_move (.inl rfl) (ev1 rfl)) ?_
          refine walk_r rfl rfl rfl (op_ext rfl (ev1 rfl) rfl) ?_
          refine walk_r rfl rfl rfl (op_ext rfl (ev1 rfl) rfl) ?_
          refine walk_r rfl rfl rfl (op_move (.inr rfl) (ev1 rfl)) ?_
          refine walk_r rfl rfl rfl (op_move (.inr rfl) (ev1 rfl)) ?_
          refine walk_nil ?_
          refine dwp_seq ?_
          refine dwp_region ?_
          refine walk_r rfl rfl rfl (op_ldmw rfl tb26 (ev1 rfl) rfl rfl) ?_
          refine walk_r rfl rfl rfl (op_move (.inl rfl) (ev1 rfl)) ?_
          refine walk_r rfl rfl rfl (dop_call [] [] [] rfl (ev1 rfl) (ec (ev1 rfl) (ec (ev1 rfl) en)) rfl rfl (readI (syS (ownK f h w dn fu)) (hso) i hi4) rfl rfl rfl rfl rfl rfl) ?_
          refine walk_r rfl rfl rfl (op_move (.inl rfl) (ev1 rfl)) ?_
          refine walk_r rfl rfl rfl (op_ext rfl (ev1 rfl) rfl) ?_
          refine walk_r rfl rfl rfl (op_ext rfl (ev1 rfl) rfl) ?_
          refine walk_r rfl rfl rfl (op_move (.inr rfl) (ev1 rfl)) ?_
          refine walk_r rfl rfl rfl (op_move (.inr rfl) (ev1 rfl)) ?_
          refine walk_nil ?_
          refine dwp_seq ?_
          refine dwp_region ?_
          refine walk_r rfl rfl rfl (op_ldmw rfl tb26 (ev1 rfl) rfl rfl) ?_
          refine walk_r rfl rfl rfl (op_move (.inl rfl) (ev1 rfl)) ?_
          refine walk_r rfl rfl rfl (dop_call [] [] [] rfl (ev1 rfl) (ec (ev1 rfl) (ec (ev1 rfl) en)) rfl rfl (readI (ownK f h w dn fu) (hd) i hi4) rfl rfl rfl rfl rfl rfl) ?_
          refine walk_r rfl rfl rfl (op_move (.inl rfl) (ev1 rfl)) ?_
          refine walk_r rfl rfl rfl (op_ext rfl (ev1 rfl) rfl) ?_
          refine walk_r rfl rfl rfl (op_ext rfl (ev1 rfl) rfl) ?_
          refine walk_r rfl rfl rfl (op_move (.inr rfl) (ev1 rfl)) ?_
          refine walk_r rfl rfl rfl (op_move (.inr rfl) (ev1 rfl)) ?_
          refine walk_nil ?_
          refine dwp_seq ?_
          refine dwp_region ?_
          refine walk_r rfl rfl rfl (op_move (.inl rfl) (ev1 rfl)) ?_
          refine walk_r rfl rfl rfl (op_neq rfl (ev1 rfl) (ev1 rfl)) ?_
          refine walk_r rfl rfl rfl (op_move (.inl rfl) (ev1 rfl)) ?_
          refine walk_gr (gd_f rfl rfl rfl) rfl rfl rfl (op_move (.inl rfl) (ev1 rfl)) ?_
          refine walk_gr (gd_f rfl rfl rfl) rfl rfl rfl (op_neq rfl (ev2 rfl) (ev1 rfl)) ?_
          refine walk_r rfl rfl rfl (op_or rfl (ev1 rfl) (ev3 rfl id)) ?_
          refine walk_r rfl rfl rfl (op_move (.inl rfl) (ev1 rfl)) ?_
          refine walk_gr (gd_f rfl rfl rfl) rfl rfl rfl (op_move (.inl rfl) (ev1 rfl)) ?_
          refine walk_gr (gd_f rfl rfl rfl) rfl rfl rfl (op_neq rfl (ev2 rfl) (ev1 rfl)) ?_
          refine walk_r rfl rfl rfl (op_or rfl (ev1 rfl) (ev3 rfl id)) ?_
          refine walk_r rfl rfl rfl (op_move (.inl rfl) (ev1 rfl)) ?_
          refine walk_gr (gd_f rfl rfl rfl) rfl rfl rfl (op_move (.inl rfl) (ev1 rfl)) ?_
          refine walk_gr (gd_f rfl rfl rfl) rfl rfl rfl (op_neq rfl (ev2 rfl) (ev1 rfl)) ?_
          refine walk_r rfl rfl rfl (op_or rfl (ev1 rfl) (ev3 rfl id)) ?_
          refine walk_r rfl rfl rfl (op_move (.inl rfl) (ev1 rfl)) ?_
          refine walk_gr (gd_f rfl rfl rfl) rfl rfl rfl (op_move (.inl rfl) (ev1 rfl)) ?_
          refine walk_gr (gd_f rfl rfl rfl) rfl rfl rfl (op_move (.inl rfl) (ev1 rfl)) ?_
          refine walk_gr (gd_f rfl rfl rfl) rfl rfl rfl (dop_call [] [] [] rfl (ev1 rfl) (ec (ev2 rfl) (ec (ev2 rfl) en)) rfl rfl (beq_d _ _ (by rw [e1]; exact hn2) hn2) rfl rfl rfl rfl rfl rfl) ?_
          refine walk_gr (gd_f rfl rfl rfl) rfl rfl rfl (op_not rfl (ev2 rfl)) ?_
          refine walk_r rfl rfl rfl (op_or rfl (ev1 rfl) (ev3 rfl id)) ?_
          refine walk_r rfl rfl rfl (op_move (.inl rfl) (ev1 rfl)) ?_
          refine walk_gr (gd_f rfl rfl rfl) rfl rfl rfl (op_move (.inl rfl) (ev1 rfl)) ?_
          refine walk_gr (gd_f rfl rfl rfl) rfl rfl rfl (op_move (.inl rfl) (ev1 rfl)) ?_
          refine walk_gr (gd_f rfl rfl rfl) rfl rfl rfl (dop_call [] [] [] rfl (ev1 rfl) (ec (ev2 rfl) (ec (ev2 rfl) en)) rfl rfl (beq_d _ _ (by rw [e2]; exact hn4) hn4) rfl rfl rfl rfl rfl rfl) ?_
          refine walk_gr (gd_f rfl rfl rfl) rfl rfl rfl (op_not rfl (ev2 rfl)) ?_
          refine walk_r rfl rfl rfl (op_or rfl (ev1 rfl) (ev3 rfl id)) ?_
          refine walk_r rfl rfl rfl (op_move (.inl rfl) (ev1 rfl)) ?_
          refine walk_gr (gd_f rfl rfl rfl) rfl rfl rfl (op_ldmw rfl tb26 (ev1 rfl) rfl rfl) ?_
          refine walk_gr (gd_f rfl rfl rfl) rfl rfl rfl (op_move (.inl rfl) (ev1 rfl)) ?_
          refine walk_gr (gd_f rfl rfl rfl) rfl rfl rfl (dop_call [] [] [] rfl (ev1 rfl) (ec (ev2 rfl) (ec (ev2 rfl) en)) rfl rfl (sizeI (ownK f h w dn fu) hd i hi4) rfl rfl rfl rfl rfl rfl) ?_
          refine walk_gr (gd_f rfl rfl rfl) rfl rfl rfl (op_move (.inl rfl) (ev1 rfl)) ?_
          refine walk_gr (gd_f rfl rfl rfl) rfl rfl rfl (op_len rfl sl22 (ev2 rfl)) ?_
          refine walk_gr (gd_f rfl rfl rfl) rfl rfl rfl (op_neq rfl (ev2 rfl) (ev2 rfl)) ?_
          refine walk_r rfl rfl rfl (op_or rfl (ev1 rfl) (ev3 rfl id)) ?_
          refine walk_nil ?_
          refine dwp_if_f rfl (by rw [e1, e2]; simp) ?_
          refine dwp_skip ?_
          refine dwp_region ?_
          refine walk_r rfl rfl rfl (op_add' rfl (ev1 rfl) (ev1 rfl) (fun _ => IntWalk.i64_in _ (by omega))) ?_
          refine walk_r rfl rfl rfl (op_move (.inl rfl) (ev1 rfl)) ?_
          refine walk_nil ?_
          refine ⟨i + 1, [0, 1, 2, 3, 4], by omega, by simp only []; omega, rfl, ⟨rfl, rfl, rfl, rfl, rfl, trivial⟩, ⟨rfl, rfl, rfl, rfl, rfl, trivial⟩⟩
        · try simp only [decide_eq_true_eq, decide_eq_false_iff_not, beq_iff_eq, bne_iff_ne, beq_eq_false_iff_ne, bne_eq_false_iff_eq, Bool.not_eq_true', Bool.not_eq_false', Bool.and_eq_true, Bool.or_eq_true, Bool.or_eq_false_iff, ne_eq, Decidable.not_not, Int.not_lt, Int.not_le] at c7
          refine dwp_exit ?_
          refine dwp_seq ?_
          refine dwp_region ?_
          refine walk_r rfl rfl rfl (op_move (.inr rfl) (ev1 rfl)) ?_
          refine walk_nil ?_
          refine dwp_ret ?_
          refine kend0 (rs1 rfl (rv_t rfl)) rfl ?_
          rfl
      · obtain ⟨hkK, hkT⟩ := frb_f cB
        refine dwp_skip ?_
        refine dwp_seq ?_
        refine dwp_seq ?_
        refine dwp_region ?_
        refine walk_r rfl rfl rfl (op_move (.inl rfl) (ev1 rfl)) ?_
        refine walk_r rfl rfl rfl (op_move (.inl rfl) (ev1 rfl)) ?_
        refine walk_r rfl rfl rfl (op_eql rfl (ev1 rfl) (ev1 rfl)) ?_
        refine walk_nil ?_
        refine dwp_cond rfl (fun cC_ => ?_) (fun cC_ => ?_)
        · have cC : k = K := by simp at cC_; omega
          refine dwp_region ?_
          refine walk_r rfl rfl rfl (op_fa rfl fo44_2 (ev1 rfl)) ?_
          refine walk_r rfl rfl rfl (op_ldm rfl tb22 (ev1 rfl) rfl rfl) ?_
          refine walk_r rfl rfl rfl (op_move (.inl rfl) (ev1 rfl)) ?_
          refine walk_r rfl rfl rfl (op_fa rfl fo44_2 (ev1 rfl)) ?_
          refine walk_r rfl rfl rfl (op_ldm rfl tb22 (ev1 rfl) rfl rfl) ?_
          refine walk_r rfl rfl rfl (op_len rfl sl22 (ev1 rfl)) ?_
          refine walk_r rfl rfl rfl (op_min rfl (ev1 rfl) (ev1 rfl)) ?_
          refine walk_r rfl rfl rfl (op_sltk (j := min T ((opsL w)[k]'hkl).b.length) rfl sl22 (ev1 rfl) (bd_some (ev1 rfl)) (fun _ => by omega) (fun _ => by omega) (fun _ => rfl)) ?_
          refine walk_r rfl rfl rfl (op_fa rfl fo44_2 (ev1 rfl)) ?_
          refine walk_s rfl rfl (op_stm rfl tb22 (ev1 rfl) (ev1 rfl) (fun s v h => by cases h <;> exact ⟨rfl, rfl⟩) rfl (by first | decide | exact Nat.le_of_ble_eq_true rfl | simp)) (by simp only [upd, List.set_cons_zero, List.set_cons_succ]; exact rfl) ?_
          refine walk_nil ?_
          refine dwp_seq ?_
          refine dwp_holes 1 (by simp only [holes, List.cons_append, List.nil_append]; exact rfl) ?_
          refine dwp_region ?_
          refine walk_r rfl rfl rfl (op_ldmw rfl tb26 (ev1 rfl) rfl rfl) ?_
          refine walk_r rfl rfl rfl (op_ldmw rfl tb44 (ev1 rfl) rfl rfl) ?_
          refine walk_r rfl rfl rfl (dop_call [] [] [] rfl (ev1 rfl) (ec (ev1 rfl) (ec (ev1 rfl) en)) rfl rfl (frontD3 (ownK f h w dn fu) hd hdn hfu0 K T hkl cC hkT hob) rfl rfl rfl rfl rfl rfl) ?_
          refine walk_r rfl rfl rfl (op_move (.inl rfl) (ev1 rfl)) ?_
          refine walk_r rfl rfl rfl (op_ext rfl (ev1 rfl) rfl) ?_
          refine walk_r rfl rfl rfl (op_ext rfl (ev1 rfl) rfl) ?_
          refine walk_w rfl rfl rfl (op_alloc 5 rfl zr26 rfl) (by simp only [upd, List.set_cons_zero, List.set_cons_succ]; exact rfl) ?_
          refine walk_s rfl rfl (op_stam rfl tb26 (ev1 rfl) (ev1 rfl) rfl rfl rfl rfl) (by simp only [upd, List.set_cons_zero, List.set_cons_succ]; exact rfl) ?_
          refine walk_r rfl rfl rfl (op_move (.inr rfl) (ev1 rfl)) ?_
          refine walk_nil ?_
          refine dwp_seq ?_
          refine dwp_seq ?_
          refine dwp_region ?_
          refine walk_r rfl rfl rfl (op_move (.inl rfl) (ev1 rfl)) ?_
          refine walk_r rfl rfl rfl (op_neq rfl (ev1 rfl) (ev1 rfl)) ?_
          refine walk_nil ?_
          refine dwp_if_f rfl (rfl) ?_
          refine dwp_skip ?_
          refine dwp_region ?_
          refine walk_r rfl rfl rfl (op_ldmw rfl tb26 (ev1 rfl) rfl rfl) ?_
          refine walk_s rfl rfl (op_stmw rfl tb26 (ev1 rfl) (ev1 rfl) rfl rfl rfl rfl) (by simp only [upd, List.set_cons_zero, List.set_cons_succ]; exact rfl) ?_
          refine walk_nil ?_
          refine dwp_region ?_
          refine walk_r rfl rfl rfl (op_add' rfl (ev1 rfl) (ev1 rfl) (fun _ => IntWalk.i64_in _ (by omega))) ?_
          refine walk_r rfl rfl rfl (op_move (.inl rfl) (ev1 rfl)) ?_
          refine walk_nil ?_
          refine ⟨k + 1, [0, 1, 2, 3], ⟨by omega, by omega⟩, by simp only []; omega, rfl, ⟨rfl, rfl, rfl, rfl, rfl, rfl, rfl, rfl, rfl, rfl, trivial⟩, ⟨rfl, rfl, rfl, rfl, trivial⟩⟩
        · have cC : ¬ k = K := by simp at cC_; omega
          refine dwp_skip ?_
          refine dwp_seq ?_
          refine dwp_holes 1 (by simp only [holes, List.cons_append, List.nil_append]; exact rfl) ?_
          refine dwp_region ?_
          refine walk_r rfl rfl rfl (op_ldmw rfl tb26 (ev1 rfl) rfl rfl) ?_
          refine walk_r rfl rfl rfl (op_ldmw rfl tb44 (ev1 rfl) rfl rfl) ?_
          refine walk_r rfl rfl rfl (dop_call [] [] [] rfl (ev1 rfl) (ec (ev1 rfl) (ec (ev1 rfl) en)) rfl rfl (frontD1 (ownK f h w dn fu) hd hdn hfu0 K T hkl (by omega) hob) rfl rfl rfl rfl rfl rfl) ?_
          refine walk_r rfl rfl rfl (op_move (.inl rfl) (ev1 rfl)) ?_
          refine walk_r rfl rfl rfl (op_ext rfl (ev1 rfl) rfl) ?_
          refine walk_r rfl rfl rfl (op_ext rfl (ev1 rfl) rfl) ?_
          refine walk_w rfl rfl rfl (op_alloc 5 rfl zr26 rfl) (by simp only [upd, List.set_cons_zero, List.set_cons_succ]; exact rfl) ?_
          refine walk_s rfl rfl (op_stam rfl tb26 (ev1 rfl) (ev1 rfl) rfl rfl rfl rfl) (by simp only [upd, List.set_cons_zero, List.set_cons_succ]; exact rfl) ?_
          refine walk_r rfl rfl rfl (op_move (.inr rfl) (ev1 rfl)) ?_
          refine walk_nil ?_
          refine dwp_seq ?_
          refine dwp_seq ?_
          refine dwp_region ?_
          refine walk_r rfl rfl rfl (op_move (.inl rfl) (ev1 rfl)) ?_
          refine walk_r rfl rfl rfl (op_neq rfl (ev1 rfl) (ev1 rfl)) ?_
          refine walk_nil ?_
          refine dwp_if_f rfl (rfl) ?_
          refine dwp_skip ?_
          refine dwp_region ?_
          refine walk_r rfl rfl rfl (op_ldmw rfl tb26 (ev1 rfl) rfl rfl) ?_
          refine walk_s rfl rfl (op_stmw rfl tb26 (ev1 rfl) (ev1 rfl) rfl rfl rfl rfl) (by simp only [upd, List.set_cons_zero, List.set_cons_succ]; exact rfl) ?_
          refine walk_nil ?_
          refine dwp_region ?_
          refine walk_r rfl rfl rfl (op_add' rfl (ev1 rfl) (ev1 rfl) (fun _ => IntWalk.i64_in _ (by omega))) ?_
          refine walk_r rfl rfl rfl (op_move (.inl rfl) (ev1 rfl)) ?_
          refine walk_nil ?_
          refine ⟨k + 1, [0, 1, 2, 3], ⟨by omega, by omega⟩, by simp only []; omega, rfl, ⟨rfl, rfl, rfl, rfl, rfl, rfl, rfl, rfl, rfl, rfl, trivial⟩, ⟨rfl, rfl, rfl, rfl, trivial⟩⟩
    · try simp only [decide_eq_true_eq, decide_eq_false_iff_not, beq_iff_eq, bne_iff_ne, beq_eq_false_iff_ne, bne_eq_false_iff_eq, Bool.not_eq_true', Bool.not_eq_false', Bool.and_eq_true, Bool.or_eq_true, Bool.or_eq_false_iff, ne_eq, Decidable.not_not, Int.not_lt, Int.not_le] at c4
      have hfin : frK (opsL w) K T k = frontW (opsL w) K T := frK_end (by omega) (by omega)
      refine dwp_exit ?_
      refine dwp_seq ?_
      refine dwp_seq ?_
      rw [hfin]
      refine dwp_draw [([], []), ([], []), ([], []), ([2], []), ([], []), ([3], []), ([], []), ([], []), ([], [])] mixed (by kernel_rfl) ?_
      refine lex_r rfl rfl (op_move (.inl rfl) (ev1 rfl)) ?_
      refine lex_r rfl rfl (op_neq rfl (ev1 rfl) (ev1 rfl)) ?_
      refine lex_r rfl rfl (op_move (.inl rfl) (ev1 rfl)) ?_
      refine lex_gr (gd_f rfl rfl rfl) rfl rfl (op_ldmw rfl tb26 (ev1 rfl) rfl rfl) ?_
      refine lex_gr (gd_f rfl rfl rfl) rfl rfl (dop_call [] [] [] rfl (ev1 rfl) (ec (ev2 rfl) en) rfl rfl (headZ (fallS (ownK f h w dn fu) K T) hfo) rfl rfl rfl rfl rfl rfl) ?_
      refine lex_gr (gd_f rfl rfl rfl) rfl rfl (op_ldmw rfl tb26 (ev1 rfl) rfl rfl) ?_
      refine lex_gr (gd_f rfl rfl rfl) rfl rfl (dop_call [] [] [] rfl (ev1 rfl) (ec (ev2 rfl) en) rfl rfl (headZ (cutW (ownK f h w dn fu) (frontW (opsL w) K T)) hro) rfl rfl rfl rfl rfl rfl) ?_
      refine lex_gr (gd_f rfl rfl rfl) rfl rfl (op_neq rfl (ev2 rfl) (ev2 rfl)) ?_
      refine lex_r rfl rfl (op_or rfl (ev1 rfl) (ev3 rfl id)) ?_
      refine lex_nil ?_
      refine dwp_if_f rfl (by rw [show seH (fallS (ownK f h w dn fu) K T).h (fallS (ownK f h w dn fu) K T).w = seH (cutW (ownK f h w dn fu) (frontW (opsL w) K T)).h (cutW (ownK f h w dn fu) (frontW (opsL w) K T)).w from front_h h (opsL w) K T]; simp) ?_
      refine dwp_skip ?_
      refine dwp_seq ?_
      refine dwp_seq ?_
      refine dwp_region ?_
      refine walk_r rfl rfl rfl (op_move (.inl rfl) (ev1 rfl)) ?_
      refine walk_nil ?_
      refine dwp_block ?_
      refine dwp_loopS ⟨hs0, rfl⟩ (α := Nat) (fun i => [(144, .val (.int .i64 (i : Int)))]) [(7, _), (8, _), (10, _), (11, _)] (fun i => []) [_, _, _, _] (fun i => i ≤ 4) (fun i => 4 - i) 0 [0, 1, 2, 3] (by simp) rfl ⟨rfl, rfl, rfl, rfl, trivial⟩ ⟨rfl, trivial⟩ ⟨rfl, rfl, rfl, rfl, trivial⟩ ?_
      intro i hx
      simp only [upd, List.set_cons_zero, List.set_cons_succ, List.cons_append, List.nil_append]
      have hi := hx
      refine dwp_seq ?_
      refine dwp_region ?_
      refine walk_r rfl rfl rfl (op_lss rfl (ev1 rfl) (ev1 rfl)) ?_
      refine walk_nil ?_
      refine dwp_seq ?_
      refine dwp_cond rfl (fun c13 => ?_) (fun c13 => ?_)
      · try simp only [decide_eq_true_eq, decide_eq_false_iff_not, beq_iff_eq, bne_iff_ne, beq_eq_false_iff_ne, bne_eq_false_iff_eq, Bool.not_eq_true', Bool.not_eq_false', Bool.and_eq_true, Bool.or_eq_true, Bool.or_eq_false_iff, ne_eq, Decidable.not_not, Int.not_lt, Int.not_le] at c13
        refine dwp_skip ?_
        refine dwp_seq ?_
        refine dwp_block ?_
        refine dwp_seq ?_
        have hi4 : i < 4 := by omega
        have e1 : seF (fallS (ownK f h w dn fu) K T).f (fallS (ownK f h w dn fu) K T).w i = seF (cutW (ownK f h w dn fu) (frontW (opsL w) K T)).f (cutW (ownK f h w dn fu) (frontW (opsL w) K T)).w i := congrFun (front_f (ownF f) (opsL w) K T) i
        have e2 : seF (syS (ownK f h w dn fu)).f (syS (ownK f h w dn fu)).w i = seF (ownK f h w dn fu).f (ownK f h w dn fu).w i := rfl
        have hn2 : isN (seF (cutW (ownK f h w dn fu) (frontW (opsL w) K T)).f (cutW (ownK f h w dn fu) (frontW (opsL w) K T)).w i) := isN_seF _ _ (chk_parts hro).2.2.1 hNo (isN_front hNp K T) i hi4
        have hn4 : isN (seF (ownK f h w dn fu).f (ownK f h w dn fu).w i) := isN_seF _ _ (chk_parts hd).2.2.1 hNo hNp i hi4
        refine dwp_region ?_
        refine walk_r rfl rfl rfl (op_move (.inl rfl) (ev1 rfl)) ?_
        refine walk_r rfl rfl rfl (op_move (.inr rfl) (ev1 rfl)) ?_
        refine walk_nil ?_
        refine dwp_seq ?_
        refine dwp_region ?_
        refine walk_r rfl rfl rfl (op_ldmw rfl tb26 (ev1 rfl) rfl rfl) ?_
        refine walk_r rfl rfl rfl (op_move (.inl rfl) (ev1 rfl)) ?_
        refine walk_r rfl rfl rfl (dop_call [] [] [] rfl (ev1 rfl) (ec (ev1 rfl) (ec (ev1 rfl) en)) rfl rfl (readI (fallS (ownK f h w dn fu) K T) (hfo) i hi4) rfl rfl rfl rfl rfl rfl) ?_
        refine walk_r rfl rfl rfl (op_move (.inl rfl) (ev1 rfl)) ?_
        refine walk_r rfl rfl rfl (op_ext rfl (ev1 rfl) rfl) ?_
        refine walk_r rfl rfl rfl (op_ext rfl (ev1 rfl) rfl) ?_
        refine walk_r rfl rfl rfl (op_move (.inr rfl) (ev1 rfl)) ?_
        refine walk_r rfl rfl rfl (op_move (.inr rfl) (ev1 rfl)) ?_
        refine walk_nil ?_
        refine dwp_seq ?_
        refine dwp_region ?_
        refine walk_r rfl rfl rfl (op_ldmw rfl tb26 (ev1 rfl) rfl rfl) ?_
        refine walk_r rfl rfl rfl (op_move (.inl rfl) (ev1 rfl)) ?_
        refine walk_r rfl rfl rfl (dop_call [] [] [] rfl (ev1 rfl) (ec (ev1 rfl) (ec (ev1 rfl) en)) rfl rfl (readI (cutW (ownK f h w dn fu) (frontW (opsL w) K T)) (hro) i hi4) rfl rfl rfl rfl rfl rfl) ?_
        refine walk_r rfl rfl rfl (op_move (.inl rfl) (ev1 rfl)) ?_
        refine walk_r rfl rfl rfl (op_ext rfl (ev1 rfl) rfl) ?_
        refine walk_r rfl rfl rfl (op_ext rfl (ev1 rfl) rfl) ?_
        refine walk_r rfl rfl rfl (op_move (.inr rfl) (ev1 rfl)) ?_
        refine walk_r rfl rfl rfl (op_move (.inr rfl) (ev1 rfl)) ?_
        refine walk_nil ?_
        refine dwp_seq ?_
        refine dwp_region ?_
        refine walk_r rfl rfl rfl (op_ldmw rfl tb26 (ev1 rfl) rfl rfl) ?_
        refine walk_r rfl rfl rfl (op_move (.inl rfl) (ev1 rfl)) ?_
        refine walk_r rfl rfl rfl (dop_call [] [] [] rfl (ev1 rfl) (ec (ev1 rfl) (ec (ev1 rfl) en)) rfl rfl (readI (syS (ownK f h w dn fu)) (hso) i hi4) rfl rfl rfl rfl rfl rfl) ?_
        refine walk_r rfl rfl rfl (op_move (.inl rfl) (ev1 rfl)) ?_
        refine walk_r rfl rfl rfl (op_ext rfl (ev1 rfl) rfl) ?_
        refine walk_r rfl rfl rfl (op_ext rfl (ev1 rfl) rfl) ?_
        refine walk_r rfl rfl rfl (op_move (.inr rfl) (ev1 rfl)) ?_
        refine walk_r rfl rfl rfl (op_move (.inr rfl) (ev1 rfl)) ?_
        refine walk_nil ?_
        refine dwp_seq ?_
        refine dwp_region ?_
        refine walk_r rfl rfl rfl (op_ldmw rfl tb26 (ev1 rfl) rfl rfl) ?_
        refine walk_r rfl rfl rfl (op_move (.inl rfl) (ev1 rfl)) ?_
        refine walk_r rfl rfl rfl (dop_call [] [] [] rfl (ev1 rfl) (ec (ev1 rfl) (ec (ev1 rfl) en)) rfl rfl (readI (ownK f h w dn fu) (hd) i hi4) rfl rfl rfl rfl rfl rfl) ?_
        refine walk_r rfl rfl rfl (op_move (.inl rfl) (ev1 rfl)) ?_
        refine walk_r rfl rfl rfl (op_ext rfl (ev1 rfl) rfl) ?_
        refine walk_r rfl rfl rfl (op_ext rfl (ev1 rfl) rfl) ?_
        refine walk_r rfl rfl rfl (op_move (.inr rfl) (ev1 rfl)) ?_
        refine walk_r rfl rfl rfl (op_move (.inr rfl) (ev1 rfl)) ?_
        refine walk_nil ?_
        refine dwp_seq ?_
        refine dwp_region ?_
        refine walk_r rfl rfl rfl (op_move (.inl rfl) (ev1 rfl)) ?_
        refine walk_r rfl rfl rfl (op_neq rfl (ev1 rfl) (ev1 rfl)) ?_
        refine walk_r rfl rfl rfl (op_move (.inl rfl) (ev1 rfl)) ?_
        refine walk_gr (gd_f rfl rfl rfl) rfl rfl rfl (op_move (.inl rfl) (ev1 rfl)) ?_
        refine walk_gr (gd_f rfl rfl rfl) rfl rfl rfl (op_neq rfl (ev2 rfl) (ev1 rfl)) ?_
        refine walk_r rfl rfl rfl (op_or rfl (ev1 rfl) (ev3 rfl id)) ?_
        refine walk_r rfl rfl rfl (op_move (.inl rfl) (ev1 rfl)) ?_
        refine walk_gr (gd_f rfl rfl rfl) rfl rfl rfl (op_move (.inl rfl) (ev1 rfl)) ?_
        refine walk_gr (gd_f rfl rfl rfl) rfl rfl rfl (op_neq rfl (ev2 rfl) (ev1 rfl)) ?_
        refine walk_r rfl rfl rfl (op_or rfl (ev1 rfl) (ev3 rfl id)) ?_
        refine walk_r rfl rfl rfl (op_move (.inl rfl) (ev1 rfl)) ?_
        refine walk_gr (gd_f rfl rfl rfl) rfl rfl rfl (op_move (.inl rfl) (ev1 rfl)) ?_
        refine walk_gr (gd_f rfl rfl rfl) rfl rfl rfl (op_neq rfl (ev2 rfl) (ev1 rfl)) ?_
        refine walk_r rfl rfl rfl (op_or rfl (ev1 rfl) (ev3 rfl id)) ?_
        refine walk_r rfl rfl rfl (op_move (.inl rfl) (ev1 rfl)) ?_
        refine walk_gr (gd_f rfl rfl rfl) rfl rfl rfl (op_move (.inl rfl) (ev1 rfl)) ?_
        refine walk_gr (gd_f rfl rfl rfl) rfl rfl rfl (op_move (.inl rfl) (ev1 rfl)) ?_
        refine walk_gr (gd_f rfl rfl rfl) rfl rfl rfl (dop_call [] [] [] rfl (ev1 rfl) (ec (ev2 rfl) (ec (ev2 rfl) en)) rfl rfl (beq_d _ _ (by rw [e1]; exact hn2) hn2) rfl rfl rfl rfl rfl rfl) ?_
        refine walk_gr (gd_f rfl rfl rfl) rfl rfl rfl (op_not rfl (ev2 rfl)) ?_
        refine walk_r rfl rfl rfl (op_or rfl (ev1 rfl) (ev3 rfl id)) ?_
        refine walk_r rfl rfl rfl (op_move (.inl rfl) (ev1 rfl)) ?_
        refine walk_gr (gd_f rfl rfl rfl) rfl rfl rfl (op_move (.inl rfl) (ev1 rfl)) ?_
        refine walk_gr (gd_f rfl rfl rfl) rfl rfl rfl (op_move (.inl rfl) (ev1 rfl)) ?_
        refine walk_gr (gd_f rfl rfl rfl) rfl rfl rfl (dop_call [] [] [] rfl (ev1 rfl) (ec (ev2 rfl) (ec (ev2 rfl) en)) rfl rfl (beq_d _ _ (by rw [e2]; exact hn4) hn4) rfl rfl rfl rfl rfl rfl) ?_
        refine walk_gr (gd_f rfl rfl rfl) rfl rfl rfl (op_not rfl (ev2 rfl)) ?_
        refine walk_r rfl rfl rfl (op_or rfl (ev1 rfl) (ev3 rfl id)) ?_
        refine walk_r rfl rfl rfl (op_move (.inl rfl) (ev1 rfl)) ?_
        refine walk_gr (gd_f rfl rfl rfl) rfl rfl rfl (op_ldmw rfl tb26 (ev1 rfl) rfl rfl) ?_
        refine walk_gr (gd_f rfl rfl rfl) rfl rfl rfl (op_move (.inl rfl) (ev1 rfl)) ?_
        refine walk_gr (gd_f rfl rfl rfl) rfl rfl rfl (dop_call [] [] [] rfl (ev1 rfl) (ec (ev2 rfl) (ec (ev2 rfl) en)) rfl rfl (sizeI (ownK f h w dn fu) hd i hi4) rfl rfl rfl rfl rfl rfl) ?_
        refine walk_gr (gd_f rfl rfl rfl) rfl rfl rfl (op_move (.inl rfl) (ev1 rfl)) ?_
        refine walk_gr (gd_f rfl rfl rfl) rfl rfl rfl (op_len rfl sl22 (ev2 rfl)) ?_
        refine walk_gr (gd_f rfl rfl rfl) rfl rfl rfl (op_neq rfl (ev2 rfl) (ev2 rfl)) ?_
        refine walk_r rfl rfl rfl (op_or rfl (ev1 rfl) (ev3 rfl id)) ?_
        refine walk_nil ?_
        refine dwp_if_f rfl (by rw [e1, e2]; simp) ?_
        refine dwp_skip ?_
        refine dwp_region ?_
        refine walk_r rfl rfl rfl (op_add' rfl (ev1 rfl) (ev1 rfl) (fun _ => IntWalk.i64_in _ (by omega))) ?_
        refine walk_r rfl rfl rfl (op_move (.inl rfl) (ev1 rfl)) ?_
        refine walk_nil ?_
        refine ⟨i + 1, [0, 1, 2, 3], by omega, by simp only []; omega, rfl, ⟨rfl, rfl, rfl, rfl, rfl, trivial⟩, ⟨rfl, rfl, rfl, rfl, trivial⟩⟩
      · try simp only [decide_eq_true_eq, decide_eq_false_iff_not, beq_iff_eq, bne_iff_ne, beq_eq_false_iff_ne, bne_eq_false_iff_eq, Bool.not_eq_true', Bool.not_eq_false', Bool.and_eq_true, Bool.or_eq_true, Bool.or_eq_false_iff, ne_eq, Decidable.not_not, Int.not_lt, Int.not_le] at c13
        refine dwp_exit ?_
        refine dwp_seq ?_
        refine dwp_region ?_
        refine walk_r rfl rfl rfl (op_move (.inr rfl) (ev1 rfl)) ?_
        refine walk_nil ?_
        refine dwp_ret ?_
        refine kend0 (rs1 rfl (rv_t rfl)) rfl ?_
        rfl
end Go.Proofs.Ytjecmkaggobcjaa

namespace Go.Proofs.Ytjecmkaggobcjaa
set_option linter.unusedVariables false
set_option linter.unusedSimpArgs false
open Go.RowKit
theorem sameB_refl (f : Nat → List Nat) (h : Int) (w : List DOpn) (dn : Bool) (fu : Int) : sameB f h w dn fu f h w dn fu = true := by
  unfold sameB fEq
  simp
theorem wk_z0 : Wk (.val (.agg #[.slice none 0 0, .slice none 0 0, .slice none 0 0, .slice none 0 0, .int .i64 0, .slice none 0 0, .bool false, .int .i64 0])) zDk.d := (Wk.vagg [.slice none 0 0, .slice none 0 0, .slice none 0 0, .slice none 0 0, .int .i64 0, .slice none 0 0, .bool false, .int .i64 0]).trans (Wk.agg (WkL.cons (Wk.slf0 1) (WkL.cons (Wk.slf0 1) (WkL.cons (Wk.slf0 1) (WkL.cons (Wk.slf0 1) (WkL.cons (Wk.refl _) (WkL.cons (Wk.slm0 3) (WkL.refl _))))))))
theorem head0 (d : DkS) (hb : fewB (szs d.f) d.w) (hc : ¬ d.ok) : DFun Try.prog 16 [d.d] [] (.val (.int .i64 0)) [] := by
  have h := head_d d.f d.h d.w d.dn d.fu hb
  rw [if_neg (show ¬ chkB d.f d.h d.w d.dn d.fu = true from hc)] at h
  exact h
theorem size0 (d : DkS) (n : Int) (hb : fewB (szs d.f) d.w) (hc : ¬ (d.ok ∧ fileB n = true)) : DFun Try.prog 21 [d.d, .val (.int .i64 n)] [] (.val (.int .i64 0)) [] := by
  have h := size_d d.f d.h d.w d.dn d.fu n hb
  rw [if_neg (fun e => hc (by rw [Bool.and_eq_true] at e; exact e))] at h
  exact h
theorem sizeN (d : DkS) (hd : d.ok) (n : Int) (hn : fileB n = true) : DFun Try.prog 21 [d.d, .val (.int .i64 n)] [] (.val (.int .i64 ((seF d.f d.w n.toNat).length : Int))) [] := by
  obtain ⟨i, rfl⟩ := Int.eq_ofNat_of_zero_le (file_in hn).1
  exact sizeI d hd i (by have := (file_in hn).2; omega)
theorem seen_at {d : DkS} (hd : d.ok) {n : Int} (hn : fileB n = true) : seenB n (d.f n.toNat) d.w = seF d.f d.w n.toNat := by
  obtain ⟨i, rfl⟩ := Int.eq_ofNat_of_zero_le (file_in hn).1
  exact (seF_seen i d.w d.f (chk_parts hd).2.2.1).symm
def inI (z : Int) : List Value := [.int .i64 z]
theorem row_two (l : List Int) : D.slf 1 (2 + l.length) ([.int .i64 0, .int .i64 3] ++ l.flatMap inI) = D.slf 1 (0 :: 3 :: l).length ((0 :: 3 :: l).flatMap inI) := by
  rw [show (0 :: 3 :: l).length = 2 + l.length by simp; omega]; rfl
end Go.Proofs.Ytjecmkaggobcjaa

namespace Go.Proofs.Ytjecmkaggobcjaa
set_option linter.unusedVariables false
set_option linter.unusedSimpArgs false
open Go.RowKit
set_option maxRecDepth 4000 in
set_option maxHeartbeats 1000000 in
theorem tells_d (f : Nat → List Nat) (h : Int) (w : List DOpn) (dn : Bool) (fu : Int) (hNf : ∀ i, i < 4 → isN (f i)) (hNw : ∀ o ∈ w, isN o.b) (f2 : Nat → List Nat) (h2 : Int) (w2 : List DOpn) (dn2 : Bool) (fu2 : Int) (hNf2 : ∀ i, i < 4 → isN (f2 i)) (hNw2 : ∀ o ∈ w2, isN o.b) (fs : List Int) (hfs : fs.length * 8 ≤ 140737488351232) : DFun Try.prog 3 [.agg (dD f h w dn fu), .agg (dD f2 h2 w2 dn2 fu2), .slf 1 fs.length (fs.flatMap inI)] [] (.val (.bool true)) [] := by
  refine dcalls_go (N := 131) 0 (by kernel_rfl) Try.func3 rfl rfl rfl (by simp only [fr0, Nat.zero_add, Nat.reduceAdd]; exact rfl) rfl fun s0 hs0 => ?_
  refine dwp_len (t := 2) rfl fun hl2 hL2 => ?_
  refine dwp_seq ?_
  refine dwp_region ?_
  refine walk_r rfl rfl rfl (op_boxf rfl rfl (ev1 rfl)) ?_
  refine walk_r rfl rfl rfl (op_boxf rfl rfl (ev1 rfl)) ?_
  refine walk_r rfl rfl rfl (op_move (.inr rfl) (ev1 rfl)) ?_
  refine walk_nil ?_
  refine dwp_seq ?_
  refine dwp_seq ?_
  refine dwp_region ?_
  refine walk_r rfl rfl rfl (dop_call [] [] [] rfl (ev1 rfl) en rfl rfl (wakes_d) rfl rfl rfl rfl rfl rfl) ?_
  refine walk_r rfl rfl rfl (op_not rfl (ev1 rfl)) ?_
  refine walk_nil ?_
  refine dwp_if_f rfl (rfl) ?_
  refine dwp_skip ?_
  refine dwp_seq ?_
  have hwl := opsL_len w
  have hwl2 := opsL_len w2
  refine dwp_holes 2 (by simp only [holes, List.cons_append, List.nil_append]; exact rfl) ?_
  refine dwp_draw [([], []), ([], []), ([], []), ([], []), ([0], [0]), ([1], [1]), ([0], [0]), ([1], [1])] mixed (by kernel_rfl) ?_
  refine lex_r rfl rfl (op_lddr rfl tb26 (ev1 rfl) rfl rfl) ?_
  refine lex_r rfl rfl (dop_call [] [] [] rfl (ev1 rfl) (ec (ev1 rfl) en) rfl rfl (own_d f h w dn fu) rfl rfl rfl rfl rfl rfl) ?_
  refine lex_r rfl rfl (op_lddr rfl tb26 (ev1 rfl) rfl rfl) ?_
  refine lex_r rfl rfl (dop_call [] [] [] rfl (ev1 rfl) (ec (ev1 rfl) en) rfl rfl (own_d f2 h2 w2 dn2 fu2) rfl rfl rfl rfl rfl rfl) ?_
  refine lex_w rfl rfl (op_alloc 0 rfl zr26 rfl) rfl (by simp only [upd, List.set_cons_zero, List.set_cons_succ]; exact rfl) ?_
  refine lex_w rfl rfl (op_alloc 1 rfl zr26 rfl) rfl (by simp only [upd, List.set_cons_zero, List.set_cons_succ]; exact rfl) ?_
  refine lex_s rfl rfl (op_stam rfl tb26 (ev1 rfl) (ev1 rfl) rfl rfl rfl rfl) rfl (by simp only [upd, List.set_cons_zero, List.set_cons_succ]; exact rfl) ?_
  refine lex_s rfl rfl (op_stam rfl tb26 (ev1 rfl) (ev1 rfl) rfl rfl rfl rfl) rfl (by simp only [upd, List.set_cons_zero, List.set_cons_succ]; exact rfl) ?_
  refine lex_nil ?_
  refine dwp_seq ?_
  refine dwp_region ?_
  refine walk_r rfl rfl rfl (op_ldmw rfl tb26 (ev1 rfl) rfl rfl) ?_
  refine walk_r rfl rfl rfl (dop_call [] [] [] rfl (ev1 rfl) (ec (ev1 rfl) en) rfl rfl (rright_d (ownF f) h (opsL w) dn fu (own_few f w)) rfl rfl rfl rfl rfl rfl) ?_
  refine walk_r rfl rfl rfl (op_move (.inr rfl) (ev1 rfl)) ?_
  refine walk_nil ?_
  refine dwp_seq ?_
  refine dwp_seq ?_
  refine dwp_region ?_
  refine walk_r rfl rfl rfl (op_ldmw rfl tb26 (ev1 rfl) rfl rfl) ?_
  refine walk_r rfl rfl rfl (dop_call [] [] [] rfl (ev1 rfl) (ec (ev1 rfl) en) rfl rfl (check_d (ownF f) h (opsL w) dn fu (own_few f w)) rfl rfl rfl rfl rfl rfl) ?_
  refine walk_r rfl rfl rfl (op_move (.inr rfl) (ev1 rfl)) ?_
  refine walk_nil ?_
  refine dwp_seq ?_
  refine dwp_draw [([], []), ([], []), ([], []), ([], []), ([], []), ([], []), ([], []), ([], []), ([], []), ([], []), ([], []), ([], []), ([], []), ([0], []), ([1], []), ([], []), ([0], []), ([1], []), ([], []), ([], []), ([], []), ([], []), ([0], []), ([], []), ([], []), ([], []), ([], []), ([], [])] mixed (by kernel_rfl) ?_
  refine lex_r rfl rfl (op_move (.inl rfl) (ev1 rfl)) ?_
  refine lex_r rfl rfl (op_eql rfl (ev1 rfl) (ev1 rfl)) ?_
  refine lex_r rfl rfl (op_move (.inl rfl) (ev1 rfl)) ?_
  refine lex_r rfl rfl (op_neb rfl un4 (ev1 rfl) (ev1 rfl)) ?_
  refine lex_r rfl rfl (op_move (.inl rfl) (ev1 rfl)) ?_
  refine lex_gr (gd_f rfl rfl rfl) rfl rfl (op_move (.inl rfl) (ev1 rfl)) ?_
  refine lex_gr (gd_f rfl rfl rfl) rfl rfl (op_neq rfl (ev2 rfl) (ev1 rfl)) ?_
  refine lex_gr (gd_f rfl rfl rfl) rfl rfl (op_move (.inl rfl) (ev2 rfl)) ?_
  refine lex_gr (gd_tt rfl rfl rfl) rfl rfl (op_move (.inl rfl) (ev1 rfl)) ?_
  refine lex_gr (gd_tt rfl rfl rfl) rfl rfl (op_neq rfl (ev2 rfl) (ev1 rfl)) ?_
  refine lex_gr (gd_f rfl rfl rfl) rfl rfl (op_and rfl (ev2 rfl) (ev2 rfl)) ?_
  refine lex_r rfl rfl (op_or rfl (ev1 rfl) (ev3 rfl id)) ?_
  refine lex_r rfl rfl (op_move (.inl rfl) (ev1 rfl)) ?_
  refine lex_gr (gd_f rfl rfl rfl) rfl rfl (op_ldmw rfl tb26 (ev1 rfl) rfl rfl) ?_
  refine lex_gr (gd_f rfl rfl rfl) rfl rfl (op_ldmw rfl tb26 (ev1 rfl) rfl rfl) ?_
  refine lex_gr (gd_f rfl rfl rfl) rfl rfl (dop_call [] [] [] rfl (ev1 rfl) (ec (ev2 rfl) (ec (ev2 rfl) en)) rfl rfl (dsame_d (ownF f) h (opsL w) dn fu (ownF f2) h2 (opsL w2) dn2 fu2 (fun i hi => ⟨isN_own hNf i hi, isN_own hNf2 i hi⟩) (isN_ops hNw) (isN_ops hNw2)) rfl rfl rfl rfl rfl rfl) ?_
  refine lex_gr (gd_f rfl rfl rfl) rfl rfl (op_ldmw rfl tb26 (ev1 rfl) rfl rfl) ?_
  refine lex_gr (gd_f rfl rfl rfl) rfl rfl (op_ldmw rfl tb26 (ev1 rfl) rfl rfl) ?_
  refine lex_gr (gd_f rfl rfl rfl) rfl rfl (dop_call [] [] [] rfl (ev1 rfl) (ec (ev2 rfl) (ec (ev2 rfl) en)) rfl rfl (rsame_d (ownF f) h (opsL w) dn fu (ownF f2) h2 (opsL w2) dn2 fu2 (by omega)) rfl rfl rfl rfl rfl rfl) ?_
  refine lex_gr (gd_f rfl rfl rfl) rfl rfl (op_neb rfl un4 (ev2 rfl) (ev2 rfl)) ?_
  refine lex_r rfl rfl (op_or rfl (ev1 rfl) (ev3 rfl id)) ?_
  refine lex_r rfl rfl (op_move (.inl rfl) (ev1 rfl)) ?_
  refine lex_gr (gd_f rfl rfl rfl) rfl rfl (op_ldmw rfl tb26 (ev1 rfl) rfl rfl) ?_
  refine lex_gr (gd_f rfl rfl rfl) rfl rfl (op_lddr rfl tb26 (ev1 rfl) rfl rfl) ?_
  refine lex_gr (gd_f rfl rfl rfl) rfl rfl (dop_call [] [] [] rfl (ev1 rfl) (ec (ev2 rfl) en) rfl rfl (own_d f h w dn fu) rfl rfl rfl rfl rfl rfl) ?_
  refine lex_gr (gd_f rfl rfl rfl) rfl rfl (dop_call [] [] [] rfl (ev1 rfl) (ec (ev2 rfl) (ec (ev2 rfl) en)) rfl rfl (dsame_d (ownF f) h (opsL w) dn fu (ownF f) h (opsL w) dn fu (fun i hi => ⟨isN_own hNf i hi, isN_own hNf i hi⟩) (isN_ops hNw) (isN_ops hNw)) rfl rfl rfl rfl rfl rfl) ?_
  refine lex_gr (gd_f rfl rfl rfl) rfl rfl (op_not rfl (ev2 rfl)) ?_
  refine lex_r rfl rfl (op_or rfl (ev1 rfl) (ev3 rfl id)) ?_
  refine lex_nil ?_
  refine dwp_if_f rfl (by rw [sameB_refl]; generalize sameB (ownF f) h (opsL w) dn fu (ownF f2) h2 (opsL w2) dn2 fu2 = s; cases chkB (ownF f) h (opsL w) dn fu <;> cases s <;> rfl) ?_
  refine dwp_skip ?_
  refine dwp_seq ?_
  refine dwp_region ?_
  refine walk_r rfl rfl rfl (op_move (.inr rfl) (ev1 rfl)) ?_
  refine walk_nil ?_
  refine dwp_seq ?_
  refine dwp_holes 1 (by simp only [holes, List.cons_append, List.nil_append]; exact rfl) ?_
  refine dwp_region ?_
  refine walk_w rfl rfl rfl (op_alloc 2 rfl zr26 rfl) (by simp only [upd, List.set_cons_zero, List.set_cons_succ]; exact rfl) ?_
  refine walk_nil ?_
  refine dwp_seq ?_
  refine dwp_seq ?_
  refine dwp_region ?_
  refine walk_r rfl rfl rfl (op_move (.inl rfl) (ev1 rfl)) ?_
  refine walk_nil ?_
  refine dwp_cond rfl (fun cR => ?_) (fun cR => ?_)
  · have hd : (ownK f h w dn fu).ok := cR
    refine dwp_seq ?_
    refine dwp_region ?_
    refine walk_r rfl rfl rfl (op_ldmw rfl tb26 (ev1 rfl) rfl rfl) ?_
    refine walk_r rfl rfl rfl (dop_call [] [] [] rfl (ev1 rfl) (ec (ev1 rfl) en) rfl rfl (rseen_d (ownF f) h (opsL w) dn fu (chk_parts hd).2.2.1 (own_few f w)) rfl rfl rfl rfl rfl rfl) ?_
    refine walk_s rfl rfl (op_stam rfl tb26 (ev1 rfl) (ev1 rfl) rfl rfl rfl rfl) (by simp only [upd, List.set_cons_zero, List.set_cons_succ]; exact rfl) ?_
    refine walk_nil ?_
    refine dwp_region ?_
    refine walk_r rfl rfl rfl (op_fa rfl fo26_1 (ev1 rfl)) ?_
    refine walk_r rfl rfl rfl (op_ldm rfl tb3 (ev1 rfl) rfl rfl) ?_
    refine walk_r rfl rfl rfl (op_move (.inr rfl) (ev1 rfl)) ?_
    refine walk_nil ?_
    refine dwp_seq ?_
    refine dwp_seq ?_
    refine dwp_region ?_
    refine walk_r rfl rfl rfl (op_ldmw rfl tb26 (ev1 rfl) rfl rfl) ?_
    refine walk_r rfl rfl rfl (dop_call [] [] [] rfl (ev1 rfl) (ec (ev1 rfl) en) rfl rfl (headZ (ownK f h w dn fu) hd) rfl rfl rfl rfl rfl rfl) ?_
    refine walk_r rfl rfl rfl (op_move (.inl rfl) (ev1 rfl)) ?_
    refine walk_r rfl rfl rfl (op_neq rfl (ev1 rfl) (ev1 rfl)) ?_
    refine walk_r rfl rfl rfl (op_move (.inl rfl) (ev1 rfl)) ?_
    refine walk_gr (gd_f rfl rfl rfl) rfl rfl rfl (dop_call [] [] [] rfl (ev1 rfl) en rfl rfl (newZ) rfl rfl rfl rfl rfl rfl) ?_
    refine walk_gr (gd_f rfl rfl rfl) rfl rfl rfl ((op_build0 rfl fl26 zr26).wk wk_z0) ?_
    refine walk_gr (gd_f rfl rfl rfl) rfl rfl rfl (dop_call [] [] [] rfl (ev1 rfl) (ec (ev2 rfl) (ec (ev2 rfl) en)) rfl rfl (rsame_d zDk.f zDk.h zDk.w zDk.dn zDk.fu zDk.f zDk.h zDk.w zDk.dn zDk.fu (by decide)) rfl rfl rfl rfl rfl rfl) ?_
    refine walk_gr (gd_f rfl rfl rfl) rfl rfl rfl (op_not rfl (ev2 rfl)) ?_
    refine walk_r rfl rfl rfl (op_or rfl (ev1 rfl) (ev3 rfl id)) ?_
    refine walk_nil ?_
    refine dwp_if_f rfl (by rw [show sameB zDk.f zDk.h zDk.w zDk.dn zDk.fu zDk.f zDk.h zDk.w zDk.dn zDk.fu = true from sameB_refl ..]; simp [ownK]) ?_
    refine dwp_skip ?_
    refine dwp_seq ?_
    refine dwp_seq ?_
    refine dwp_holes 2 (by simp only [holes, List.cons_append, List.nil_append]; exact rfl) ?_
    refine dwp_region ?_
    refine walk_w rfl rfl rfl (op_bsa (ps := [(0, .const (.int .i64 0)), (1, .const (.int .i64 3))]) 3 rfl sl27 zr3 rfl (vc (ev1 rfl) (vc (ev1 rfl) vn)) rfl (by decide) (by decide) rfl) (by simp only [upd, List.set_cons_zero, List.set_cons_succ]; exact rfl) ?_
    refine walk_r rfl rfl rfl (op_move (.inl rfl) (ev1 rfl)) ?_
    refine walk_w rfl rfl rfl ((op_app (j := 4) rfl sl27 zr3 rfl (ev1 rfl) (ev1 rfl) src_slf rfl rfl (fun _ => flat_oc (fun _ => rfl) _) (fun _ => ⟨by omega, by omega⟩)).giveA2 rfl rfl) (by simp only [upd, List.set_cons_zero, List.set_cons_succ]; exact rfl) ?_
    refine walk_r rfl rfl rfl (op_len rfl sl27 (ev1 rfl)) ?_
    refine walk_r rfl rfl rfl (op_move (.inl rfl) (ev1 rfl)) ?_
    refine walk_nil ?_
    refine dwp_block ?_
    refine dwp_wk 75 rfl (Wk.of_eq (row_two fs)) ?_
    refine dwp_loopS ⟨hs0, rfl⟩ (α := Nat) (fun k => [(77, .val (.int .i64 (k : Int)))]) [(3, _), (7, _), (9, _), (12, _), (75, _), (76, _)] (fun k => []) [_, _, _, _, _] (fun k => k ≤ (0 :: 3 :: fs).length) (fun k => (0 :: 3 :: fs).length - k) 0 [0, 1, 2, 3, 4] (Nat.zero_le _) rfl ⟨rfl, rfl, rfl, rfl, rfl, rfl, trivial⟩ ⟨rfl, trivial⟩ ⟨rfl, rfl, rfl, rfl, rfl, trivial⟩ ?_
    intro k hx
    simp only [upd, List.set_cons_zero, List.set_cons_succ, List.cons_append, List.nil_append]
    have hk := hx
    have hfl : (0 :: 3 :: fs).length = 2 + fs.length := by simp; omega
    refine dwp_seq ?_
    refine dwp_region ?_
    refine walk_r rfl rfl rfl (op_lss rfl (ev1 rfl) (ev1 rfl)) ?_
    refine walk_nil ?_
    refine dwp_seq ?_
    refine dwp_cond rfl (fun c5 => ?_) (fun c5 => ?_)
    · try simp only [decide_eq_true_eq, decide_eq_false_iff_not, beq_iff_eq, bne_iff_ne, beq_eq_false_iff_ne, bne_eq_false_iff_eq, Bool.not_eq_true', Bool.not_eq_false', Bool.and_eq_true, Bool.or_eq_true, Bool.or_eq_false_iff, ne_eq, Decidable.not_not, Int.not_lt, Int.not_le] at c5
      refine dwp_skip ?_
      refine dwp_seq ?_
      refine dwp_block ?_
      refine dwp_seq ?_
      have hkl : k < (0 :: 3 :: fs).length := by omega
      refine dwp_region ?_
      refine walk_r rfl rfl rfl (op_move (.inl rfl) (ev1 rfl)) ?_
      refine walk_r rfl rfl rfl (op_ixsr (j := k) rfl sl27 (ev1 rfl) (ev1 rfl) (fun _ => rfl) (by decide) (by omega) (by omega)) ?_
      refine walk_r rfl rfl rfl (op_ldod rfl tb3 (ev1 rfl) rfl) ?_
      refine walk_r rfl rfl rfl (op_move (.inr rfl) (ev1 rfl)) ?_
      refine walk_r rfl rfl rfl (op_move (.inr rfl) (ev1 rfl)) ?_
      refine walk_nil ?_
      refine dwp_seq ?_
      refine dwp_seq ?_
      refine dwp_region ?_
      refine walk_r rfl rfl rfl (op_move (.inl rfl) (ev1 rfl)) ?_
      refine walk_r rfl rfl rfl (op_eql rfl (ev1 rfl) (ev1 rfl)) ?_
      refine walk_nil ?_
      refine dwp_cond rfl (fun c6 => ?_) (fun c6 => ?_)
      · try simp only [decide_eq_true_eq, decide_eq_false_iff_not, beq_iff_eq, bne_iff_ne, beq_eq_false_iff_ne, bne_eq_false_iff_eq, Bool.not_eq_true', Bool.not_eq_false', Bool.and_eq_true, Bool.or_eq_true, Bool.or_eq_false_iff, ne_eq, Decidable.not_not, Int.not_lt, Int.not_le] at c6
        refine dwp_exit ?_
        refine dwp_seq ?_
        refine dwp_draw [([0], []), ([], []), ([], []), ([], []), ([], [])] mixed (by kernel_rfl) ?_
        refine lex_r rfl rfl (op_ldmw rfl tb26 (ev1 rfl) rfl rfl) ?_
        refine lex_r rfl rfl (op_lddr rfl tb26 (ev1 rfl) rfl rfl) ?_
        refine lex_r rfl rfl (dop_call [] [] [] rfl (ev1 rfl) (ec (ev1 rfl) en) rfl rfl (own_d f h w dn fu) rfl rfl rfl rfl rfl rfl) ?_
        refine lex_r rfl rfl (dop_call [] [] [] rfl (ev1 rfl) (ec (ev1 rfl) (ec (ev1 rfl) en)) rfl rfl (rsame_d (ownF f) h (opsL w) dn fu (ownF f) h (opsL w) dn fu (by omega)) rfl rfl rfl rfl rfl rfl) ?_
        refine lex_r rfl rfl (op_move (.inr rfl) (ev1 rfl)) ?_
        refine lex_nil ?_
        refine dwp_ret ?_
        refine kend0 (rs1 rfl (rv_t rfl)) rfl ?_
        first | rfl | exact congrArg (fun b => D.val (.bool b)) (sameB_refl ..)
      · try simp only [decide_eq_true_eq, decide_eq_false_iff_not, beq_iff_eq, bne_iff_ne, beq_eq_false_iff_ne, bne_eq_false_iff_eq, Bool.not_eq_true', Bool.not_eq_false', Bool.and_eq_true, Bool.or_eq_true, Bool.or_eq_false_iff, ne_eq, Decidable.not_not, Int.not_lt, Int.not_le] at c6
        refine dwp_skip ?_
        refine dwp_seq ?_
        by_cases hfb : fileB ((0 :: 3 :: fs)[k]'hkl) = true
        · refine dwp_holes 1 (by simp only [holes, List.cons_append, List.nil_append]; exact rfl) ?_
          refine dwp_region ?_
          refine walk_r rfl rfl rfl (op_ldmw rfl tb26 (ev1 rfl) rfl rfl) ?_
          refine walk_r rfl rfl rfl (op_move (.inl rfl) (ev1 rfl)) ?_
          refine walk_w rfl rfl rfl (dop_call [] [] [5] rfl (ev1 rfl) (ec (ev1 rfl) (ec (ev1 rfl) en)) rfl rfl (read_o (ownF f) h (opsL w) dn fu ((0 :: 3 :: fs)[k]'hkl) (own_few f w) hd hfb) rfl rfl rfl rfl rfl rfl) (by simp only [upd, List.set_cons_zero, List.set_cons_succ]; exact rfl) ?_
          refine walk_r rfl rfl rfl (op_move (.inl rfl) (ev1 rfl)) ?_
          refine walk_r rfl rfl rfl (op_ext rfl (ev1 rfl) rfl) ?_
          refine walk_r rfl rfl rfl (op_ext rfl (ev1 rfl) rfl) ?_
          refine walk_r rfl rfl rfl (op_move (.inr rfl) (ev1 rfl)) ?_
          refine walk_r rfl rfl rfl (op_move (.inr rfl) (ev1 rfl)) ?_
          refine walk_nil ?_
          refine dwp_seq ?_
          refine dwp_region ?_
          refine walk_r rfl rfl rfl (op_move (.inr rfl) (ev1 rfl)) ?_
          refine walk_nil ?_
          refine dwp_seq ?_
          refine dwp_region ?_
          refine walk_r rfl rfl rfl (op_move (.inr rfl) (ev1 rfl)) ?_
          refine walk_nil ?_
          refine dwp_seq ?_
          refine dwp_seq ?_
          refine dwp_region ?_
          refine walk_r rfl rfl rfl (op_move (.inl rfl) (ev1 rfl)) ?_
          refine walk_nil ?_
          refine dwp_if_t rfl (cR) ?_
          refine dwp_seq ?_
          refine dwp_region ?_
          refine walk_r rfl rfl rfl (op_move (.inr rfl) (ev1 rfl)) ?_
          refine walk_nil ?_
          refine dwp_seq ?_
          refine dwp_region ?_
          refine walk_r rfl rfl rfl (op_move (.inl rfl) (ev1 rfl)) ?_
          refine walk_r rfl rfl rfl (dop_call [] [] [] rfl (ev1 rfl) (ec (ev1 rfl) en) rfl rfl (rfile_d _) rfl rfl rfl rfl rfl rfl) ?_
          refine walk_nil ?_
          refine dwp_if_t rfl (hfb) ?_
          refine dwp_region ?_
          refine walk_r rfl rfl rfl (op_move (.inl rfl) (ev1 rfl)) ?_
          refine walk_r rfl rfl rfl (op_fa rfl fo26_0 (ev1 rfl)) ?_
          refine walk_r rfl rfl rfl (op_ixl rfl ar23 (ev1 rfl) (ev1 rfl) (fun _ => by have := file_in hfb; omega)) ?_
          refine walk_r rfl rfl rfl (op_ldm rfl tb22 (ev1 rfl) rfl ((fcell_m (file_in hfb)))) ?_
          refine walk_r rfl rfl rfl (op_move (.inr rfl) (ev1 rfl)) ?_
          refine walk_r rfl rfl rfl (op_move (.inr rfl) (ev1 rfl)) ?_
          refine walk_nil ?_
          refine dwp_seq ?_
          refine dwp_seq ?_
          refine dwp_region ?_
          refine walk_r rfl rfl rfl (op_move (.inl rfl) (ev1 rfl)) ?_
          refine walk_r rfl rfl rfl (op_move (.inl rfl) (ev1 rfl)) ?_
          refine walk_r rfl rfl rfl (op_neq rfl (ev1 rfl) (ev1 rfl)) ?_
          refine walk_r rfl rfl rfl (op_move (.inl rfl) (ev1 rfl)) ?_
          refine walk_gr (gd_f rfl rfl rfl) rfl rfl rfl (op_move (.inl rfl) (ev1 rfl)) ?_
          refine walk_gr (gd_f rfl rfl rfl) rfl rfl rfl (op_move (.inl rfl) (ev1 rfl)) ?_
          refine walk_gr (gd_f rfl rfl rfl) rfl rfl rfl (dop_call [] [5] [] rfl (ev1 rfl) (ec (ev2 rfl) (ec (ev2 rfl) en)) rfl rfl (equalN (seenB ((0 :: 3 :: fs)[k]'hkl) (ownF f ((0 :: 3 :: fs)[k]'hkl).toNat) (opsL w)) (seF (ownF f) (opsL w) ((0 :: 3 :: fs)[k]'hkl).toNat)) rfl rfl rfl rfl rfl rfl) ?_
          refine walk_gr (gd_f rfl rfl rfl) rfl rfl rfl (op_not rfl (ev2 rfl)) ?_
          refine walk_r rfl rfl rfl (op_or rfl (ev1 rfl) (ev3 rfl id)) ?_
          refine walk_r rfl rfl rfl (op_move (.inl rfl) (ev1 rfl)) ?_
          refine walk_gr (gd_f rfl rfl rfl) rfl rfl rfl (op_ldmw rfl tb26 (ev1 rfl) rfl rfl) ?_
          refine walk_gr (gd_f rfl rfl rfl) rfl rfl rfl (op_move (.inl rfl) (ev1 rfl)) ?_
          refine walk_gr (gd_f rfl rfl rfl) rfl rfl rfl (dop_call [] [] [] rfl (ev1 rfl) (ec (ev2 rfl) (ec (ev2 rfl) en)) rfl rfl (sizeN (ownK f h w dn fu) hd ((0 :: 3 :: fs)[k]'hkl) hfb) rfl rfl rfl rfl rfl rfl) ?_
          refine walk_gr (gd_f rfl rfl rfl) rfl rfl rfl (op_move (.inl rfl) (ev1 rfl)) ?_
          refine walk_gr (gd_f rfl rfl rfl) rfl rfl rfl (op_len rfl sl22 (ev2 rfl)) ?_
          refine walk_gr (gd_f rfl rfl rfl) rfl rfl rfl (op_neq rfl (ev2 rfl) (ev2 rfl)) ?_
          refine walk_r rfl rfl rfl (op_or rfl (ev1 rfl) (ev3 rfl id)) ?_
          refine walk_nil ?_
          refine dwp_if_f rfl (by rw [show (seenB ((0 :: 3 :: fs)[k]'hkl) (ownF f ((0 :: 3 :: fs)[k]'hkl).toNat) (opsL w)) = seF (ownF f) (opsL w) ((0 :: 3 :: fs)[k]'hkl).toNat from seen_at (d := ownK f h w dn fu) hd hfb]; simp [ownK]) ?_
          refine dwp_skip ?_
          refine dwp_seq ?_
          have hRB : (seenB ((0 :: 3 :: fs)[k]'hkl) (ownF f ((0 :: 3 :: fs)[k]'hkl).toNat) (opsL w)).length ≤ 1000000000000 := by
            have h1 := seenB_le (n := ((0 :: 3 :: fs)[k]'hkl)) (b := ownF f ((0 :: 3 :: fs)[k]'hkl).toNat) (own_few f w) (by have := ownF_len f ((0 :: 3 :: fs)[k]'hkl).toNat; omega) (opsL w).length (Nat.le_refl _)
            rw [List.take_length] at h1
            omega
          refine dwp_region ?_
          refine walk_r rfl rfl rfl (op_move (.inl rfl) (ev1 rfl)) ?_
          refine walk_r rfl rfl rfl (op_lena rfl sl22 (ev1 rfl) rfl) ?_
          refine walk_r rfl rfl rfl (op_move (.inl rfl) (ev1 rfl)) ?_
          refine walk_nil ?_
          refine dwp_block ?_
          refine dwp_loopS ⟨hs0, rfl⟩ (α := Nat × List Nat) (fun x => [(116, .val (.int .i64 (x.1 : Int)))]) [(3, _), (7, _), (9, _), (12, _), (15, _), (75, _), (76, _), (77, _), (115, _)] (fun x => [(5, .arr 5 1 ((seenB ((0 :: 3 :: fs)[k]'hkl) (ownF f ((0 :: 3 :: fs)[k]'hkl).toNat) (opsL w)).length) ((x.2).flatMap un8))]) [_, _, _, _, _, .hole] (fun x => x.1 ≤ (seenB ((0 :: 3 :: fs)[k]'hkl) (ownF f ((0 :: 3 :: fs)[k]'hkl).toNat) (opsL w)).length ∧ x.2.length = (seenB ((0 :: 3 :: fs)[k]'hkl) (ownF f ((0 :: 3 :: fs)[k]'hkl).toNat) (opsL w)).length) (fun x => (seenB ((0 :: 3 :: fs)[k]'hkl) (ownF f ((0 :: 3 :: fs)[k]'hkl).toNat) (opsL w)).length - x.1) (0, (seenB ((0 :: 3 :: fs)[k]'hkl) (ownF f ((0 :: 3 :: fs)[k]'hkl).toNat) (opsL w))) [0, 1, 2, 3, 4, 5] (⟨by omega, by simp⟩) rfl ⟨rfl, rfl, rfl, rfl, rfl, rfl, rfl, rfl, rfl, trivial⟩ ⟨rfl, trivial⟩ ⟨rfl, rfl, rfl, rfl, rfl, rfl, trivial⟩ ?_
          intro x hx
          simp only [upd, List.set_cons_zero, List.set_cons_succ, List.cons_append, List.nil_append]
          obtain ⟨j, q⟩ := x
          obtain ⟨g1, g2⟩ := hx
          dsimp only at g1 g2 ⊢
          refine dwp_seq ?_
          refine dwp_region ?_
          refine walk_r rfl rfl rfl (op_lss rfl (ev1 rfl) (ev1 rfl)) ?_
          refine walk_nil ?_
          refine dwp_seq ?_
          refine dwp_cond rfl (fun c10 => ?_) (fun c10 => ?_)
          · try simp only [decide_eq_true_eq, decide_eq_false_iff_not, beq_iff_eq, bne_iff_ne, beq_eq_false_iff_ne, bne_eq_false_iff_eq, Bool.not_eq_true', Bool.not_eq_false', Bool.and_eq_true, Bool.or_eq_true, Bool.or_eq_false_iff, ne_eq, Decidable.not_not, Int.not_lt, Int.not_le] at c10
            refine dwp_skip ?_
            refine dwp_seq ?_
            refine dwp_block ?_
            refine dwp_seq ?_
            refine dwp_region ?_
            refine walk_r rfl rfl rfl (op_move (.inl rfl) (ev1 rfl)) ?_
            refine walk_r rfl rfl rfl (op_move (.inr rfl) (ev1 rfl)) ?_
            refine walk_nil ?_
            refine dwp_region ?_
            refine walk_r rfl rfl rfl (op_move (.inl rfl) (ev1 rfl)) ?_
            refine walk_r rfl rfl rfl (op_move (.inl rfl) (ev1 rfl)) ?_
            refine walk_r rfl rfl rfl (op_ixar (j := j) rfl sl22 (ev1 rfl) (ev1 rfl) rfl (fun _ => by first | rfl | omega) (fun _ => by omega)) ?_
            refine walk_r rfl rfl rfl (op_lda1 rfl tb5 (ev1 rfl) rfl (fun _ => rfl) (by omega) rfl) ?_
            refine walk_r rfl rfl rfl ((by rw [← wrap1]; exact op_add rfl (ev1 rfl) (ev1 rfl) : DOp _ _ _ _ _ _ (.val (.int .u8 (((q[j] + 1) % 256 : Nat) : Int))) _)) ?_
            refine walk_r rfl rfl rfl (op_ixar (j := j) rfl sl22 (ev1 rfl) (ev1 rfl) rfl (fun _ => by first | rfl | omega) (fun _ => by omega)) ?_
            refine walk_s rfl rfl (op_staf (l := q) (en := un8) (j := j) (c := 0) (0) ((q[j] + 1) % 256) rfl tb5 (ev1 rfl) (ev1 rfl) rfl rfl rfl rfl (fun _ => rfl) (fun _ => by omega) (Nat.le_of_ble_eq_true rfl) rfl) (by simp only [upd, List.set_cons_zero, List.set_cons_succ]; exact rfl) ?_
            refine walk_nil ?_
            refine dwp_region ?_
            refine walk_r rfl rfl rfl (op_add' rfl (ev1 rfl) (ev1 rfl) (fun _ => IntWalk.i64_in _ (by omega))) ?_
            refine walk_r rfl rfl rfl (op_move (.inl rfl) (ev1 rfl)) ?_
            refine walk_nil ?_
            refine ⟨(j + 1, q.set j ((q[j] + 1) % 256)), [0, 1, 2, 3, 4, 5], ⟨by omega, by simp [g2]⟩, by simp only []; omega, rfl, ⟨rfl, rfl, rfl, rfl, rfl, rfl, rfl, rfl, rfl, rfl, trivial⟩, ⟨rfl, rfl, rfl, rfl, rfl, rfl, trivial⟩⟩
          · try simp only [decide_eq_true_eq, decide_eq_false_iff_not, beq_iff_eq, bne_iff_ne, beq_eq_false_iff_ne, bne_eq_false_iff_eq, Bool.not_eq_true', Bool.not_eq_false', Bool.and_eq_true, Bool.or_eq_true, Bool.or_eq_false_iff, ne_eq, Decidable.not_not, Int.not_lt, Int.not_le] at c10
            refine dwp_exit ?_
            refine dwp_region ?_
            refine walk_r rfl rfl rfl (op_add' rfl (ev1 rfl) (ev1 rfl) (fun _ => IntWalk.i64_in _ (by omega))) ?_
            refine walk_r rfl rfl rfl (op_move (.inl rfl) (ev1 rfl)) ?_
            refine walk_nil ?_
            refine ⟨k + 1, [0, 1, 2, 3, 4], by omega, by simp only []; omega, rfl, ⟨rfl, rfl, rfl, rfl, rfl, rfl, rfl, trivial⟩, ⟨rfl, rfl, rfl, rfl, rfl, trivial⟩⟩
        · refine dwp_region ?_
          refine walk_r rfl rfl rfl (op_ldmw rfl tb26 (ev1 rfl) rfl rfl) ?_
          refine walk_r rfl rfl rfl (op_move (.inl rfl) (ev1 rfl)) ?_
          refine walk_r rfl rfl rfl (dop_call [] [] [] rfl (ev1 rfl) (ec (ev1 rfl) (ec (ev1 rfl) en)) rfl rfl (read_arg (ownF f) h (opsL w) dn fu ((0 :: 3 :: fs)[k]'hkl) (own_few f w) hd (by simpa using hfb)) rfl rfl rfl rfl rfl rfl) ?_
          refine walk_r rfl rfl rfl (op_move (.inl rfl) (ev1 rfl)) ?_
          refine walk_r rfl rfl rfl (op_ext rfl (ev1 rfl) rfl) ?_
          refine walk_r rfl rfl rfl (op_ext rfl (ev1 rfl) rfl) ?_
          refine walk_r rfl rfl rfl (op_move (.inr rfl) (ev1 rfl)) ?_
          refine walk_r rfl rfl rfl (op_move (.inr rfl) (ev1 rfl)) ?_
          refine walk_nil ?_
          refine dwp_seq ?_
          refine dwp_region ?_
          refine walk_r rfl rfl rfl (op_move (.inr rfl) (ev1 rfl)) ?_
          refine walk_nil ?_
          refine dwp_seq ?_
          refine dwp_region ?_
          refine walk_r rfl rfl rfl (op_move (.inr rfl) (ev1 rfl)) ?_
          refine walk_nil ?_
          refine dwp_seq ?_
          refine dwp_seq ?_
          refine dwp_region ?_
          refine walk_r rfl rfl rfl (op_move (.inl rfl) (ev1 rfl)) ?_
          refine walk_nil ?_
          refine dwp_if_t rfl (cR) ?_
          refine dwp_seq ?_
          refine dwp_region ?_
          refine walk_r rfl rfl rfl (op_move (.inr rfl) (ev1 rfl)) ?_
          refine walk_nil ?_
          refine dwp_seq ?_
          refine dwp_region ?_
          refine walk_r rfl rfl rfl (op_move (.inl rfl) (ev1 rfl)) ?_
          refine walk_r rfl rfl rfl (dop_call [] [] [] rfl (ev1 rfl) (ec (ev1 rfl) en) rfl rfl (rfile_d _) rfl rfl rfl rfl rfl rfl) ?_
          refine walk_nil ?_
          refine dwp_if_f rfl (by simpa using hfb) ?_
          refine dwp_skip ?_
          refine dwp_seq ?_
          refine dwp_seq ?_
          refine dwp_wk 15 rfl (Wk.slf0 1) ?_
          refine dwp_wk 17 rfl (Wk.slf0 1) ?_
          refine dwp_region ?_
          refine walk_r rfl rfl rfl (op_move (.inl rfl) (ev1 rfl)) ?_
          refine walk_r rfl rfl rfl (op_move (.inl rfl) (ev1 rfl)) ?_
          refine walk_r rfl rfl rfl (op_neq rfl (ev1 rfl) (ev1 rfl)) ?_
          refine walk_r rfl rfl rfl (op_move (.inl rfl) (ev1 rfl)) ?_
          refine walk_gr (gd_f rfl rfl rfl) rfl rfl rfl (op_move (.inl rfl) (ev1 rfl)) ?_
          refine walk_gr (gd_f rfl rfl rfl) rfl rfl rfl (op_move (.inl rfl) (ev1 rfl)) ?_
          refine walk_gr (gd_f rfl rfl rfl) rfl rfl rfl (dop_call [] [] [] rfl (ev1 rfl) (ec (ev2 rfl) (ec (ev2 rfl) en)) rfl rfl (equalN [] []) rfl rfl rfl rfl rfl rfl) ?_
          refine walk_gr (gd_f rfl rfl rfl) rfl rfl rfl (op_not rfl (ev2 rfl)) ?_
          refine walk_r rfl rfl rfl (op_or rfl (ev1 rfl) (ev3 rfl id)) ?_
          refine walk_r rfl rfl rfl (op_move (.inl rfl) (ev1 rfl)) ?_
          refine walk_gr (gd_f rfl rfl rfl) rfl rfl rfl (op_ldmw rfl tb26 (ev1 rfl) rfl rfl) ?_
          refine walk_gr (gd_f rfl rfl rfl) rfl rfl rfl (op_move (.inl rfl) (ev1 rfl)) ?_
          refine walk_gr (gd_f rfl rfl rfl) rfl rfl rfl (dop_call [] [] [] rfl (ev1 rfl) (ec (ev2 rfl) (ec (ev2 rfl) en)) rfl rfl (size0 (ownK f h w dn fu) ((0 :: 3 :: fs)[k]'hkl) (own_few f w) (fun e => hfb e.2)) rfl rfl rfl rfl rfl rfl) ?_
          refine walk_gr (gd_f rfl rfl rfl) rfl rfl rfl (op_move (.inl rfl) (ev1 rfl)) ?_
          refine walk_gr (gd_f rfl rfl rfl) rfl rfl rfl (op_len rfl sl22 (ev2 rfl)) ?_
          refine walk_gr (gd_f rfl rfl rfl) rfl rfl rfl (op_neq rfl (ev2 rfl) (ev2 rfl)) ?_
          refine walk_r rfl rfl rfl (op_or rfl (ev1 rfl) (ev3 rfl id)) ?_
          refine walk_nil ?_
          refine dwp_if_f rfl (by simp) ?_
          refine dwp_skip ?_
          refine dwp_seq ?_
          refine dwp_region ?_
          refine walk_r rfl rfl rfl (op_move (.inl rfl) (ev1 rfl)) ?_
          refine walk_r rfl rfl rfl (op_len rfl sl22 (ev1 rfl)) ?_
          refine walk_r rfl rfl rfl (op_move (.inl rfl) (ev1 rfl)) ?_
          refine walk_nil ?_
          refine dwp_block ?_
          refine dwp_dloop (dloop_step ?_)
          refine dwp_seq ?_
          refine dwp_region ?_
          refine walk_r rfl rfl rfl (op_lss rfl (ev1 rfl) (ev1 rfl)) ?_
          refine walk_nil ?_
          refine dwp_seq ?_
          refine dwp_if_f rfl (rfl) ?_
          refine dwp_exit ?_
          refine dwp_region ?_
          refine walk_r rfl rfl rfl (op_add' rfl (ev1 rfl) (ev1 rfl) (fun _ => IntWalk.i64_in _ (by omega))) ?_
          refine walk_r rfl rfl rfl (op_move (.inl rfl) (ev1 rfl)) ?_
          refine walk_nil ?_
          refine ⟨k + 1, [0, 1, 2, 3, 4], by omega, by simp only []; omega, rfl, ⟨rfl, rfl, rfl, rfl, rfl, rfl, rfl, trivial⟩, ⟨rfl, rfl, rfl, rfl, rfl, trivial⟩⟩
    · try simp only [decide_eq_true_eq, decide_eq_false_iff_not, beq_iff_eq, bne_iff_ne, beq_eq_false_iff_ne, bne_eq_false_iff_eq, Bool.not_eq_true', Bool.not_eq_false', Bool.and_eq_true, Bool.or_eq_true, Bool.or_eq_false_iff, ne_eq, Decidable.not_not, Int.not_lt, Int.not_le] at c5
      refine dwp_exit ?_
      refine dwp_seq ?_
      refine dwp_draw [([0], []), ([], []), ([], []), ([], []), ([], [])] mixed (by kernel_rfl) ?_
      refine lex_r rfl rfl (op_ldmw rfl tb26 (ev1 rfl) rfl rfl) ?_
      refine lex_r rfl rfl (op_lddr rfl tb26 (ev1 rfl) rfl rfl) ?_
      refine lex_r rfl rfl (dop_call [] [] [] rfl (ev1 rfl) (ec (ev1 rfl) en) rfl rfl (own_d f h w dn fu) rfl rfl rfl rfl rfl rfl) ?_
      refine lex_r rfl rfl (dop_call [] [] [] rfl (ev1 rfl) (ec (ev1 rfl) (ec (ev1 rfl) en)) rfl rfl (rsame_d (ownF f) h (opsL w) dn fu (ownF f) h (opsL w) dn fu (by omega)) rfl rfl rfl rfl rfl rfl) ?_
      refine lex_r rfl rfl (op_move (.inr rfl) (ev1 rfl)) ?_
      refine lex_nil ?_
      refine dwp_ret ?_
      refine kend0 (rs1 rfl (rv_t rfl)) rfl ?_
      first | rfl | exact congrArg (fun b => D.val (.bool b)) (sameB_refl ..)
  · have hcn : ¬ (ownK f h w dn fu).ok := fun e => by rw [show chkB (ownF f) h (opsL w) dn fu = true from e] at cR; cases cR
    refine dwp_skip ?_
    refine dwp_seq ?_
    refine dwp_seq ?_
    refine dwp_region ?_
    refine walk_r rfl rfl rfl (op_ldmw rfl tb26 (ev1 rfl) rfl rfl) ?_
    refine walk_r rfl rfl rfl (dop_call [] [] [] rfl (ev1 rfl) (ec (ev1 rfl) en) rfl rfl (head0 (ownK f h w dn fu) (own_few f w) hcn) rfl rfl rfl rfl rfl rfl) ?_
    refine walk_r rfl rfl rfl (op_move (.inl rfl) (ev1 rfl)) ?_
    refine walk_r rfl rfl rfl (op_neq rfl (ev1 rfl) (ev1 rfl)) ?_
    refine walk_r rfl rfl rfl (op_move (.inl rfl) (ev1 rfl)) ?_
    refine walk_gr (gd_f rfl rfl rfl) rfl rfl rfl (dop_call [] [] [] rfl (ev1 rfl) en rfl rfl (newZ) rfl rfl rfl rfl rfl rfl) ?_
    refine walk_gr (gd_f rfl rfl rfl) rfl rfl rfl ((op_build0 rfl fl26 zr26).wk wk_z0) ?_
    refine walk_gr (gd_f rfl rfl rfl) rfl rfl rfl (dop_call [] [] [] rfl (ev1 rfl) (ec (ev2 rfl) (ec (ev2 rfl) en)) rfl rfl (rsame_d zDk.f zDk.h zDk.w zDk.dn zDk.fu zDk.f zDk.h zDk.w zDk.dn zDk.fu (by decide)) rfl rfl rfl rfl rfl rfl) ?_
    refine walk_gr (gd_f rfl rfl rfl) rfl rfl rfl (op_not rfl (ev2 rfl)) ?_
    refine walk_r rfl rfl rfl (op_or rfl (ev1 rfl) (ev3 rfl id)) ?_
    refine walk_nil ?_
    refine dwp_if_f rfl (by rw [show sameB zDk.f zDk.h zDk.w zDk.dn zDk.fu zDk.f zDk.h zDk.w zDk.dn zDk.fu = true from sameB_refl ..]; simp) ?_
    refine dwp_skip ?_
    refine dwp_seq ?_
    refine dwp_seq ?_
    refine dwp_holes 2 (by simp only [holes, List.cons_append, List.nil_append]; exact rfl) ?_
    refine dwp_region ?_
    refine walk_w rfl rfl rfl (op_bsa (ps := [(0, .const (.int .i64 0)), (1, .const (.int .i64 3))]) 3 rfl sl27 zr3 rfl (vc (ev1 rfl) (vc (ev1 rfl) vn)) rfl (by decide) (by decide) rfl) (by simp only [upd, List.set_cons_zero, List.set_cons_succ]; exact rfl) ?_
    refine walk_r rfl rfl rfl (op_move (.inl rfl) (ev1 rfl)) ?_
    refine walk_w rfl rfl rfl ((op_app (j := 4) rfl sl27 zr3 rfl (ev1 rfl) (ev1 rfl) src_slf rfl rfl (fun _ => flat_oc (fun _ => rfl) _) (fun _ => ⟨by omega, by omega⟩)).giveA2 rfl rfl) (by simp only [upd, List.set_cons_zero, List.set_cons_succ]; exact rfl) ?_
    refine walk_r rfl rfl rfl (op_len rfl sl27 (ev1 rfl)) ?_
    refine walk_r rfl rfl rfl (op_move (.inl rfl) (ev1 rfl)) ?_
    refine walk_nil ?_
    refine dwp_block ?_
    refine dwp_wk 75 rfl (Wk.of_eq (row_two fs)) ?_
    refine dwp_loopS ⟨hs0, rfl⟩ (α := Nat) (fun k => [(77, .val (.int .i64 (k : Int)))]) [(3, _), (7, _), (9, _), (12, _), (75, _), (76, _)] (fun k => []) [_, _, _, _, _] (fun k => k ≤ (0 :: 3 :: fs).length) (fun k => (0 :: 3 :: fs).length - k) 0 [0, 1, 2, 3, 4] (Nat.zero_le _) rfl ⟨rfl, rfl, rfl, rfl, rfl, rfl, trivial⟩ ⟨rfl, trivial⟩ ⟨rfl, rfl, rfl, rfl, rfl, trivial⟩ ?_
    intro k hx
    simp only [upd, List.set_cons_zero, List.set_cons_succ, List.cons_append, List.nil_append]
    have hk := hx
    have hfl : (0 :: 3 :: fs).length = 2 + fs.length := by simp; omega
    refine dwp_seq ?_
    refine dwp_region ?_
    refine walk_r rfl rfl rfl (op_lss rfl (ev1 rfl) (ev1 rfl)) ?_
    refine walk_nil ?_
    refine dwp_seq ?_
    refine dwp_cond rfl (fun c16 => ?_) (fun c16 => ?_)
    · try simp only [decide_eq_true_eq, decide_eq_false_iff_not, beq_iff_eq, bne_iff_ne, beq_eq_false_iff_ne, bne_eq_false_iff_eq, Bool.not_eq_true', Bool.not_eq_false', Bool.and_eq_true, Bool.or_eq_true, Bool.or_eq_false_iff, ne_eq, Decidable.not_not, Int.not_lt, Int.not_le] at c16
      refine dwp_skip ?_
      refine dwp_seq ?_
      refine dwp_block ?_
      refine dwp_seq ?_
      have hkl : k < (0 :: 3 :: fs).length := by omega
      refine dwp_region ?_
      refine walk_r rfl rfl rfl (op_move (.inl rfl) (ev1 rfl)) ?_
      refine walk_r rfl rfl rfl (op_ixsr (j := k) rfl sl27 (ev1 rfl) (ev1 rfl) (fun _ => rfl) (by decide) (by omega) (by omega)) ?_
      refine walk_r rfl rfl rfl (op_ldod rfl tb3 (ev1 rfl) rfl) ?_
      refine walk_r rfl rfl rfl (op_move (.inr rfl) (ev1 rfl)) ?_
      refine walk_r rfl rfl rfl (op_move (.inr rfl) (ev1 rfl)) ?_
      refine walk_nil ?_
      refine dwp_seq ?_
      refine dwp_seq ?_
      refine dwp_region ?_
      refine walk_r rfl rfl rfl (op_move (.inl rfl) (ev1 rfl)) ?_
      refine walk_r rfl rfl rfl (op_eql rfl (ev1 rfl) (ev1 rfl)) ?_
      refine walk_nil ?_
      refine dwp_cond rfl (fun c17 => ?_) (fun c17 => ?_)
      · try simp only [decide_eq_true_eq, decide_eq_false_iff_not, beq_iff_eq, bne_iff_ne, beq_eq_false_iff_ne, bne_eq_false_iff_eq, Bool.not_eq_true', Bool.not_eq_false', Bool.and_eq_true, Bool.or_eq_true, Bool.or_eq_false_iff, ne_eq, Decidable.not_not, Int.not_lt, Int.not_le] at c17
        refine dwp_exit ?_
        refine dwp_seq ?_
        refine dwp_draw [([0], []), ([], []), ([], []), ([], []), ([], [])] mixed (by kernel_rfl) ?_
        refine lex_r rfl rfl (op_ldmw rfl tb26 (ev1 rfl) rfl rfl) ?_
        refine lex_r rfl rfl (op_lddr rfl tb26 (ev1 rfl) rfl rfl) ?_
        refine lex_r rfl rfl (dop_call [] [] [] rfl (ev1 rfl) (ec (ev1 rfl) en) rfl rfl (own_d f h w dn fu) rfl rfl rfl rfl rfl rfl) ?_
        refine lex_r rfl rfl (dop_call [] [] [] rfl (ev1 rfl) (ec (ev1 rfl) (ec (ev1 rfl) en)) rfl rfl (rsame_d (ownF f) h (opsL w) dn fu (ownF f) h (opsL w) dn fu (by omega)) rfl rfl rfl rfl rfl rfl) ?_
        refine lex_r rfl rfl (op_move (.inr rfl) (ev1 rfl)) ?_
        refine lex_nil ?_
        refine dwp_ret ?_
        refine kend0 (rs1 rfl (rv_t rfl)) rfl ?_
        first | rfl | exact congrArg (fun b => D.val (.bool b)) (sameB_refl ..)
      · try simp only [decide_eq_true_eq, decide_eq_false_iff_not, beq_iff_eq, bne_iff_ne, beq_eq_false_iff_ne, bne_eq_false_iff_eq, Bool.not_eq_true', Bool.not_eq_false', Bool.and_eq_true, Bool.or_eq_true, Bool.or_eq_false_iff, ne_eq, Decidable.not_not, Int.not_lt, Int.not_le] at c17
        refine dwp_skip ?_
        refine dwp_seq ?_
        refine dwp_region ?_
        refine walk_r rfl rfl rfl (op_ldmw rfl tb26 (ev1 rfl) rfl rfl) ?_
        refine walk_r rfl rfl rfl (op_move (.inl rfl) (ev1 rfl)) ?_
        refine walk_r rfl rfl rfl (dop_call [] [] [] rfl (ev1 rfl) (ec (ev1 rfl) (ec (ev1 rfl) en)) rfl rfl (read_no (ownF f) h (opsL w) dn fu ((0 :: 3 :: fs)[k]'hkl) (own_few f w) hcn) rfl rfl rfl rfl rfl rfl) ?_
        refine walk_r rfl rfl rfl (op_move (.inl rfl) (ev1 rfl)) ?_
        refine walk_r rfl rfl rfl (op_ext rfl (ev1 rfl) rfl) ?_
        refine walk_r rfl rfl rfl (op_ext rfl (ev1 rfl) rfl) ?_
        refine walk_r rfl rfl rfl (op_move (.inr rfl) (ev1 rfl)) ?_
        refine walk_r rfl rfl rfl (op_move (.inr rfl) (ev1 rfl)) ?_
        refine walk_nil ?_
        refine dwp_seq ?_
        refine dwp_region ?_
        refine walk_r rfl rfl rfl (op_move (.inr rfl) (ev1 rfl)) ?_
        refine walk_nil ?_
        refine dwp_seq ?_
        refine dwp_region ?_
        refine walk_r rfl rfl rfl (op_move (.inr rfl) (ev1 rfl)) ?_
        refine walk_nil ?_
        refine dwp_seq ?_
        refine dwp_seq ?_
        refine dwp_region ?_
        refine walk_r rfl rfl rfl (op_move (.inl rfl) (ev1 rfl)) ?_
        refine walk_nil ?_
        refine dwp_if_f rfl (cR) ?_
        refine dwp_skip ?_
        refine dwp_seq ?_
        refine dwp_seq ?_
        refine dwp_wk 15 rfl (Wk.slf0 1) ?_
        refine dwp_wk 17 rfl (Wk.slf0 1) ?_
        refine dwp_region ?_
        refine walk_r rfl rfl rfl (op_move (.inl rfl) (ev1 rfl)) ?_
        refine walk_r rfl rfl rfl (op_move (.inl rfl) (ev1 rfl)) ?_
        refine walk_r rfl rfl rfl (op_neq rfl (ev1 rfl) (ev1 rfl)) ?_
        refine walk_r rfl rfl rfl (op_move (.inl rfl) (ev1 rfl)) ?_
        refine walk_gr (gd_f rfl rfl rfl) rfl rfl rfl (op_move (.inl rfl) (ev1 rfl)) ?_
        refine walk_gr (gd_f rfl rfl rfl) rfl rfl rfl (op_move (.inl rfl) (ev1 rfl)) ?_
        refine walk_gr (gd_f rfl rfl rfl) rfl rfl rfl (dop_call [] [] [] rfl (ev1 rfl) (ec (ev2 rfl) (ec (ev2 rfl) en)) rfl rfl (equalN [] []) rfl rfl rfl rfl rfl rfl) ?_
        refine walk_gr (gd_f rfl rfl rfl) rfl rfl rfl (op_not rfl (ev2 rfl)) ?_
        refine walk_r rfl rfl rfl (op_or rfl (ev1 rfl) (ev3 rfl id)) ?_
        refine walk_r rfl rfl rfl (op_move (.inl rfl) (ev1 rfl)) ?_
        refine walk_gr (gd_f rfl rfl rfl) rfl rfl rfl (op_ldmw rfl tb26 (ev1 rfl) rfl rfl) ?_
        refine walk_gr (gd_f rfl rfl rfl) rfl rfl rfl (op_move (.inl rfl) (ev1 rfl)) ?_
        refine walk_gr (gd_f rfl rfl rfl) rfl rfl rfl (dop_call [] [] [] rfl (ev1 rfl) (ec (ev2 rfl) (ec (ev2 rfl) en)) rfl rfl (size0 (ownK f h w dn fu) ((0 :: 3 :: fs)[k]'hkl) (own_few f w) (fun e => hcn e.1)) rfl rfl rfl rfl rfl rfl) ?_
        refine walk_gr (gd_f rfl rfl rfl) rfl rfl rfl (op_move (.inl rfl) (ev1 rfl)) ?_
        refine walk_gr (gd_f rfl rfl rfl) rfl rfl rfl (op_len rfl sl22 (ev2 rfl)) ?_
        refine walk_gr (gd_f rfl rfl rfl) rfl rfl rfl (op_neq rfl (ev2 rfl) (ev2 rfl)) ?_
        refine walk_r rfl rfl rfl (op_or rfl (ev1 rfl) (ev3 rfl id)) ?_
        refine walk_nil ?_
        refine dwp_if_f rfl (by simp) ?_
        refine dwp_skip ?_
        refine dwp_seq ?_
        refine dwp_region ?_
        refine walk_r rfl rfl rfl (op_move (.inl rfl) (ev1 rfl)) ?_
        refine walk_r rfl rfl rfl (op_len rfl sl22 (ev1 rfl)) ?_
        refine walk_r rfl rfl rfl (op_move (.inl rfl) (ev1 rfl)) ?_
        refine walk_nil ?_
        refine dwp_block ?_
        refine dwp_dloop (dloop_step ?_)
        refine dwp_seq ?_
        refine dwp_region ?_
        refine walk_r rfl rfl rfl (op_lss rfl (ev1 rfl) (ev1 rfl)) ?_
        refine walk_nil ?_
        refine dwp_seq ?_
        refine dwp_if_f rfl (rfl) ?_
        refine dwp_exit ?_
        refine dwp_region ?_
        refine walk_r rfl rfl rfl (op_add' rfl (ev1 rfl) (ev1 rfl) (fun _ => IntWalk.i64_in _ (by omega))) ?_
        refine walk_r rfl rfl rfl (op_move (.inl rfl) (ev1 rfl)) ?_
        refine walk_nil ?_
        refine ⟨k + 1, [0, 1, 2, 3, 4], by omega, by simp only []; omega, rfl, ⟨rfl, rfl, rfl, rfl, rfl, rfl, rfl, trivial⟩, ⟨rfl, rfl, rfl, rfl, rfl, trivial⟩⟩
    · try simp only [decide_eq_true_eq, decide_eq_false_iff_not, beq_iff_eq, bne_iff_ne, beq_eq_false_iff_ne, bne_eq_false_iff_eq, Bool.not_eq_true', Bool.not_eq_false', Bool.and_eq_true, Bool.or_eq_true, Bool.or_eq_false_iff, ne_eq, Decidable.not_not, Int.not_lt, Int.not_le] at c16
      refine dwp_exit ?_
      refine dwp_seq ?_
      refine dwp_draw [([0], []), ([], []), ([], []), ([], []), ([], [])] mixed (by kernel_rfl) ?_
      refine lex_r rfl rfl (op_ldmw rfl tb26 (ev1 rfl) rfl rfl) ?_
      refine lex_r rfl rfl (op_lddr rfl tb26 (ev1 rfl) rfl rfl) ?_
      refine lex_r rfl rfl (dop_call [] [] [] rfl (ev1 rfl) (ec (ev1 rfl) en) rfl rfl (own_d f h w dn fu) rfl rfl rfl rfl rfl rfl) ?_
      refine lex_r rfl rfl (dop_call [] [] [] rfl (ev1 rfl) (ec (ev1 rfl) (ec (ev1 rfl) en)) rfl rfl (rsame_d (ownF f) h (opsL w) dn fu (ownF f) h (opsL w) dn fu (by omega)) rfl rfl rfl rfl rfl rfl) ?_
      refine lex_r rfl rfl (op_move (.inr rfl) (ev1 rfl)) ?_
      refine lex_nil ?_
      refine dwp_ret ?_
      refine kend0 (rs1 rfl (rv_t rfl)) rfl ?_
      first | rfl | exact congrArg (fun b => D.val (.bool b)) (sameB_refl ..)
end Go.Proofs.Ytjecmkaggobcjaa

namespace Go.Proofs.Ytjecmkaggobcjaa
set_option linter.unusedVariables false
set_option linter.unusedSimpArgs false
open Go.ChangeShapes Go.WideShapes Go.ChangeAt Go.RowKit Go.Joins Go.Deep
theorem weights_front {H : Type} {P : Program} {q : Nat → Bool} : ∀ (ts us : List TypeId) (ds : List (DataW H)), (DataW.weightsEach P (ts ++ us) ds).all q = true → (DataW.weightsEach P ts ds).all q = true
  | [], _, _, _ => by simp [DataW.weightsEach]
  | _ :: _, _, [], _ => by simp [DataW.weightsEach]
  | t :: ts, us, d :: ds, h => by
    rw [List.cons_append, DataW.weightsEach, List.all_append, Bool.and_eq_true] at h
    rw [DataW.weightsEach, List.all_append, Bool.and_eq_true]
    exact ⟨h.1, weights_front ts us ds h.2⟩
def Walked2 (f : FuncId) (ts : List TypeId) : Prop := ∀ (H : Type) (enc : TypeId × Value → H) (W : World) (base : Nat) (args : Array Value) (ds : List (DataW H)) (p : List MemPlace),
  DataW.TrodAll enc Try.prog W 0 (fun _ => true) true ts args.toList ds p → (∀ (j : Nat) t v, ts[j]? = some t → args[j]? = some v → Value.okWide Try.prog W .any base t v) →
  (DataW.weightsEach Try.prog ts ds).all (· ≤ reachBytes) = true → Calls Try.prog f args W fun e W' => e = .returned (.bool true) ∧ Below W.heap.size W W'
set_option maxRecDepth 100000 in
theorem lift_law2 {s : ChangeSpec} {f : FuncId} {fn : Func} {conds : List PathCond} {os : Os} (started : os.Started) {H : Type} {enc : TypeId × Value → H} (noInit : Try.checked.prog.inits.idxOf? f = none) (hfn : Try.checked.prog.funcs[f]? = some fn)
    (witness : ∃ (w : World) (tape : Tape) (i : Input), w.os = os ∧ (w.forCall tape i).Shaped Try.checked.prog ∧ i.vars = [] ∧ Input.okWide Try.checked.prog (w.forCall tape i) .any w.heap.size f i ∧
      s.pre6 enc Try.checked.prog fn conds false (w.forCall tape i).memory i.args ∧ ({} : Assume).holds Try.checked.prog (lone (Frame.enter Try.checked.prog f i.args .normal) [] (w.forCall tape i)))
    (ts : List TypeId) (tb : TypeId) (hts : fn.params.toList = ts) (hr : fn.resultTypes.toList = [tb]) (hb : Try.prog.underlying tb = some .bool) (hrow : ts.all (fun t => Try.prog.readableRec t && decide (t < Try.prog.types.size)) = true)
    (hvars : s.vars = []) (hs : ∀ ds : List (DataW H), ds.length = ts.length → s.fn H ds = { results := [.lit (.bool true)], args := ds }) (hw : Walked2 f ts) :
    ReturnsInHanded {} Try.checked os f .any (s.pre6 enc Try.prog fn conds false) (s.post enc Try.prog fn false true false false) := by
  refine returnsInHanded_of_change_sized (C := Try.checked) ownKnobN started noInit hfn witness ?_
  intro W base args ds gs before hval0 hW _ hsz0 _
  have hval : ∀ (j : Nat) t v, fn.params[j]? = some t → args[j]? = some v → Value.okWide Try.prog W .any base t v := hval0
  have hW' := hW
  obtain ⟨p, q, hA0, hV, rfl, hnf, hap⟩ := hW
  have hA : DataW.TrodAll enc Try.prog W 0 (fun _ => true) true ts args.toList ds p := by rw [← hts]; exact hA0
  rw [hvars] at hV
  obtain ⟨rfl, rfl⟩ := trodVars_none hV
  simp only [List.append_nil] at hW'
  have hlt : ∀ x ∈ p, x.block < W.heap.size := fun x hx => by simpa using hW'.lt x hx
  have hlen := trodAll_len _ _ _ _ hA
  have hsz : fn.resultTypes.size = 1 := by rw [← Array.length_toList, hr]; rfl
  have hsz2 : (DataW.weightsEach Try.prog ts ds).all (· ≤ reachBytes) = true := by
    rw [List.append_nil, hts] at hsz0
    exact weights_front ts _ ds hsz0
  refine (hw H enc W base args ds p hA (fun j t v h1 h2 => hval j t v (by rw [← Array.getElem?_toList, hts]; exact h1) h2) hsz2).mono fun e W' ⟨he, hB⟩ => ?_
  subst he
  refine ⟨_, rfl, ds, [], p, [], p, [], ?_, ?_, ?_, ?_, hB.frame _, fun h => by cases h⟩
  · exact hW'
  · rw [List.append_nil, hs ds hlen, hr, hsz]
    exact trodAll_mk1 (shut_bool hb true)
  · rw [List.append_nil, hs ds hlen, hts]
    exact trodAll_stays laidOutN ts args.toList ds p hrow hA hB hlt
  · rw [List.append_nil, hs ds hlen, hvars]
    rfl
theorem walked_of2 {f : FuncId} {ts : List TypeId} (h : ∀ (H : Type) (enc : TypeId × Value → H) (W : World) (base : Nat) (args : Array Value) (ds : List (DataW H)) (p : List MemPlace),
    DataW.TrodAll enc Try.prog W 0 (fun _ => true) true ts args.toList ds p → (∀ (j : Nat) t v, ts[j]? = some t → args[j]? = some v → Value.okWide Try.prog W .any base t v) → (DataW.weightsEach Try.prog ts ds).all (· ≤ reachBytes) = true →
    ∃ Ds : List D, Reps (st0 W) Ds args.toList ∧ DFun Try.prog f Ds [] (.val (.bool true)) []) : Walked2 f ts := by
  intro H enc W base args ds p hA hval hsz
  obtain ⟨Ds, hr, hf⟩ := h H enc W base args ds p hA hval hsz
  have := hf.2 (st0 W) args.toList (ok_st0 W) rfl hr
  rw [Array.toArray_toList] at this
  refine this.mono ?_
  rintro e w' ⟨s', rfl, ht, hor⟩
  rcases hor with ⟨d, v, rfl, hrep, rfl, _⟩ | ⟨_, _, _, _, hf⟩
  · refine ⟨by rw [hrep.val_eq], ht.os, ht.tape, ht.output, ht.size, fun k hk => ht.keep k hk fun ⟨i, kk, h, hk, _⟩ => ?_⟩
    simp [st0] at hk
  · exact hf.elim
/-- a slice among the arguments takes no more bytes than that -/
theorem row_sized {H : Type} {enc : TypeId × Value → H} {P : Program} {W : World} {base : Nat} {spare : Nat → Bool} {held : Bool} {ts : List TypeId} {ds : List (DataW H)} {d : DataW H} {p : List MemPlace} {t e : TypeId} {a0 : Option Addr} {len cap : Nat} (j : Nat) (hsz : (DataW.weightsEach P ts ds).all (· ≤ reachBytes) = true) (ht : ts[j]? = some t) (hd : ds[j]? = some d) (hu : P.underlying t = some (.slice e)) (h : DataW.Trod enc P W base spare held t (.slice a0 len cap) d p) : len * P.bytesOf e ≤ reachBytes := by
  obtain ⟨fuel, hfu⟩ := h
  rcases open_slice hu hfu with ⟨hcs, hx⟩ | ⟨a, len', cap', m, n, D, Pl, hcs, _, hl, hm, hmm, hx, hel⟩
  · simp [Value.cells] at hcs
    obtain ⟨rfl, rfl, rfl⟩ := hcs
    rw [Nat.zero_mul]; exact Nat.zero_le _
  · simp [Value.cells] at hcs
    obtain ⟨rfl, rfl, rfl⟩ := hcs
    obtain ⟨rfl, _⟩ := Prod.mk.inj hx
    have := sized_slice hsz ht hd hu
    rw [List.length_map, List.length_range] at this
    exact Nat.le_trans (Nat.mul_le_mul_right _ (Nat.le_add_right _ _)) this
theorem rowV_len {α : Type} {W : World} {a : Option Addr} {n sz : Nat} {en : α → List Value} {l : List α} (h : rowV W a n sz en l) : n = l.length := h.1
end Go.Proofs.Ytjecmkaggobcjaa

namespace Go.Proofs.Ytjecmkaggobcjaa
set_option linter.unusedVariables false
set_option linter.unusedSimpArgs false
open Go.RowKit
def run3 : DkS → List DOpn → DkS × Nat × Int
  | d, [] => (d, 0, 0)
  | d, o :: l => if opE d o = 0 then ((run3 (okS d o) l).1, (run3 (okS d o) l).2.1 + 1, (run3 (okS d o) l).2.2) else (if opE d o = 321 then dnS d else zDk, 0, opE d o)
theorem okK_cons {d : DkS} {o : DOpn} {l : List DOpn} {k : Nat} (he : opE d o = 0) (h : okK (okS d o) l k) : okK d (o :: l) (k + 1) := fun i hi hik => by
  cases i with
  | zero => exact he
  | succ i => exact h i (by simpa using hi) (by omega)
theorem run3_cases : ∀ (l : List DOpn) (d : DkS), (okK d l l.length ∧ run3 d l = (stK d l l.length, l.length, 0)) ∨ ∃ (j : Nat) (hj : j < l.length), okK d l j ∧ opE (stK d l j) l[j] ≠ 0 ∧ run3 d l = (if opE (stK d l j) l[j] = 321 then dnS (stK d l j) else zDk, j, opE (stK d l j) l[j])
  | [], d => .inl ⟨fun i hi _ => absurd hi (Nat.not_lt_zero i), rfl⟩
  | o :: l, d => by
    by_cases he : opE d o = 0
    · unfold run3
      rw [if_pos he]
      rcases run3_cases l (okS d o) with ⟨h1, h2⟩ | ⟨j, hj, h1, h2, h3⟩
      · refine .inl ⟨okK_cons he h1, ?_⟩
        rw [h2]; rfl
      · refine .inr ⟨j + 1, by simpa using hj, okK_cons he h1, h2, ?_⟩
        rw [h3]; rfl
    · refine .inr ⟨0, by simp, fun i hi h => absurd h (Nat.not_lt_zero i), he, ?_⟩
      unfold run3
      rw [if_neg he]; rfl
theorem runZ3 (d : DkS) (l : List DOpn) (hd : d.ok) (hl : l.length ≤ 10000) (hlb : ∀ o ∈ l, o.b.length ≤ 10000000) : DFun Try.prog 26 [d.d, .slm 3 l.length (l.flatMap oD)] [] (.tup [(run3 d l).1.d, .val (.int .i64 ((run3 d l).2.1 : Int)), .val (.int .i64 (run3 d l).2.2)]) [] := by
  rcases run3_cases l d with ⟨h1, h2⟩ | ⟨j, hj, h1, h2, h3⟩
  · rw [h2]; exact runZ_ok d l hd hl hlb h1
  · rw [h3]
    by_cases h9 : opE (stK d l j) l[j] = 321
    · rw [if_pos h9, h9]; exact runZ_down d l hd hl hlb j hj h1 h9
    · rw [if_neg h9]; exact runZ_bad d l hd hl hlb j hj h1 h2 h9
theorem run3_le : ∀ (l : List DOpn) (d : DkS), (run3 d l).2.1 ≤ l.length
  | [], d => Nat.le_refl 0
  | o :: l, d => by
    unfold run3
    split
    · have := run3_le l (okS d o)
      show (run3 (okS d o) l).2.1 + 1 ≤ l.length + 1
      omega
    · exact Nat.zero_le _
def isD (d : DkS) : Prop := (∀ i, i < 4 → isN (d.f i)) ∧ ∀ o ∈ d.w, isN o.b
theorem isN_doF {f : Nat → List Nat} {o : DOpn} (hf : ∀ i, i < 4 → isN (f i)) (ho : isN o.b) : ∀ i, i < 4 → isN (doF f o i) := fun i hi => by
  unfold doF
  split
  · unfold updF
    by_cases e : i = o.fl.toNat
    · rw [if_pos e, ← e]; exact fun x hx => (List.mem_append.1 hx).elim (hf i hi x) (ho x)
    · rw [if_neg e]; exact hf i hi
  · split
    · unfold updF
      by_cases e : i = o.fl.toNat
      · rw [if_pos e]; exact fun x hx => absurd hx List.not_mem_nil
      · rw [if_neg e]; exact hf i hi
    · exact hf i hi
theorem isN_seF' : ∀ (w : List DOpn) (f : Nat → List Nat), (∀ i, i < 4 → isN (f i)) → (∀ o ∈ w, isN o.b) → ∀ i, i < 4 → isN (seF f w i)
  | [], _, hf, _ => hf
  | o :: w, f, hf, hw => isN_seF' w (doF f o) (isN_doF hf (hw o (List.mem_cons_self ..))) fun q hq => hw q (List.mem_cons_of_mem _ hq)
theorem isD_okS {d : DkS} {o : DOpn} (h : isD d) (ho : isN o.b) : isD (okS d o) := by
  unfold okS
  split
  · exact ⟨isN_seF' d.w d.f h.1 h.2, fun q hq => absurd hq List.not_mem_nil⟩
  · refine ⟨h.1, fun q hq => ?_⟩
    rcases List.mem_append.1 hq with hq | hq
    · exact h.2 q hq
    · rw [List.mem_singleton.1 hq]; exact ho
theorem isD_z : isD zDk := ⟨fun i _ x hx => absurd hx List.not_mem_nil, fun o ho => absurd ho List.not_mem_nil⟩
theorem isD_run3 : ∀ (l : List DOpn) (d : DkS), isD d → (∀ o ∈ l, isN o.b) → isD (run3 d l).1
  | [], _, h, _ => h
  | o :: l, d, h, hl => by
    unfold run3
    split
    · exact isD_run3 l _ (isD_okS h (hl o (List.mem_cons_self ..))) fun q hq => hl q (List.mem_cons_of_mem _ hq)
    · show isD (if _ then _ else _)
      split
      · exact h
      · exact isD_z
theorem armD_ok {d : DkS} (hd : d.ok) (hdn : d.dn = false) {n : Int} (hn : 0 ≤ n ∧ n ≤ 4096) : (armS d n).ok := by
  obtain ⟨h1, h2, h3, h4⟩ := chk_parts hd
  obtain ⟨g1, g2, g3, g4⟩ := chk0_parts h1
  exact chk_join (chk0_join g1 hn (fun e => by rw [show d.dn = true from e] at hdn; cases hdn) g4) h2 h3 h4
theorem fuse : ∀ (l : List DOpn) (f : Nat → List Nat) (h : Int) (w : List DOpn) (m : Nat), 1 ≤ m → m ≤ 4096 →
    (run3 ⟨f, h, w, false, 0⟩ l).2.2 ≠ 321 ∧ (((run3 ⟨f, h, w, false, 0⟩ l).2.1 < m ∧ (run3 ⟨f, h, w, false, (m : Int)⟩ l).2 = (run3 ⟨f, h, w, false, 0⟩ l).2 ∧ ((run3 ⟨f, h, w, false, 0⟩ l).2.2 = 0 → (run3 ⟨f, h, w, false, (m : Int)⟩ l).1 = ⟨(run3 ⟨f, h, w, false, 0⟩ l).1.f, (run3 ⟨f, h, w, false, 0⟩ l).1.h, (run3 ⟨f, h, w, false, 0⟩ l).1.w, false, (m : Int) - ((run3 ⟨f, h, w, false, 0⟩ l).2.1 : Int)⟩)) ∨
      (m ≤ (run3 ⟨f, h, w, false, 0⟩ l).2.1 ∧ ∃ F H W, run3 ⟨f, h, w, false, (m : Int)⟩ l = (⟨F, H, W, true, 0⟩, m - 1, 321) ∧ run3 ⟨f, h, w, false, 0⟩ (l.take (m - 1)) = (⟨F, H, W, false, 0⟩, m - 1, 0)))
  | [], f, h, w, m, hm, _ => ⟨(show (0 : Int) ≠ 321 by decide), .inl ⟨hm, rfl, fun _ => by simp [run3]⟩⟩
  | o :: l, f, h, w, m, hm, hm2 => by
    have key : ∀ u : Int, u ≠ 1 → opE ⟨f, h, w, false, u⟩ o = opE ⟨f, h, w, false, 0⟩ o := fun u hu => by
      unfold opE
      show (if mayO o = false then _ else if false = true then _ else if o.kd ≠ 4 ∧ fullB ⟨f, h, w, false, 0⟩ o = true then _ else if u = 1 then _ else _) = (if mayO o = false then _ else if false = true then _ else if o.kd ≠ 4 ∧ fullB ⟨f, h, w, false, 0⟩ o = true then _ else if (0 : Int) = 1 then _ else _)
      rw [if_neg hu, if_neg (show ¬ (0 : Int) = 1 by decide)]
    have h9 : opE ⟨f, h, w, false, 0⟩ o ≠ 321 := fun e => by
      rcases opE_cases ⟨f, h, w, false, 0⟩ o with ⟨_, q⟩ | ⟨_, q, _⟩ | ⟨_, _, _, _, q⟩ | ⟨_, _, _, q, _⟩ | ⟨_, _, _, _, q⟩
      · rw [e] at q; cases q
      · cases q
      · rw [e] at q; cases q
      · exact absurd q (by show ¬ (0 : Int) = 1; decide)
      · rw [e] at q; cases q
    by_cases e0 : opE ⟨f, h, w, false, 0⟩ o = 0
    · obtain ⟨F1, H1, W1, ho⟩ : ∃ F1 H1 W1, ∀ u, okS ⟨f, h, w, false, u⟩ o = ⟨F1, H1, W1, false, fuB u⟩ := by
        by_cases k4 : o.kd = 4
        · exact ⟨seF f w, seH h w, [], fun u => by unfold okS; rw [if_pos k4]⟩
        · exact ⟨f, h, w ++ [o], fun u => by unfold okS; rw [if_neg k4]⟩
      have h00 : run3 ⟨f, h, w, false, 0⟩ (o :: l) = ((run3 ⟨F1, H1, W1, false, 0⟩ l).1, (run3 ⟨F1, H1, W1, false, 0⟩ l).2.1 + 1, (run3 ⟨F1, H1, W1, false, 0⟩ l).2.2) := by
        show (if opE ⟨f, h, w, false, 0⟩ o = 0 then _ else _) = _
        rw [if_pos e0, ho 0]; rfl
      by_cases m1 : m = 1
      · subst m1
        have hE : opE ⟨f, h, w, false, ((1 : Nat) : Int)⟩ o = 321 := by
          obtain ⟨q1, q2, q3, q4⟩ := opE_0 e0
          rcases opE_cases ⟨f, h, w, false, ((1 : Nat) : Int)⟩ o with ⟨q, _⟩ | ⟨_, q, _⟩ | ⟨_, _, q5, q6, _⟩ | ⟨_, _, _, _, q⟩ | ⟨_, _, _, q, _⟩
          · rw [q1] at q; cases q
          · cases q
          · rcases q3 with q3 | q3
            · exact absurd q3 q5
            · rw [show fullB ⟨f, h, w, false, ((1 : Nat) : Int)⟩ o = fullB ⟨f, h, w, false, 0⟩ o from rfl, q3] at q6; cases q6
          · exact q
          · exact absurd rfl q
        have hr := fuse l F1 H1 W1 1 (Nat.le_refl 1) (by decide)
        refine ⟨by rw [h00]; exact hr.1, .inr ⟨by rw [h00]; show 1 ≤ _ + 1; omega, f, h, w, ?_, rfl⟩⟩
        show (if opE ⟨f, h, w, false, ((1 : Nat) : Int)⟩ o = 0 then _ else (if opE ⟨f, h, w, false, ((1 : Nat) : Int)⟩ o = 321 then dnS ⟨f, h, w, false, ((1 : Nat) : Int)⟩ else zDk, 0, opE ⟨f, h, w, false, ((1 : Nat) : Int)⟩ o)) = _
        rw [hE, if_neg (by decide), if_pos rfl]; rfl
      · obtain ⟨n, rfl⟩ : ∃ n, m = n + 1 := ⟨m - 1, by omega⟩
        have hn : 1 ≤ n := by omega
        have hfu : fuB ((n + 1 : Nat) : Int) = (n : Int) := by unfold fuB; rw [if_neg (by omega)]; omega
        have e1 : opE ⟨f, h, w, false, ((n + 1 : Nat) : Int)⟩ o = 0 := by rw [key _ (by omega)]; exact e0
        have h01 : run3 ⟨f, h, w, false, ((n + 1 : Nat) : Int)⟩ (o :: l) = ((run3 ⟨F1, H1, W1, false, (n : Int)⟩ l).1, (run3 ⟨F1, H1, W1, false, (n : Int)⟩ l).2.1 + 1, (run3 ⟨F1, H1, W1, false, (n : Int)⟩ l).2.2) := by
          show (if opE ⟨f, h, w, false, ((n + 1 : Nat) : Int)⟩ o = 0 then _ else _) = _
          rw [if_pos e1, ho, hfu]
        obtain ⟨r1, r2⟩ := fuse l F1 H1 W1 n hn (by omega)
        refine ⟨by rw [h00]; exact r1, ?_⟩
        rcases r2 with ⟨r2, r3, r4⟩ | ⟨r2, F, H, W, r3, r4⟩
        · refine .inl ⟨by rw [h00]; show _ + 1 < n + 1; omega, by rw [h00, h01]; show (_ + 1, _) = (_ + 1, _); rw [r3], fun hg => ?_⟩
          rw [h00] at hg
          rw [h00, h01]
          show (run3 ⟨F1, H1, W1, false, (n : Int)⟩ l).1 = (⟨(run3 ⟨F1, H1, W1, false, 0⟩ l).1.f, (run3 ⟨F1, H1, W1, false, 0⟩ l).1.h, (run3 ⟨F1, H1, W1, false, 0⟩ l).1.w, false, ((n + 1 : Nat) : Int) - (((run3 ⟨F1, H1, W1, false, 0⟩ l).2.1 + 1 : Nat) : Int)⟩ : DkS)
          rw [r4 hg, show ((n + 1 : Nat) : Int) - (((run3 ⟨F1, H1, W1, false, 0⟩ l).2.1 + 1 : Nat) : Int) = (n : Int) - ((run3 ⟨F1, H1, W1, false, 0⟩ l).2.1 : Int) by omega]
        · refine .inr ⟨by rw [h00]; show n + 1 ≤ _ + 1; omega, F, H, W, ?_, ?_⟩
          · rw [h01, r3]
            show (_, n - 1 + 1, _) = (_, n + 1 - 1, _)
            rw [show n - 1 + 1 = n + 1 - 1 by omega]
          · rw [show n + 1 - 1 = (n - 1) + 1 by omega, List.take_succ_cons]
            show (if opE ⟨f, h, w, false, 0⟩ o = 0 then _ else _) = _
            rw [if_pos e0, ho 0, show fuB 0 = 0 from rfl, r4]
    · have hn0 : ∀ u : Int, u ≠ 1 → run3 ⟨f, h, w, false, u⟩ (o :: l) = (zDk, 0, opE ⟨f, h, w, false, 0⟩ o) := fun u hu => by
        show (if opE ⟨f, h, w, false, u⟩ o = 0 then _ else (if opE ⟨f, h, w, false, u⟩ o = 321 then _ else zDk, 0, opE ⟨f, h, w, false, u⟩ o)) = _
        rw [key u hu, if_neg e0, if_neg h9]
      have h1 : run3 ⟨f, h, w, false, (m : Int)⟩ (o :: l) = (zDk, 0, opE ⟨f, h, w, false, 0⟩ o) := by
        by_cases m1 : m = 1
        · subst m1
          have hE : opE ⟨f, h, w, false, ((1 : Nat) : Int)⟩ o = opE ⟨f, h, w, false, 0⟩ o := by
            rcases opE_cases ⟨f, h, w, false, 0⟩ o with ⟨q1, q⟩ | ⟨_, q, _⟩ | ⟨q1, q2, q3, q4, q⟩ | ⟨_, _, _, q, _⟩ | ⟨_, _, _, _, q⟩
            · rw [q]; unfold opE; rw [if_pos q1]
            · cases q
            · rw [q]; unfold opE; rw [if_neg (by rw [q1]; decide), if_neg (by show ¬ (false = true); decide), if_pos ⟨q3, q4⟩]
            · exact absurd q (by show ¬ (0 : Int) = 1; decide)
            · exact absurd q e0
          show (if opE ⟨f, h, w, false, ((1 : Nat) : Int)⟩ o = 0 then _ else (if opE ⟨f, h, w, false, ((1 : Nat) : Int)⟩ o = 321 then _ else zDk, 0, opE ⟨f, h, w, false, ((1 : Nat) : Int)⟩ o)) = _
          rw [hE, if_neg e0, if_neg h9]
        · exact hn0 _ (by omega)
      have h0 := hn0 0 (by decide)
      refine ⟨by rw [h0]; exact h9, .inl ⟨by rw [h0]; exact hm, by rw [h0, h1], fun hg => ?_⟩⟩
      rw [h0] at hg
      exact absurd hg e0
end Go.Proofs.Ytjecmkaggobcjaa

namespace Go.Proofs.Ytjecmkaggobcjaa
set_option linter.unusedVariables false
set_option linter.unusedSimpArgs false
open Go.RowKit
theorem fuses_cond {e dn : Bool} (h : (dn || ((if e = true then (0 : Int) else 320) != 0)) = false) : dn = false ∧ e = true := by
  cases e <;> cases dn <;> simp at h ⊢
set_option maxRecDepth 4000 in
set_option maxHeartbeats 1000000 in
theorem fuses_d (f : Nat → List Nat) (h : Int) (w : List DOpn) (dn : Bool) (fu : Int) (hNf : ∀ i, i < 4 → isN (f i)) (hNw : ∀ o ∈ w, isN o.b) (y : List DOpn) (hNy : ∀ o ∈ y, isN o.b) (n : Int) : DFun Try.prog 8 [.agg (dD f h w dn fu), .slm 3 (y).length ((y).flatMap oD), .val (.int .i64 n)] [] (.val (.bool true)) [] := by
  refine dcalls_go (N := 146) 0 (by kernel_rfl) Try.func8 rfl rfl rfl (by simp only [fr0, Nat.zero_add, Nat.reduceAdd]; exact rfl) rfl fun s0 hs0 => ?_
  refine dwp_lenm (t := 1) rfl fun hl1 hL1 => ?_
  refine dwp_seq ?_
  refine dwp_region ?_
  refine walk_r rfl rfl rfl (op_boxf rfl rfl (ev1 rfl)) ?_
  refine walk_r rfl rfl rfl (op_move (.inr rfl) (ev1 rfl)) ?_
  refine walk_nil ?_
  refine dwp_seq ?_
  refine dwp_seq ?_
  refine dwp_region ?_
  refine walk_r rfl rfl rfl (dop_call [] [] [] rfl (ev1 rfl) en rfl rfl (wakes_d) rfl rfl rfl rfl rfl rfl) ?_
  refine walk_r rfl rfl rfl (op_not rfl (ev1 rfl)) ?_
  refine walk_nil ?_
  refine dwp_if_f rfl (rfl) ?_
  refine dwp_skip ?_
  refine dwp_seq ?_
  refine dwp_holes 1 (by simp only [holes, List.cons_append, List.nil_append]; exact rfl) ?_
  refine dwp_region ?_
  refine walk_r rfl rfl rfl (op_lddr rfl tb26 (ev1 rfl) rfl rfl) ?_
  refine walk_r rfl rfl rfl (dop_call [] [] [] rfl (ev1 rfl) (ec (ev1 rfl) en) rfl rfl (own_d f h w dn fu) rfl rfl rfl rfl rfl rfl) ?_
  refine walk_w rfl rfl rfl (op_alloc 0 rfl zr26 rfl) (by simp only [upd, List.set_cons_zero, List.set_cons_succ]; exact rfl) ?_
  refine walk_s rfl rfl (op_stam rfl tb26 (ev1 rfl) (ev1 rfl) rfl rfl rfl rfl) (by simp only [upd, List.set_cons_zero, List.set_cons_succ]; exact rfl) ?_
  refine walk_nil ?_
  refine dwp_seq ?_
  refine dwp_seq ?_
  refine dwp_region ?_
  refine walk_r rfl rfl rfl (op_fa rfl fo26_3 (ev1 rfl)) ?_
  refine walk_r rfl rfl rfl (op_ldm rfl tb4 (ev1 rfl) rfl rfl) ?_
  refine walk_r rfl rfl rfl (op_move (.inl rfl) (ev1 rfl)) ?_
  refine walk_gr (gd_f rfl rfl rfl) rfl rfl rfl (op_ldmw rfl tb26 (ev1 rfl) rfl rfl) ?_
  refine walk_gr (gd_f rfl rfl rfl) rfl rfl rfl (dop_call [] [] [] rfl (ev1 rfl) (ec (ev2 rfl) en) rfl rfl (check_d (ownF f) h (opsL w) dn fu (own_few f w)) rfl rfl rfl rfl rfl rfl) ?_
  refine walk_gr (gd_f rfl rfl rfl) rfl rfl rfl (op_neq rfl (ev2 rfl) (ev1 rfl)) ?_
  refine walk_r rfl rfl rfl (op_or rfl (ev1 rfl) (ev3 rfl id)) ?_
  refine walk_nil ?_
  refine dwp_cond rfl (fun cA => ?_) (fun cA => ?_)
  · refine dwp_seq ?_
    refine dwp_region ?_
    refine walk_r rfl rfl rfl (op_move (.inr rfl) (ev1 rfl)) ?_
    refine walk_nil ?_
    refine dwp_ret ?_
    refine kend0 (rs1 rfl (rv_t rfl)) rfl ?_
    rfl
  · obtain ⟨hdn0, hd0⟩ := fuses_cond cA
    have hd : (ownK f h w dn fu).ok := hd0
    have hdn : (ownK f h w dn fu).dn = false := hdn0
    have hyl := opsL_len y
    have hys := ops_small (w := y)
    refine dwp_skip ?_
    refine dwp_seq ?_
    refine dwp_region ?_
    refine walk_r rfl rfl rfl (op_move (.inl rfl) (ev1 rfl)) ?_
    refine walk_r rfl rfl rfl (dop_call [] [] [] rfl (ev1 rfl) (ec (ev1 rfl) en) rfl rfl (ops_f y) rfl rfl rfl rfl rfl rfl) ?_
    refine walk_r rfl rfl rfl (op_move (.inr rfl) (ev1 rfl)) ?_
    refine walk_nil ?_
    refine dwp_seq ?_
    have hw0 : 0 ≤ IntKind.u64.wrap n := by rw [IntKind.wrap_u64]; omega
    refine dwp_region ?_
    refine walk_r rfl rfl rfl (op_move (.inl rfl) (ev1 rfl)) ?_
    refine walk_r rfl rfl rfl (op_conv ty3 kn65 rfl (ev1 rfl)) ?_
    refine walk_r rfl rfl rfl (op_rem' rfl (ev1 rfl) (ev1 rfl) (fun _ => ⟨by omega, by omega⟩)) ?_
    refine walk_r rfl rfl rfl (op_conv' ty65 kn3 rfl (ev1 rfl) (fun _ => IntWalk.i64_in _ (by omega))) ?_
    refine walk_r rfl rfl rfl (op_add' rfl (ev1 rfl) (ev1 rfl) (fun _ => IntWalk.i64_in _ (by omega))) ?_
    refine walk_r rfl rfl rfl (op_move (.inr rfl) (ev1 rfl)) ?_
    refine walk_nil ?_
    refine dwp_seq ?_
    obtain ⟨N, hN⟩ : ∃ N : Nat, 1 + IntKind.u64.wrap n % 20 = (N : Int) := ⟨(1 + IntKind.u64.wrap n % 20).toNat, by omega⟩
    rw [hN]
    have hN1 : 1 ≤ N ∧ N ≤ 20 := by omega
    refine dwp_holes 1 (by simp only [holes, List.cons_append, List.nil_append]; exact rfl) ?_
    refine dwp_region ?_
    refine walk_r rfl rfl rfl (op_ldmw rfl tb26 (ev1 rfl) rfl rfl) ?_
    refine walk_r rfl rfl rfl (dop_call [] [] [] rfl (ev1 rfl) (ec (ev1 rfl) (ec (ev1 rfl) en)) rfl rfl (armZ (ownK f h w dn fu) 0 hd ⟨by omega, by omega⟩ hdn) rfl rfl rfl rfl rfl rfl) ?_
    refine walk_r rfl rfl rfl (op_move (.inl rfl) (ev1 rfl)) ?_
    refine walk_r rfl rfl rfl (op_ext rfl (ev1 rfl) rfl) ?_
    refine walk_r rfl rfl rfl (op_ext rfl (ev1 rfl) rfl) ?_
    refine walk_w rfl rfl rfl (op_alloc 1 rfl zr26 rfl) (by simp only [upd, List.set_cons_zero, List.set_cons_succ]; exact rfl) ?_
    refine walk_s rfl rfl (op_stam rfl tb26 (ev1 rfl) (ev1 rfl) rfl rfl rfl rfl) (by simp only [upd, List.set_cons_zero, List.set_cons_succ]; exact rfl) ?_
    refine walk_r rfl rfl rfl (op_move (.inr rfl) (ev1 rfl)) ?_
    refine walk_nil ?_
    refine dwp_seq ?_
    refine dwp_holes 1 (by simp only [holes, List.cons_append, List.nil_append]; exact rfl) ?_
    refine dwp_region ?_
    refine walk_r rfl rfl rfl (op_ldmw rfl tb26 (ev1 rfl) rfl rfl) ?_
    refine walk_r rfl rfl rfl (op_move (.inl rfl) (ev1 rfl)) ?_
    refine walk_r rfl rfl rfl (dop_call [] [] [] rfl (ev1 rfl) (ec (ev1 rfl) (ec (ev1 rfl) en)) rfl rfl (armZ (ownK f h w dn fu) (N : Int) hd ⟨by omega, by omega⟩ hdn) rfl rfl rfl rfl rfl rfl) ?_
    refine walk_r rfl rfl rfl (op_move (.inl rfl) (ev1 rfl)) ?_
    refine walk_r rfl rfl rfl (op_ext rfl (ev1 rfl) rfl) ?_
    refine walk_r rfl rfl rfl (op_ext rfl (ev1 rfl) rfl) ?_
    refine walk_w rfl rfl rfl (op_alloc 2 rfl zr26 rfl) (by simp only [upd, List.set_cons_zero, List.set_cons_succ]; exact rfl) ?_
    refine walk_s rfl rfl (op_stam rfl tb26 (ev1 rfl) (ev1 rfl) rfl rfl rfl rfl) (by simp only [upd, List.set_cons_zero, List.set_cons_succ]; exact rfl) ?_
    refine walk_r rfl rfl rfl (op_move (.inr rfl) (ev1 rfl)) ?_
    refine walk_nil ?_
    refine dwp_seq ?_
    have hk0 := armD_ok hd hdn (n := 0) ⟨by omega, by omega⟩
    have hkN := armD_ok hd hdn (n := (N : Int)) ⟨by omega, by omega⟩
    have hA0 : armS (ownK f h w dn fu) 0 = ⟨ownF f, h, opsL w, false, 0⟩ := by show (⟨ownF f, h, opsL w, dn, 0⟩ : DkS) = _; rw [hdn0]
    have hAN : armS (ownK f h w dn fu) (N : Int) = ⟨ownF f, h, opsL w, false, (N : Int)⟩ := by show (⟨ownF f, h, opsL w, dn, (N : Int)⟩ : DkS) = _; rw [hdn0]
    have hfu := fuse (opsL y) (ownF f) h (opsL w) N hN1.1 (by omega)
    rw [← hA0, ← hAN] at hfu
    have hml := run3_le (opsL y) (armS (ownK f h w dn fu) 0)
    have hiA : isD (run3 (armS (ownK f h w dn fu) 0) (opsL y)).1 := isD_run3 (opsL y) _ ⟨isN_own hNf, isN_ops hNw⟩ (isN_ops hNy)
    have hiB : isD (run3 (armS (ownK f h w dn fu) (N : Int)) (opsL y)).1 := isD_run3 (opsL y) _ ⟨isN_own hNf, isN_ops hNw⟩ (isN_ops hNy)
    have hiC : isD (run3 (armS (ownK f h w dn fu) 0) ((opsL y).take (N - 1))).1 := isD_run3 ((opsL y).take (N - 1)) _ ⟨isN_own hNf, isN_ops hNw⟩ (fun o ho => isN_ops hNy o (List.mem_of_mem_take ho))
    refine dwp_holes 1 (by simp only [holes, List.cons_append, List.nil_append]; exact rfl) ?_
    refine dwp_region ?_
    refine walk_r rfl rfl rfl (op_ldmw rfl tb26 (ev1 rfl) rfl rfl) ?_
    refine walk_r rfl rfl rfl (op_move (.inl rfl) (ev1 rfl)) ?_
    refine walk_r rfl rfl rfl (dop_call [] [] [] rfl (ev1 rfl) (ec (ev1 rfl) (ec (ev1 rfl) en)) rfl rfl (runZ3 (armS (ownK f h w dn fu) 0) (opsL y) hk0 (by omega) hys) rfl rfl rfl rfl rfl rfl) ?_
    refine walk_r rfl rfl rfl (op_move (.inl rfl) (ev1 rfl)) ?_
    refine walk_r rfl rfl rfl (op_ext rfl (ev1 rfl) rfl) ?_
    refine walk_r rfl rfl rfl (op_ext rfl (ev1 rfl) rfl) ?_
    refine walk_r rfl rfl rfl (op_ext rfl (ev1 rfl) rfl) ?_
    refine walk_w rfl rfl rfl (op_alloc 3 rfl zr26 rfl) (by simp only [upd, List.set_cons_zero, List.set_cons_succ]; exact rfl) ?_
    refine walk_s rfl rfl (op_stam rfl tb26 (ev1 rfl) (ev1 rfl) rfl rfl rfl rfl) (by simp only [upd, List.set_cons_zero, List.set_cons_succ]; exact rfl) ?_
    refine walk_r rfl rfl rfl (op_move (.inr rfl) (ev1 rfl)) ?_
    refine walk_r rfl rfl rfl (op_move (.inr rfl) (ev1 rfl)) ?_
    refine walk_nil ?_
    refine dwp_seq ?_
    refine dwp_holes 1 (by simp only [holes, List.cons_append, List.nil_append]; exact rfl) ?_
    refine dwp_region ?_
    refine walk_r rfl rfl rfl (op_ldmw rfl tb26 (ev1 rfl) rfl rfl) ?_
    refine walk_r rfl rfl rfl (op_move (.inl rfl) (ev1 rfl)) ?_
    refine walk_r rfl rfl rfl (dop_call [] [] [] rfl (ev1 rfl) (ec (ev1 rfl) (ec (ev1 rfl) en)) rfl rfl (runZ3 (armS (ownK f h w dn fu) (N : Int)) (opsL y) hkN (by omega) hys) rfl rfl rfl rfl rfl rfl) ?_
    refine walk_r rfl rfl rfl (op_move (.inl rfl) (ev1 rfl)) ?_
    refine walk_r rfl rfl rfl (op_ext rfl (ev1 rfl) rfl) ?_
    refine walk_r rfl rfl rfl (op_ext rfl (ev1 rfl) rfl) ?_
    refine walk_r rfl rfl rfl (op_ext rfl (ev1 rfl) rfl) ?_
    refine walk_w rfl rfl rfl (op_alloc 4 rfl zr26 rfl) (by simp only [upd, List.set_cons_zero, List.set_cons_succ]; exact rfl) ?_
    refine walk_s rfl rfl (op_stam rfl tb26 (ev1 rfl) (ev1 rfl) rfl rfl rfl rfl) (by simp only [upd, List.set_cons_zero, List.set_cons_succ]; exact rfl) ?_
    refine walk_r rfl rfl rfl (op_move (.inr rfl) (ev1 rfl)) ?_
    refine walk_r rfl rfl rfl (op_move (.inr rfl) (ev1 rfl)) ?_
    refine walk_nil ?_
    refine dwp_seq ?_
    refine dwp_seq ?_
    refine dwp_region ?_
    refine walk_r rfl rfl rfl (op_move (.inl rfl) (ev1 rfl)) ?_
    refine walk_r rfl rfl rfl (op_neq rfl (ev1 rfl) (ev1 rfl)) ?_
    refine walk_r rfl rfl rfl (op_move (.inl rfl) (ev1 rfl)) ?_
    refine walk_gr (gd_f rfl rfl rfl) rfl rfl rfl (op_move (.inl rfl) (ev1 rfl)) ?_
    refine walk_gr (gd_f rfl rfl rfl) rfl rfl rfl (op_neq rfl (ev2 rfl) (ev1 rfl)) ?_
    refine walk_r rfl rfl rfl (op_or rfl (ev1 rfl) (ev3 rfl id)) ?_
    refine walk_r rfl rfl rfl (op_move (.inl rfl) (ev1 rfl)) ?_
    refine walk_gr (gd_f rfl rfl rfl) rfl rfl rfl (op_move (.inl rfl) (ev1 rfl)) ?_
    refine walk_gr (gd_f rfl rfl rfl) rfl rfl rfl (op_eql rfl (ev2 rfl) (ev1 rfl)) ?_
    refine walk_r rfl rfl rfl (op_or rfl (ev1 rfl) (ev3 rfl id)) ?_
    refine walk_nil ?_
    refine dwp_if_f rfl (by simp [hfu.1]) ?_
    refine dwp_skip ?_
    refine dwp_seq ?_
    refine dwp_seq ?_
    refine dwp_region ?_
    refine walk_r rfl rfl rfl (op_move (.inl rfl) (ev1 rfl)) ?_
    refine walk_r rfl rfl rfl (op_move (.inl rfl) (ev1 rfl)) ?_
    refine walk_r rfl rfl rfl (op_lss rfl (ev1 rfl) (ev1 rfl)) ?_
    refine walk_nil ?_
    refine dwp_cond rfl (fun cN => ?_) (fun cN => ?_)
    · try simp only [decide_eq_true_eq, decide_eq_false_iff_not, beq_iff_eq, bne_iff_ne, beq_eq_false_iff_ne, bne_eq_false_iff_eq, Bool.not_eq_true', Bool.not_eq_false', Bool.and_eq_true, Bool.or_eq_true, Bool.or_eq_false_iff, ne_eq, Decidable.not_not, Int.not_lt, Int.not_le] at cN
      obtain ⟨q1, q2, q3⟩ := hfu.2.resolve_right (fun q => absurd q.1 (by omega))
      refine dwp_seq ?_
      refine dwp_region ?_
      refine walk_r rfl rfl rfl (op_move (.inl rfl) (ev1 rfl)) ?_
      refine walk_r rfl rfl rfl (op_move (.inl rfl) (ev1 rfl)) ?_
      refine walk_r rfl rfl rfl (op_eql rfl (ev1 rfl) (ev1 rfl)) ?_
      refine walk_r rfl rfl rfl (op_move (.inl rfl) (ev1 rfl)) ?_
      refine walk_gr (gd_t rfl rfl rfl) rfl rfl rfl (op_move (.inl rfl) (ev1 rfl)) ?_
      refine walk_gr (gd_t rfl rfl rfl) rfl rfl rfl (op_move (.inl rfl) (ev1 rfl)) ?_
      refine walk_gr (gd_t rfl rfl rfl) rfl rfl rfl (op_eql rfl (ev2 rfl) (ev2 rfl)) ?_
      refine walk_r rfl rfl rfl (op_and rfl (ev1 rfl) (ev3 rfl id)) ?_
      refine walk_r rfl rfl rfl (op_move (.inl rfl) (ev1 rfl)) ?_
      refine walk_gr (gd_t rfl rfl rfl) rfl rfl rfl (op_move (.inl rfl) (ev1 rfl)) ?_
      refine walk_gr (gd_t rfl rfl rfl) rfl rfl rfl (op_neq rfl (ev2 rfl) (ev1 rfl)) ?_
      refine walk_gr (gd_t rfl rfl rfl) rfl rfl rfl (op_move (.inl rfl) (ev2 rfl)) ?_
      refine walk_gr (gd_ff rfl rfl rfl) rfl rfl rfl (op_fa rfl fo26_4 (ev1 rfl)) ?_
      refine walk_gr (gd_ff rfl rfl rfl) rfl rfl rfl (op_ldm rfl tb3 (ev2 rfl) rfl rfl) ?_
      refine walk_gr (gd_ff rfl rfl rfl) rfl rfl rfl (op_move (.inl rfl) (ev1 rfl)) ?_
      refine walk_gr (gd_ff rfl rfl rfl) rfl rfl rfl (op_move (.inl rfl) (ev1 rfl)) ?_
      refine walk_gr (gd_ff rfl rfl rfl) rfl rfl rfl (op_sub' rfl (ev2 rfl) (ev2 rfl) (fun hp => IntWalk.i64_in _ (by first | omega | (simp at hp; omega)))) ?_
      refine walk_gr (gd_ff rfl rfl rfl) rfl rfl rfl (op_eql rfl (ev2 rfl) (ev2 rfl)) ?_
      refine walk_gr (gd_ff rfl rfl rfl) rfl rfl rfl (op_move (.inl rfl) (ev2 rfl)) ?_
      refine walk_gr (gd_tt rfl rfl rfl) rfl rfl rfl (op_fa rfl fo26_3 (ev1 rfl)) ?_
      refine walk_gr (gd_tt rfl rfl rfl) rfl rfl rfl (op_ldm rfl tb4 (ev2 rfl) rfl rfl) ?_
      refine walk_gr (gd_tt rfl rfl rfl) rfl rfl rfl (op_not rfl (ev2 rfl)) ?_
      refine walk_gr (gd_ff rfl rfl rfl) rfl rfl rfl (op_and rfl (ev2 rfl) (ev2 rfl)) ?_
      refine walk_gr (gd_ff rfl rfl rfl) rfl rfl rfl (op_move (.inl rfl) (ev2 rfl)) ?_
      refine walk_gr (gd_tt rfl rfl rfl) rfl rfl rfl (op_fa rfl fo26_0 (ev1 rfl)) ?_
      refine walk_gr (gd_tt rfl rfl rfl) rfl rfl rfl (op_ixl rfl ar23 (ev2 rfl) (ev1 rfl) (fun _ => by omega)) ?_
      refine walk_gr (gd_tt rfl rfl rfl) rfl rfl rfl (op_ldm rfl tb22 (ev2 rfl) rfl (rfl)) ?_
      refine walk_gr (gd_tt rfl rfl rfl) rfl rfl rfl (op_fa rfl fo26_0 (ev1 rfl)) ?_
      refine walk_gr (gd_tt rfl rfl rfl) rfl rfl rfl (op_ixl rfl ar23 (ev2 rfl) (ev1 rfl) (fun _ => by omega)) ?_
      refine walk_gr (gd_tt rfl rfl rfl) rfl rfl rfl (op_ldm rfl tb22 (ev2 rfl) rfl (rfl)) ?_
      refine walk_gr (gd_tt rfl rfl rfl) rfl rfl rfl (dop_call [] [] [] rfl (ev1 rfl) (ec (ev2 rfl) (ec (ev2 rfl) en)) rfl rfl (beq_d ((run3 (armS (ownK f h w dn fu) 0) (opsL y)).1.f 0) ((run3 (armS (ownK f h w dn fu) (N : Int)) (opsL y)).1.f 0) (hiA.1 0 (by omega)) (hiB.1 0 (by omega))) rfl rfl rfl rfl rfl rfl) ?_
      refine walk_gr (gd_ff rfl rfl rfl) rfl rfl rfl (op_and rfl (ev2 rfl) (ev2 rfl)) ?_
      refine walk_gr (gd_t rfl rfl rfl) rfl rfl rfl (op_or rfl (ev2 rfl) (ev2 rfl)) ?_
      refine walk_r rfl rfl rfl (op_and rfl (ev1 rfl) (ev3 rfl id)) ?_
      refine walk_r rfl rfl rfl (op_move (.inr rfl) (ev1 rfl)) ?_
      refine walk_nil ?_
      refine dwp_ret ?_
      refine kend0 (rs1 rfl (rv_t rfl)) rfl ?_
      have e1 := congrArg Prod.fst q2
      have e2 := congrArg Prod.snd q2
      refine congrArg (fun b => D.val (.bool b)) ?_
      by_cases hg : (run3 (armS (ownK f h w dn fu) 0) (opsL y)).2.2 = 0
      · rw [q3 hg]; simp [e1, e2, hg]
      · simp [e1, e2, hg]
    · try simp only [decide_eq_true_eq, decide_eq_false_iff_not, beq_iff_eq, bne_iff_ne, beq_eq_false_iff_ne, bne_eq_false_iff_eq, Bool.not_eq_true', Bool.not_eq_false', Bool.and_eq_true, Bool.or_eq_true, Bool.or_eq_false_iff, ne_eq, Decidable.not_not, Int.not_lt, Int.not_le] at cN
      obtain ⟨q1, F, H, W, q2, q3⟩ := hfu.2.resolve_left (fun q => absurd q.1 (by omega))
      have eN : ((N - 1 : Nat) : Int) = (N : Int) - 1 := by omega
      refine dwp_skip ?_
      refine dwp_seq ?_
      refine dwp_holes 1 (by simp only [holes, List.cons_append, List.nil_append]; exact rfl) ?_
      refine dwp_draw [([1], []), ([], []), ([], []), ([], []), ([], []), ([], []), ([], []), ([], []), ([], []), ([], []), ([5], [5]), ([5], [5]), ([], []), ([], [])] mixed (by kernel_rfl) ?_
      refine lex_r rfl rfl (op_ldmw rfl tb26 (ev1 rfl) rfl rfl) ?_
      refine lex_r rfl rfl (op_move (.inl rfl) (ev1 rfl)) ?_
      refine lex_r rfl rfl (op_move (.inl rfl) (ev1 rfl)) ?_
      refine lex_r rfl rfl (op_sub' rfl (ev1 rfl) (ev1 rfl) (fun _ => IntWalk.i64_in _ (by omega))) ?_
      refine lex_r rfl rfl (op_slmtk (j := N - 1) rfl sl24 (ev1 rfl) (bd_some (ev1 rfl)) (fun _ => by omega) (fun _ => by omega) (fun _ => rfl)) ?_
      refine lex_r rfl rfl (dop_call [] [] [] rfl (ev1 rfl) (ec (ev1 rfl) (ec (ev1 rfl) en)) rfl rfl (runZ3 (armS (ownK f h w dn fu) 0) ((opsL y).take (N - 1)) hk0 (by rw [List.length_take]; omega) (fun o ho => hys o (List.mem_of_mem_take ho))) rfl rfl rfl rfl rfl rfl) ?_
      refine lex_r rfl rfl (op_move (.inl rfl) (ev1 rfl)) ?_
      refine lex_r rfl rfl (op_ext rfl (ev1 rfl) rfl) ?_
      refine lex_r rfl rfl (op_ext rfl (ev1 rfl) rfl) ?_
      refine lex_r rfl rfl (op_ext rfl (ev1 rfl) rfl) ?_
      refine lex_w rfl rfl (op_alloc 5 rfl zr26 rfl) rfl (by simp only [upd, List.set_cons_zero, List.set_cons_succ]; exact rfl) ?_
      refine lex_s rfl rfl (op_stam rfl tb26 (ev1 rfl) (ev1 rfl) rfl rfl rfl rfl) rfl (by simp only [upd, List.set_cons_zero, List.set_cons_succ]; exact rfl) ?_
      refine lex_r rfl rfl (op_move (.inr rfl) (ev1 rfl)) ?_
      refine lex_r rfl rfl (op_move (.inr rfl) (ev1 rfl)) ?_
      refine lex_nil ?_
      refine dwp_seq ?_
      refine dwp_region ?_
      refine walk_r rfl rfl rfl (op_fa rfl fo26_3 (ev1 rfl)) ?_
      refine walk_s rfl rfl (op_stm rfl tb4 (ev1 rfl) (ev1 rfl) (fun s v h => by cases h <;> exact ⟨rfl, rfl⟩) rfl (by first | decide | exact Nat.le_of_ble_eq_true rfl | simp)) (by simp only [upd, List.set_cons_zero, List.set_cons_succ]; exact rfl) ?_
      refine walk_nil ?_
      refine dwp_seq ?_
      refine dwp_region ?_
      refine walk_r rfl rfl rfl (op_move (.inl rfl) (ev1 rfl)) ?_
      refine walk_r rfl rfl rfl (op_eql rfl (ev1 rfl) (ev1 rfl)) ?_
      refine walk_r rfl rfl rfl (op_move (.inl rfl) (ev1 rfl)) ?_
      refine walk_gr (gd_t rfl rfl rfl) rfl rfl rfl (op_move (.inl rfl) (ev1 rfl)) ?_
      refine walk_gr (gd_t rfl rfl rfl) rfl rfl rfl (op_move (.inl rfl) (ev1 rfl)) ?_
      refine walk_gr (gd_t rfl rfl rfl) rfl rfl rfl (op_sub' rfl (ev2 rfl) (ev1 rfl) (fun hp => IntWalk.i64_in _ (by first | omega | (simp at hp; omega)))) ?_
      refine walk_gr (gd_t rfl rfl rfl) rfl rfl rfl (op_eql rfl (ev2 rfl) (ev2 rfl)) ?_
      refine walk_r rfl rfl rfl (op_and rfl (ev1 rfl) (ev3 rfl id)) ?_
      refine walk_r rfl rfl rfl (op_move (.inl rfl) (ev1 rfl)) ?_
      refine walk_gr (gd_t rfl rfl rfl) rfl rfl rfl (op_move (.inl rfl) (ev1 rfl)) ?_
      refine walk_gr (gd_t rfl rfl rfl) rfl rfl rfl (op_eql rfl (ev2 rfl) (ev1 rfl)) ?_
      refine walk_r rfl rfl rfl (op_and rfl (ev1 rfl) (ev3 rfl id)) ?_
      refine walk_r rfl rfl rfl (op_move (.inl rfl) (ev1 rfl)) ?_
      refine walk_gr (gd_t rfl rfl rfl) rfl rfl rfl (op_move (.inl rfl) (ev1 rfl)) ?_
      refine walk_gr (gd_t rfl rfl rfl) rfl rfl rfl (op_move (.inl rfl) (ev1 rfl)) ?_
      refine walk_gr (gd_t rfl rfl rfl) rfl rfl rfl (op_sub' rfl (ev2 rfl) (ev1 rfl) (fun hp => IntWalk.i64_in _ (by first | omega | (simp at hp; omega)))) ?_
      refine walk_gr (gd_t rfl rfl rfl) rfl rfl rfl (op_eql rfl (ev2 rfl) (ev2 rfl)) ?_
      refine walk_r rfl rfl rfl (op_and rfl (ev1 rfl) (ev3 rfl id)) ?_
      refine walk_r rfl rfl rfl (op_move (.inl rfl) (ev1 rfl)) ?_
      refine walk_gr (gd_t rfl rfl rfl) rfl rfl rfl (op_ldmw rfl tb26 (ev1 rfl) rfl rfl) ?_
      refine walk_gr (gd_t rfl rfl rfl) rfl rfl rfl (op_ldmw rfl tb26 (ev1 rfl) rfl rfl) ?_
      refine walk_gr (gd_t rfl rfl rfl) rfl rfl rfl (dop_call [] [] [] rfl (ev1 rfl) (ec (ev2 rfl) (ec (ev2 rfl) en)) rfl rfl (dsame_d (run3 (armS (ownK f h w dn fu) (N : Int)) (opsL y)).1.f (run3 (armS (ownK f h w dn fu) (N : Int)) (opsL y)).1.h (run3 (armS (ownK f h w dn fu) (N : Int)) (opsL y)).1.w (run3 (armS (ownK f h w dn fu) (N : Int)) (opsL y)).1.dn (run3 (armS (ownK f h w dn fu) (N : Int)) (opsL y)).1.fu (run3 (armS (ownK f h w dn fu) 0) ((opsL y).take (N - 1))).1.f (run3 (armS (ownK f h w dn fu) 0) ((opsL y).take (N - 1))).1.h (run3 (armS (ownK f h w dn fu) 0) ((opsL y).take (N - 1))).1.w true (run3 (armS (ownK f h w dn fu) 0) ((opsL y).take (N - 1))).1.fu (fun i hi => ⟨hiB.1 i hi, hiC.1 i hi⟩) hiB.2 hiC.2) rfl rfl rfl rfl rfl rfl) ?_
      refine walk_r rfl rfl rfl (op_and rfl (ev1 rfl) (ev3 rfl id)) ?_
      refine walk_r rfl rfl rfl (op_move (.inr rfl) (ev1 rfl)) ?_
      refine walk_nil ?_
      refine dwp_ret ?_
      refine kend0 (rs1 rfl (rv_t rfl)) rfl ?_
      refine congrArg (fun b => D.val (.bool b)) ?_
      simp [q2, q3, sameB_refl, eN]
end Go.Proofs.Ytjecmkaggobcjaa

namespace Go.Proofs.Ytjecmkaggobcjaa
set_option linter.unusedVariables false
set_option linter.unusedSimpArgs false
open Go.RowKit
open Go.ChangeShapes Go.WideShapes Go.ChangeAt Go.Joins Go.Deep
def twoV (a : Int × Int) : List Value := [.int .i64 a.1, .int .i64 a.2]
theorem fits_two : ∀ cs, fitsP [.int .i64, .int .i64] cs → ∃ a : Int × Int, True ∧ cs = twoV a
  | [c0, c1], h => by
    obtain ⟨h0, h1, _⟩ := h
    obtain ⟨x0, _, rfl⟩ := fits_prim_i64 h0
    obtain ⟨x1, _, rfl⟩ := fits_prim_i64 h1
    exact ⟨(x0, x1), trivial, rfl⟩
  | [], h => by cases h
  | [_], h => by obtain ⟨_, h⟩ := h; cases h
  | _ :: _ :: _ :: _, h => by obtain ⟨_, _, h⟩ := h; cases h
end Go.Proofs.Ytjecmkaggobcjaa

namespace Go.Proofs.Ytjecmkaggobcjaa
set_option linter.unusedVariables false
set_option linter.unusedSimpArgs false
open Go.RowKit
def doA (d : DkS) (o : DOpn) : DkS × Int := if chkB d.f d.h d.w d.dn d.fu = true then (doS d o, opE d o) else (zDk, 320)
theorem doAZ (d : DkS) (o : DOpn) (hb : fewB (szs d.f) d.w) (hob : o.b.length ≤ 10000000) : DFun Try.prog 23 [d.d, .agg (oD o)] [] (.tup [(doA d o).1.d, .val (.int .i64 (doA d o).2)]) [] := by
  unfold doA
  by_cases hd : chkB d.f d.h d.w d.dn d.fu = true
  · rw [if_pos hd]; exact doZ d o hd hob
  · rw [if_neg hd]; exact doZ_no d o hb hd
theorem doA_0 {d : DkS} {o : DOpn} (h : (doA d o).2 = 0) : d.ok ∧ opE d o = 0 ∧ doA d o = (okS d o, 0) := by
  unfold doA at h ⊢
  by_cases hd : chkB d.f d.h d.w d.dn d.fu = true
  · rw [if_pos hd] at h ⊢
    have h0 : opE d o = 0 := h
    exact ⟨hd, h0, by unfold doS; rw [if_pos h0, h0]⟩
  · rw [if_neg hd] at h; cases h
def keepO (d : DkS) (o : DOpn) : DkS := if opE d o = 0 then okS d o else d
def keepK (d : DkS) (l : List DOpn) (k : Nat) : DkS := (l.take k).foldl keepO d
theorem keepK_succ {d : DkS} {l : List DOpn} {k : Nat} (hk : k < l.length) : keepK d l (k + 1) = keepO (keepK d l k) l[k] := by
  unfold keepK
  rw [List.take_succ_eq_append_getElem hk, List.foldl_append]
  rfl
theorem keepK_y {d : DkS} {l : List DOpn} {k : Nat} (hk : k < l.length) (h : opE (keepK d l k) l[k] = 0) : keepK d l (k + 1) = doS (keepK d l k) l[k] := by
  rw [keepK_succ hk]; unfold keepO doS; rw [if_pos h, if_pos h]
theorem keepK_n {d : DkS} {l : List DOpn} {k : Nat} (hk : k < l.length) (h : opE (keepK d l k) l[k] ≠ 0) : keepK d l (k + 1) = keepK d l k := by
  rw [keepK_succ hk]; unfold keepO; rw [if_neg h]
theorem keepK_ok {d : DkS} {l : List DOpn} (h : d.ok) : ∀ k, k ≤ l.length → (keepK d l k).ok
  | 0, _ => h
  | k + 1, hk => by
    have ih := keepK_ok (l := l) h k (by omega)
    have hk' : k < l.length := by omega
    rw [keepK_succ hk']
    unfold keepO
    split
    · rename_i e; exact ok_step ih e
    · exact ih
theorem isD_keepK {d : DkS} {l : List DOpn} (h : isD d) (hl : ∀ o ∈ l, isN o.b) : ∀ k, k ≤ l.length → isD (keepK d l k)
  | 0, _ => h
  | k + 1, hk => by
    have ih := isD_keepK (l := l) h hl k (by omega)
    have hk' : k < l.length := by omega
    rw [keepK_succ hk']
    unfold keepO
    split
    · exact isD_okS ih (hl _ (List.getElem_mem hk'))
    · exact ih
theorem dnS_ok {d : DkS} (hd : d.ok) : (dnS d).ok := by
  obtain ⟨h1, h2, h3, h4⟩ := chk_parts hd
  obtain ⟨g1, g2, g3, g4⟩ := chk0_parts h1
  have e : (if d.dn = true then d.fu else 0) = 0 := by
    by_cases q : d.dn = true
    · rw [if_pos q]; exact g3 q
    · rw [if_neg q]
  refine chk_join (chk0_join g1 ?_ (fun _ => e) g4) h2 h3 h4
  show 0 ≤ (if d.dn = true then d.fu else 0) ∧ (if d.dn = true then d.fu else 0) ≤ 4096
  rw [e]; decide
theorem riseD_ok {d : DkS} (hd : d.ok) : (riseS d).ok := by
  obtain ⟨h1, h2, h3, h4⟩ := chk_parts hd
  obtain ⟨g1, g2, g3, g4⟩ := chk0_parts h1
  exact chk_join (chk0_join g1 g2 (fun e => by cases e) (Nat.zero_le _)) h2 (fun o ho => absurd ho List.not_mem_nil) (szB_all fun k hk => absurd hk (Nat.not_lt_zero k))
def emO (e : List Nat) (o : DOpn) : List Nat := if (o.kd = 2 ∧ 0 ≤ o.fl) ∧ o.fl < 4 then e.set o.fl.toNat 1 else e
def emK (l : List DOpn) (k : Nat) : List Nat := (l.take k).foldl emO [0, 0, 0, 0]
theorem emK_succ {l : List DOpn} {k : Nat} (hk : k < l.length) : emK l (k + 1) = emO (emK l k) l[k] := by
  unfold emK
  rw [List.take_succ_eq_append_getElem hk, List.foldl_append]
  rfl
theorem emO_len (e : List Nat) (o : DOpn) : (emO e o).length = e.length := by unfold emO; split <;> simp
theorem emK_len (l : List DOpn) : ∀ k, k ≤ l.length → (emK l k).length = 4
  | 0, _ => rfl
  | k + 1, hk => by
    have hk' : k < l.length := by omega
    rw [emK_succ hk', emO_len, emK_len l k (by omega)]
def KP (g : Nat → List Nat) (d : DkS) (em : List Nat) : Prop := ∀ i, i < 4 → em.getD i 0 = 0 → (g i <+: d.f i) ∧ ∀ o ∈ d.w, o.fl = (i : Int) → o.kd ≠ 2
theorem emO_0 {e : List Nat} {o : DOpn} {i : Nat} (hl : e.length = 4) (hi : i < 4) (h : (emO e o).getD i 0 = 0) : e.getD i 0 = 0 ∧ ¬ (o.kd = 2 ∧ o.fl = (i : Int)) := by
  unfold emO at h
  split at h
  · rename_i q
    by_cases ei : o.fl.toNat = i
    · subst ei
      rw [List.getD_eq_getElem?_getD, List.getElem?_set_self (by omega)] at h
      cases h
    · rw [List.getD_eq_getElem?_getD, List.getElem?_set_ne ei, ← List.getD_eq_getElem?_getD] at h
      exact ⟨h, fun hh => ei (by omega)⟩
  · rename_i q
    exact ⟨h, fun hh => q ⟨⟨hh.1, by omega⟩, by omega⟩⟩
theorem pre_doF {g f : Nat → List Nat} {o : DOpn} {i : Nat} (h : g i <+: f i) (ho : ¬ (o.kd = 2 ∧ o.fl = (i : Int))) (hf : 0 ≤ o.fl ∧ o.fl < 4) : g i <+: doF f o i := by
  rw [doF_at' hf]
  split
  · rename_i e
    unfold setB
    split
    · exact h.trans (List.prefix_append _ _)
    · split
      · rename_i k2; exact absurd ⟨k2, e⟩ ho
      · exact h
  · exact h
theorem pre_seF {g : Nat → List Nat} {i : Nat} : ∀ (w : List DOpn) (f : Nat → List Nat), g i <+: f i → (∀ o ∈ w, ¬ (o.kd = 2 ∧ o.fl = (i : Int))) → (∀ o ∈ w, mayW o = true) → g i <+: seF f w i
  | [], _, h, _, _ => h
  | o :: w, f, h, hw, hm => pre_seF w (doF f o) (pre_doF h (hw o (List.mem_cons_self ..)) (mayW_in (hm o (List.mem_cons_self ..))).2) (fun q hq => hw q (List.mem_cons_of_mem _ hq)) fun q hq => hm q (List.mem_cons_of_mem _ hq)
theorem KP_step {g : Nat → List Nat} {d : DkS} {em : List Nat} {o : DOpn} (hd : d.ok) (hl : em.length = 4) (h : KP g d em) : KP g (keepO d o) (emO em o) := fun i hi he => by
  obtain ⟨e1, e2⟩ := emO_0 hl hi he
  obtain ⟨h1, h2⟩ := h i hi e1
  unfold keepO
  split
  · unfold okS
    split
    · exact ⟨pre_seF d.w d.f h1 (fun q hq hh => h2 q hq hh.2 hh.1) (chk_parts hd).2.2.1, fun q hq => absurd hq List.not_mem_nil⟩
    · refine ⟨h1, fun q hq hf => ?_⟩
      rcases List.mem_append.1 hq with hq | hq
      · exact h2 q hq hf
      · rw [List.mem_singleton.1 hq] at hf ⊢
        exact fun k2 => e2 ⟨k2, hf⟩
  · exact ⟨h1, h2⟩
theorem KP_0 (d : DkS) (h : d.w = []) : KP d.f d [0, 0, 0, 0] := fun i _ _ => ⟨List.prefix_refl _, fun o ho => by rw [h] at ho; exact absurd ho List.not_mem_nil⟩
theorem KP_K {d : DkS} {l : List DOpn} (hd : d.ok) (hw : d.w = []) : ∀ k, k ≤ l.length → KP d.f (keepK d l k) (emK l k)
  | 0, _ => KP_0 d hw
  | k + 1, hk => by
    have hk' : k < l.length := by omega
    rw [keepK_succ hk', emK_succ hk']
    exact KP_step (keepK_ok hd k (by omega)) (emK_len l k (by omega)) (KP_K hd hw k (by omega))
theorem KP_em {g : Nat → List Nat} {d : DkS} {em : List Nat} {o : DOpn} (hl : em.length = 4) (h : KP g d em) : KP g d (emO em o) := fun i hi he => h i hi (emO_0 hl hi he).1
theorem front_mem {w : List DOpn} {K T : Nat} {q : DOpn} (h : q ∈ frontW w K T) : ∃ o ∈ w, q.kd = o.kd ∧ q.fl = o.fl := by
  unfold frontW at h
  cases e : w[K]? with
  | none => rw [e] at h; exact ⟨q, List.mem_of_mem_take h, rfl, rfl⟩
  | some o =>
    rw [e] at h
    have ho := List.mem_of_getElem? e
    have h' : q ∈ (if o.kd = 1 ∧ T ≠ 0 then w.take K ++ [tornO o T] else w.take K) := h
    split at h'
    · rcases List.mem_append.1 h' with h' | h'
      · exact ⟨q, List.mem_of_mem_take h', rfl, rfl⟩
      · rw [List.mem_singleton.1 h']; exact ⟨o, ho, rfl, rfl⟩
    · exact ⟨q, List.mem_of_mem_take h', rfl, rfl⟩
theorem KP_fall {g : Nat → List Nat} {d : DkS} {em : List Nat} (hd : d.ok) (h : KP g d em) (K T : Nat) {i : Nat} (hi : i < 4) (he : em.getD i 0 = 0) : g i <+: (fallS d K T).f i := by
  show g i <+: fallF d.f d.w K T i
  rw [front_f]
  obtain ⟨h1, h2⟩ := h i hi he
  refine pre_seF _ _ h1 (fun q hq hh => ?_) (chk_parts (front_ok hd K T)).2.2.1
  obtain ⟨o, ho, e1, e2⟩ := front_mem hq
  exact h2 o ho (by rw [← e2]; exact hh.2) (by rw [← e1]; exact hh.1)
theorem isN_fall {d : DkS} (h : isD d) (K T : Nat) : ∀ i, i < 4 → isN ((fallS d K T).f i) := fun i hi => by
  show isN (fallF d.f d.w K T i)
  rw [front_f]
  exact isN_seF' _ _ h.1 (isN_front h.2 K T) i hi
def wasK (f : Nat → List Nat) (i : Nat) : List D := [if 0 < i then rB (f 0) else .val (.slice none 0 0), if 1 < i then rB (f 1) else .val (.slice none 0 0), if 2 < i then rB (f 2) else .val (.slice none 0 0), if 3 < i then rB (f 3) else .val (.slice none 0 0)]
theorem wasK_set {f : Nat → List Nat} {i : Nat} (hi : i < 4) : (wasK f i).set (0 + ((i : Int)).toNat * 1) (rB (f i)) = wasK f (i + 1) := by
  have : i = 0 ∨ i = 1 ∨ i = 2 ∨ i = 3 := by omega
  rcases this with rfl | rfl | rfl | rfl <;> rfl
theorem wasK_at {f : Nat → List Nat} {i : Nat} (hi : i < 4) : (wasK f 4)[0 + ((i : Int)).toNat * 1]? = some (rB (f i)) := by
  have : i = 0 ∨ i = 1 ∨ i = 2 ∨ i = 3 := by omega
  rcases this with rfl | rfl | rfl | rfl <;> rfl
theorem wasK_nl (f : Nat → List Nat) (i : Nat) : D.nlL (wasK f i) = true := by
  unfold wasK
  simp only [D.nlL, Bool.and_eq_true]
  exact ⟨ite_nl rfl rfl, ite_nl rfl rfl, ite_nl rfl rfl, ite_nl rfl rfl, trivial⟩
theorem hasp_eq {l r : List Nat} (h : r <+: l) : (decide ((r.length : Int) ≤ (l.length : Int)) && decide (l.take r.length = r)) = true := by
  rw [decide_eq_true (by have := h.length_le; omega), decide_eq_true (List.prefix_iff_eq_take.1 h).symm]; rfl
set_option maxRecDepth 4000 in
set_option maxHeartbeats 1000000 in
theorem hasp_d (l r : List Nat) (hl : isN l) (hr : isN r) : DFun Try.prog 36 [.slf 1 (l).length ((l).flatMap un8), .slf 1 (r).length ((r).flatMap un8)] [] (.val (.bool (decide ((r.length : Int) ≤ (l.length : Int)) && decide (l.take r.length = r)))) [] := by
  refine dcalls_go (N := 18) 0 (by kernel_rfl) Try.func36 rfl rfl rfl (by simp only [fr0, Nat.zero_add, Nat.reduceAdd]; exact rfl) rfl fun s0 hs0 => ?_
  refine dwp_len (t := 0) rfl fun hl0 hL0 => ?_
  refine dwp_len (t := 1) rfl fun hl1 hL1 => ?_
  refine dwp_seq ?_
  refine dwp_region ?_
  refine walk_r rfl rfl rfl (op_move (.inr rfl) (ev1 rfl)) ?_
  refine walk_nil ?_
  refine dwp_seq ?_
  refine dwp_region ?_
  refine walk_r rfl rfl rfl (op_move (.inl rfl) (ev1 rfl)) ?_
  refine walk_r rfl rfl rfl (op_len rfl sl22 (ev1 rfl)) ?_
  refine walk_r rfl rfl rfl (op_move (.inl rfl) (ev1 rfl)) ?_
  refine walk_r rfl rfl rfl (op_len rfl sl22 (ev1 rfl)) ?_
  refine walk_r rfl rfl rfl (op_geq rfl (ev1 rfl) (ev1 rfl)) ?_
  refine walk_r rfl rfl rfl (op_move (.inl rfl) (ev1 rfl)) ?_
  refine walk_gr (gd_t rfl rfl rfl) rfl rfl rfl (op_move (.inl rfl) (ev1 rfl)) ?_
  refine walk_gr (gd_t rfl rfl rfl) rfl rfl rfl (op_move (.inl rfl) (ev1 rfl)) ?_
  refine walk_gr (gd_t rfl rfl rfl) rfl rfl rfl (op_len rfl sl22 (ev2 rfl)) ?_
  refine walk_gr (gd_t rfl rfl rfl) rfl rfl rfl (op_sltk (j := r.length) rfl sl22 (ev2 rfl) (bd_some (ev2 rfl)) (fun _ => by omega) (fun hp => by simp at hp; omega) (fun _ => rfl)) ?_
  refine walk_gr (gd_t rfl rfl rfl) rfl rfl rfl (op_move (.inl rfl) (ev1 rfl)) ?_
  refine walk_gr (gd_t rfl rfl rfl) rfl rfl rfl (dop_call [] [] [] rfl (ev1 rfl) (ec (ev2 rfl) (ec (ev2 rfl) en)) rfl rfl (beq_d (l.take r.length) r (fun x hx => hl x (List.mem_of_mem_take hx)) hr) rfl rfl rfl rfl rfl rfl) ?_
  refine walk_r rfl rfl rfl (op_and rfl (ev1 rfl) (ev3 rfl id)) ?_
  refine walk_r rfl rfl rfl (op_move (.inr rfl) (ev1 rfl)) ?_
  refine walk_nil ?_
  refine dwp_ret ?_
  refine kend0 (rs1 rfl (rv_t rfl)) rfl ?_
  rfl
end Go.Proofs.Ytjecmkaggobcjaa

namespace Go.Proofs.Ytjecmkaggobcjaa
theorem ar55 : arE Try.prog 55 = some (2, 1) := by kernel_rfl
theorem tb62 : tyB Try.prog 62 = some (true, 4) := by kernel_rfl
theorem zr23 : zrC Try.prog 23 = some [.slice none 0 0, .slice none 0 0, .slice none 0 0, .slice none 0 0] := by kernel_rfl
end Go.Proofs.Ytjecmkaggobcjaa
