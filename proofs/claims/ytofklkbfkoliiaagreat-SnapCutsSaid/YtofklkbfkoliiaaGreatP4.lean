/- Variables of a family: looked into, written, told apart by their addresses; a variable joins a family; A nil slice in a cell of a variable, taken over as a row of one's own that holds data; What is known of a value, told otherwise: nil slices as rows of nothing, plain structs as lists of cells; Arrays of words that are values, read at a place; cells at a place that is not known; Rows of families that grow by append; a row that a variable's cell names joins a family; Variables that stay, named by their addresses; contracts that give one of several things; what is fresh; How many entries a map has; rows of elements whose cells are all one; A struct whose fields are rows, stored into a part of a variable; Variables that hold a row of one's own that was nil; data told otherwise in a block; Rows cut with three bounds, in the middle: of memory that stays, and of one's own; Rounds of a range ov. No condition. -/
import Derived.Test.YtofklkbfkoliiaaGreatP3
import Derived.Test.YtofklkbfkoliiaaGreatRows
import Derived.LaidEqlPtr
import Derived.Maps.RangeRun
import Derived.ArgAppend
set_option maxRecDepth 4000
set_option maxHeartbeats 1000000
open List renaming getElem?_eq_some_iff → qas, getElem?_eq_getElem → qat, length_append → qaD, cons_append → qaE, getElem?_set_ne → qaG, nil_append → qaH, getElem?_set_self → qaI, replicate → qaJ, flatMap_cons → qaL, getElem?_append_left → qaN, getElem?_append_right → qaP, length_replicate → qaS, length_take → qaT, length_cons → qaU, all_eq_true → qaV, eq_nil_of_length_eq_zero → qaW, take_of_length_le → qaX, range → qaY, length_drop → qaZ, take_succ_eq_append_getElem → qa0, append_assoc → qa1, getD_eq_getElem?_getD → qa2, getElem?_eq_none → qa4, mem_cons_self → qa6, mem_cons_of_mem → qa9, getElem?_drop → qba, getElem?_map → qbb, mem_of_getElem? → qbc, getElem_mem → qbf, flatMap_append → qbg, getElem?_take → qbh, ext_getElem? → qbi, append_nil → qbk
open Nat renaming zero_add → qau, reduceAdd → qaw, le_of_ble_eq_true → qaF, le_trans → qaM, le_refl → qaO, zero_le → qa5, mul_le_mul_right → qa8, succ_mul → qbj, blt → qbl
open Bool renaming and_eq_true → qav, or_eq_false_iff → qax, not_eq_true' → qaz, not_eq_false' → qaA, or_eq_true → qaB
open Option.some renaming inj → qay
open Go.IntWalk renaming i64_in → qaC
open Int renaming not_lt → qaQ, not_le → qaR, toNat_natCast → qbe
open Array renaming replicate → qa7
namespace Go.Proofs.YtofklkbfkoliiaaGreat
set_option linter.unusedVariables false
set_option linter.unusedSimpArgs false
open Go.RowKit
section
variable {P : Program} {pc : Bool} {o : Oper} {F : Fr} {M : List Blk}
theorem Jh {α : Type} {g : α → D} {l : List α} {q : α} {T T' : TypeId} {x y : Operand} {i j n : Nat} {rw' : Bool} (ho : o.op = .store T x y) (hT : tyB P T = some (rw', 1)) (hx : Ev pc F x (.aloc i (j * 1))) (hy : Ev pc F y (g q)) (hM : M[i]? = some (.arx T' 1 n (l.flatMap fun a => [g a]))) (hj : j < l.length) (h1 : ∀ (s : St) v, Rep s (g q) v → v.cells = #[v] ∧ v.oneCell' = true) :
  DOp P pc o F M [i] .junk [(i, .arx T' 1 n ((l.set j q).flatMap fun a => [g a]))] := by
 have hmk : ∀ a, ((fun a => [g a]) a).length = 1 := fun _ => rfl
 have hmq0 : (fun a => [g a]) q = [g q] := rfl
 generalize hsz : (1 : Nat) = sz at hT hx hM hmk ⊢
 generalize (fun a => [g a]) = mk at hM hmk hmq0 ⊢
 intro hp a s hok hops hfp
 have hr := qq hp hx (by simp [ho, Op.operands]) hops
 have hry := qq hp hy (by simp [ho, Op.operands]) hops
 have hM' : s.M[i]? = some (.arx T' sz n (l.flatMap mk)) := by rw [hfp i (by simp)]; exact hM
 generalize hv : a.eval x = vx at hr
 generalize hvy : a.eval y = vy at hry
 cases hr with
 | @aloc _ _ n' c b h =>
  obtain ⟨hcel, hone⟩ := h1 s vy hry
  obtain ⟨us, hus⟩ : ∃ us, us = [vy] := ⟨_, rfl⟩
  have hul : us.length = (mk q).length := by rw [hus, hmq0]; rfl
  have hu : ∀ (p : Nat) d v, (mk q)[p]? = some d → us[p]? = some v → Rep s d v := fun p d v g1 g2 => by
   rw [hmq0] at g1
   rw [hus] at g2
   match p, g1, g2 with
   | 0, g1, g2 => cases g1; cases g2; exact hry
  have hC : vy.cells.toList = us := by rw [hcel, hus]
  have hoc0 : ∀ u ∈ us, u.oneCell' = true := fun u hu' => by
   rw [hus] at hu'
   obtain rfl := List.mem_singleton.1 hu'
   exact hone
  ·skip
   obtain ⟨vs, hk, q3, q4⟩ := hok.blk i _ _ hM' h
   rcases hk.2 with ⟨e1, e2⟩ | ⟨g, cap, cur, e1, e2, e3, e4, e5, e6, e7⟩
   ·cases e1
   ·cases e1
    have hflat : (l.flatMap mk).length = l.length * sz := wX hmk l
    have hle := qa8 sz e4
    have hjs : (j + 1) * sz ≤ l.length * sz := qa8 _ hj
    rw [qbj] at hjs
    have hlV := hk.1
    have husz : us.length = sz := by rw [hul, hmk]
    have hcell := qd e3 0
    have hoc := hoc0
    have hcurlen : cur.toList.length = c * sz := by simpa using e6
    have hrun := gv (P := P) (w := s.w) (C := us) ho hT hv hvy hC husz (fun p hp' => by
      have := hcell (j * sz + p) _ (by simpa using qat (by simp at hcurlen ⊢; omega : j * sz + p < cur.toList.length))
      rw [qau] at this
      rw [this]; rfl) (fun p hp' => by simp [World.frozen?, e3]) hoc
    have hβ : s.β.set i (.slice (some ⟨b, 0, none⟩) n c) = s.β := by
     apply qbi
     intro k
     by_cases e : i = k
     ·subst e; rw [qaI (qas.1 h).1, h]
     ·rw [qaG e]
    have lift : ∀ {e : D} {v : Value}, Rep s e v → Rep ⟨s.β.set i (.slice (some ⟨b, 0, none⟩) n c), s.I, s.M.set i (.arx T' sz n ((l.set j q).flatMap mk)), s.w.setCells b (j * sz) us⟩ e v := by
     intro e v hr
     refine Rep.mono' (s := s) (s' := ⟨s.β.set i (.slice (some ⟨b, 0, none⟩) n c), s.I, s.M.set i (.arx T' sz n ((l.set j q).flatMap mk)), s.w.setCells b (j * sz) us⟩) (fun k x hk _ => by show (s.β.set i _)[k]? = _; rw [hβ]; exact hk) (fun _ h => h) (fun b' hI => kJ b _ _ s.w b' fun e => ?_) hr
     subst e
     exact (hok.lt b' (qk hM' rfl h rfl)).2 hI
    refine yR (s' := ⟨s.β.set i (.slice (some ⟨b, 0, none⟩) n c), s.I, s.M.set i (.arx T' sz n ((l.set j q).flatMap mk)), s.w.setCells b (j * sz) us⟩) hrun (yb hok hM' rfl h rfl _ us ?_) rfl
    have hsl := jD us cur.toList (j * sz)
    refine ⟨jC vs (j * sz) us, ⟨by rw [jD]; exact hlV, .inr ⟨b, c, (jC cur.toList (j * sz) us).toArray, rfl, e2, kI b us _ s.w cur.toList T' (by simpa using e3), e4, e5, by simp [hsl]; simpa using e6, ?_⟩⟩, ?_, ?_⟩
    ·rw [jx us cur.toList _ (by omega), jx us vs _ (by omega)]
     have hcut : cur.toList = vs ++ cur.toList.drop vs.length := by
      have := List.take_append_drop (n * sz) cur.toList
      rw [e7, ← hlV] at this
      exact this.symm
     generalize cur.toList.drop vs.length = R at hcut
     rw [hcut]
     have t1 : (vs ++ R).take (j * sz) = vs.take (j * sz) := List.take_append_of_le_length (by omega)
     have t2 : (vs ++ R).drop (j * sz + us.length) = vs.drop (j * sz + us.length) ++ R := List.drop_append_of_le_length (by omega)
     rw [t1, t2, ← hlV, ← qa1]
     refine List.take_left' ?_
     simp; omega
    ·rw [jD, q3, hflat, wX hmk, List.length_set]
    ·have key : ((l.set j q).flatMap mk) = (l.flatMap mk).take (j * sz) ++ mk q ++ (l.flatMap mk).drop (j * sz + sz) := by
      rw [zo hmk, show j * sz + sz = (j + 1) * sz by rw [qbj], vD hmk, List.set_eq_take_append_cons_drop, if_pos hj, qbg, qaL, qa1]
     rw [key, jx us vs _ (by omega), husz]
     have hA : Reps ⟨s.β.set i (.slice (some ⟨b, 0, none⟩) n c), s.I, s.M.set i (.arx T' sz n ((l.flatMap mk).take (j * sz) ++ mk q ++ (l.flatMap mk).drop (j * sz + sz))), s.w.setCells b (j * sz) us⟩ ((l.flatMap mk).take (j * sz) ++ mk q ++ (l.flatMap mk).drop (j * sz + sz)) (vs.take (j * sz) ++ us ++ vs.drop (j * sz + sz)) := by
      rw [key] at lift
      refine xb (xb ⟨by simp [q3], fun p d v g1 g2 => ?_⟩ ⟨hul, fun p d v g1 g2 => lift (hu p d v g1 g2)⟩) ⟨by simp [q3], fun p d v g1 g2 => ?_⟩
      ·rw [qbh] at g1 g2
       split at g1
       ·rename_i hp'
        rw [if_pos hp'] at g2
        exact lift (q4 p d v g1 g2)
       ·cases g1
      ·rw [qba] at g1 g2
       exact lift (q4 _ d v g1 g2)
     exact hA.2
end
section
variable {P : Program} {s0 : St} {n : Cx}
end
end Go.Proofs.YtofklkbfkoliiaaGreat
namespace Go.Proofs.YtofklkbfkoliiaaGreat
set_option linter.unusedVariables false
set_option linter.unusedSimpArgs false
open Go.RowKit
section
variable {P : Program} {s0 : St} {n : Cx}
theorem Yw {F : Fr} {M : List Blk} {a : Act} {w : World} {i q : Nat} {T : TypeId} {l : List D} (e : TypeId) (sz : Nat) (h : Inv s0 n F M a w) (hi : M[i]? = some (.mix T l)) (hq : l[q]? = some (.val (.slice none 0 0))) : Inv s0 n F ((M ++ [Blk.arx e sz 0 []]).set i (.mix T (l.set q (.arr M.length)))) a w := by
 obtain ⟨h0, s, rfl, rfl, h3, h4, h5, h6⟩ := h
 have t1 := gQ h3.ok
 have hlen := h3.ok.len
 have hn : (s.M ++ [Blk.hole])[s.M.length]? = some .hole := by simp
 have t2 : Tr ⟨s.β ++ [Value.nilFunc], s.I, s.M ++ [Blk.hole], s.w⟩ ⟨(s.β ++ [Value.nilFunc]).set s.M.length (.slice none 0 0), s.I, (s.M ++ [Blk.hole]).set s.M.length (.arx e sz 0 []), s.w⟩ :=
  gT (s := ⟨s.β ++ [Value.nilFunc], s.I, s.M ++ [Blk.hole], s.w⟩) t1.ok (j := s.M.length) hn (.slice none 0 0) (.arx e sz 0 []) s.w (by simp) (fun b hb => by cases hb) (fun b _ => rfl) (fun b hb => by cases hb) (qaO _) rfl rfl rfl ⟨[], World.ownsRow_nil s.w 0 e sz, rfl, fun j d v h => by simp at h⟩
 have tt := t1.trans t2
 have hil : i < s.M.length := (qas.1 hi).1
 have eM : (s.M ++ [Blk.hole]).set s.M.length (.arx e sz 0 []) = s.M ++ [.arx e sz 0 []] := by simp
 rw [eM] at tt
 generalize hS : (⟨(s.β ++ [Value.nilFunc]).set s.M.length (.slice none 0 0), s.I, s.M ++ [.arx e sz 0 []], s.w⟩ : St) = S at tt
 have hSM : S.M = s.M ++ [.arx e sz 0 []] := by rw [← hS]
 have hSw : S.w = s.w := by rw [← hS]
 have hMi : S.M[i]? = some (.mix T l) := by rw [hSM, qaN hil]; exact hi
 have hβlen : s.M.length < S.β.length := by rw [← hS]; simp [hlen]
 have hβn : S.β[s.M.length]? = some (.slice none 0 0) := by rw [← hS]; simp [hlen]
 obtain ⟨hd, hβi⟩ : ∃ hd, S.β[i]? = some hd := ⟨_, qat (by omega)⟩
 obtain ⟨b, vs, rfl, hb, hl, hr⟩ := tt.ok.blk i _ _ hMi hβi
 have hβe : S.β.set i (.pointer (some ⟨b, 0, none⟩)) = S.β := by
  refine qbi fun k => ?_
  by_cases hk : i = k
  ·subst hk; rw [qaI (by omega), hβi]
  ·rw [qaG hk]
 have t3 : Tr S ⟨S.β.set i (.pointer (some ⟨b, 0, none⟩)), S.I, S.M.set i (.mix T (l.set q (.arr s.M.length))), S.w⟩ := by
  have hlv : Live S b := qk hMi rfl hβi rfl
  refine kR tt.ok i S.M (.pointer (some ⟨b, 0, none⟩)) (.mix T (l.set q (.arr s.M.length))) S.w rfl (fun _ _ h => .inl h) (qas.1 hMi).1 (.inr (.inl hβi)) (by simp) ?_ (fun c hc j k h hne h1 h2 h3 h4 => ?_) (fun c hc => by cases hc; exact .inr hlv) (fun c hc => by cases hc; exact (tt.ok.lt b hlv).1) (fun _ => False) (fun _ h => h.elim) (fun _ _ _ _ => rfl) rfl rfl rfl (qaO _)
  ·refine ⟨b, vs, rfl, hb, by rw [List.length_set]; exact hl, fun j d v h1 h2 => ?_⟩
   have up : ∀ {d : D} {v : Value}, Rep S d v → Rep ⟨S.β.set i (.pointer (some ⟨b, 0, none⟩)), S.I, S.M.set i (.mix T (l.set q (.arr s.M.length))), S.w⟩ d v := fun h =>
    Rep.monoK (s := S) (s' := ⟨S.β.set i (.pointer (some ⟨b, 0, none⟩)), S.I, S.M.set i (.mix T (l.set q (.arr s.M.length))), S.w⟩) (by show hkeep S.β (S.β.set i _); rw [hβe]; exact hkeep.refl _) (fun _ h => h) (fun _ _ => rfl) h
   by_cases e : q = j
   ·subst e
    rw [qaI (qas.1 hq).1] at h1
    obtain rfl := qay h1
    have hv := (hr q _ v hq h2).val_eq
    subst hv
    exact .arr (by show (S.β.set i _)[_]? = _; rw [hβe]; exact hβn)
   ·rw [qaG e] at h1
    exact up (hr j d v h1 h2)
  ·cases hc
   exact hne (tt.ok.inj j i k _ h _ b h1 h2 h3 h4 hMi rfl hβi rfl)
 have ttt := tt.trans t3
 refine ⟨h0, ⟨S.β.set i (.pointer (some ⟨b, 0, none⟩)), S.I, S.M.set i (.mix T (l.set q (.arr s.M.length))), S.w⟩, by simp only [hSM], hSw, h3.trans ttt, fun x d hd => (h4 x d hd).mono h3.ok ttt, h5, h6.mono h3.ok ttt⟩
theorem vF {c : Code} {F : Fr} {M M' : List Blk} {K : Cont} {T : TypeId} {l l' : List D} (i q : Nat) (e : TypeId) (sz : Nat) {m : Nat} (hi : M[i]? = some (.mix T l)) (hq : l[q]? = some (.val (.slice none 0 0))) (hm : M.length = m) (hl : l.set q (.arr m) = l') (hM : (M ++ [Blk.arx e sz 0 []]).set i (.mix T l') = M') (h : dwp P s0 n c F M' K) : dwp P s0 n c F M K := by
 subst hm hl hM
 exact fun a w hv => h a w (Yw e sz hv hi hq)
theorem yW {fn : Func} {c : Code} {F : Fr} {M : List Blk} {m : Nat} {post pan : D → List Blk → Prop} (h : uk P s0 n fn m post pan c F M) : uk P s0 n fn m post pan (.scope c) F M := by
 intro a w hi b k cs hro hb hr
 obtain ⟨e, a₁, w₁, hq, harr⟩ := h a w hi b (.inScope c :: k) cs hro hb hr
 have f : ∀ (m : Machine), m.fenced P Fence.wide := fun _ => by rw [← Xv]; exact jj
 cases e with
 | normal => exact ⟨.normal, a₁, w₁, hq, .head (f _) kr (StepsIn.trans harr (.one (f _) yH))⟩
 | exit id => exact hq.elim
 | goto l => exact hq.elim
 | ret => exact ⟨.ret, a₁, w₁, hq, .of_steps (.one (f _) kr) harr⟩
 | panic ch => exact ⟨.panic ch, a₁, w₁, hq, .of_steps (.one (f _) kr) harr⟩
 | outgrown => exact ⟨.outgrown, a₁, w₁, hq, .of_steps (.one (f _) kr) harr⟩
end
theorem DFun.wk {P : Program} {f : FuncId} {args : List D} {d d' : D} {Min Mout : List Blk} (h : DFun P f args Min d Mout) (hd : ∀ s v, Rep s d v → Rep s d' v) : DFun P f args Min d' Mout := by
 refine ⟨h.1, fun s vs hok hM hr => (h.2 s vs hok hM hr).mono ?_⟩
 rintro e w' ⟨s', rfl, ht, hor⟩
 rcases hor with ⟨d0, v, rfl, hrep, rfl, hMo⟩ | ⟨d0, v, _, _, hf⟩
 ·exact ⟨s', rfl, ht, .inl ⟨d', v, rfl, hd s' v hrep, rfl, hMo⟩⟩
 ·exact hf.elim
end Go.Proofs.YtofklkbfkoliiaaGreat
namespace Go.Proofs.YtofklkbfkoliiaaGreat
set_option linter.unusedVariables false
set_option linter.unusedSimpArgs false
open Go.RowKit
def Wk (d d' : D) : Prop := ∀ s v, Rep s d v → Rep s d' v
def WkL (l l' : List D) : Prop := l.length = l'.length ∧ ∀ (j : Nat) d d', l[j]? = some d → l'[j]? = some d' → Wk d d'
theorem Wk.refl (d : D) : Wk d d := fun _ _ h => h
theorem Wk.of_eq {d d' : D} (h : d = d') : Wk d d' := h ▸ Wk.refl d
theorem WkL.nil : WkL [] [] := ⟨rfl, fun j d d' h => by simp at h⟩
theorem WkL.cons {d d' : D} {l l' : List D} (h : Wk d d') (hl : WkL l l') : WkL (d :: l) (d' :: l') := by
 refine ⟨by simp [hl.1], fun j e e' h1 h2 => ?_⟩
 cases j with
 | zero => simp at h1 h2; subst h1 h2; exact h
 | succ j => exact hl.2 j e e' (by simpa using h1) (by simpa using h2)
theorem WkL.refl (l : List D) : WkL l l := ⟨rfl, fun j d d' h1 h2 => by rw [h1] at h2; cases h2; exact Wk.refl d⟩
theorem WkL.rep {s : St} {l l' : List D} {vs : List Value} (h : WkL l l') (hr : ∀ (j : Nat) d v, l[j]? = some d → vs[j]? = some v → Rep s d v) : ∀ (j : Nat) d v, l'[j]? = some d → vs[j]? = some v → Rep s d v := fun j d v h1 h2 => by
 have hj : j < l.length := by rw [h.1]; exact (qas.1 h1).1
 exact h.2 j l[j] d (qat hj) h1 s v (hr j _ v (qat hj) h2)
theorem Wk.tup {l l' : List D} (h : WkL l l') : Wk (.tup l) (.tup l') := fun s v hr => by
 cases hr with
 | tup hl hr => exact .tup (hl.trans h.1) (h.rep hr)
theorem Wk.agg {l l' : List D} (h : WkL l l') : Wk (.agg l) (.agg l') := fun s v hr => by
 cases hr with
 | agg hl hr => exact .agg (hl.trans h.1) (h.rep hr)
theorem Wk.slm0 (sz : Nat) : Wk (.val (.slice none 0 0)) (.slm sz 0 []) := fun s v hr => by
 cases hr with
 | val => exact .slm (vs := []) rfl (by simp) (qaO _) (qa5 _) (fun _ => rfl) rfl (fun j d v h => by simp at h) (.inl rfl)
theorem Wk.slf0 (sz : Nat) : Wk (.val (.slice none 0 0)) (.slf sz 0 []) := fun s v hr => by
 cases hr with
 | val => exact .slf (by simp) (qaO _) (qa5 _) (fun _ => rfl) (.inl rfl)
theorem Wk.vagg (l : List Value) : Wk (.val (.agg l.toArray)) (.agg (l.map D.val)) := fun s v hr => by
 cases hr with
 | val =>
  refine .agg (by simp) fun j d v h1 h2 => ?_
  rw [qbb, h2] at h1
  cases h1
  exact .val v
theorem Wk.trans {d d' d'' : D} (h : Wk d d') (k : Wk d' d'') : Wk d d'' := fun s v hr => k s v (h s v hr)
theorem DOp.wk {P : Program} {pc : Bool} {o : Oper} {F : Fr} {M : List Blk} {fp : List Nat} {d d' : D} {wr : List (Nat × Blk)} (h : DOp P pc o F M fp d wr) (hw : Wk d d') : DOp P pc o F M fp d' wr := by
 intro hp a s hok hops hfp
 exact (h hp a s hok hops hfp).map fun s' v ho' ⟨e1, e2⟩ => ⟨s', rfl, Tr.refl ho', e1, hw s' v e2⟩
theorem yo {pc : Bool} {F : Fr} {x : Operand} {d d' : D} (h : Ev pc F x d) (hw : Wk d d') : Ev pc F x d' := by
 obtain ⟨d0, e1, e2⟩ := h
 exact ⟨d0, e1, fun s v hp hr => hw _ _ (e2 s v hp hr)⟩
section
variable {P : Program} {s0 : St} {n : Cx}
theorem Ah {c : Code} {F : Fr} {M : List Blk} {K : Cont} {d d' : D} (t : Nat) (ht : lk F t = some d) (hw : Wk d d') (h : dwp P s0 n c ((t, d') :: F) M K) : dwp P s0 n c F M K := by
 intro a w hi
 refine h a w ?_
 obtain ⟨h0, s, h1, h2, h3, h4, h5, h6⟩ := hi
 refine ⟨h0, s, h1, h2, h3, fun x e he => ?_, h5, h6⟩
 rw [jk] at he
 split at he
 ·rename_i e'
  subst e'
  obtain rfl := qay he
  exact hw s _ (h4 t _ ht)
 ·exact h4 x e he
end
theorem WM {σ : List Nat} {V : Nat → Bool} {M : List Blk} {a a' : D} {b : Value} (h : vw σ V M a = some a') : vw σ V M (.tup [a, .val b]) = some (.tup [a', .val b]) := by
 unfold vw; unfold vwL; rw [h]; rfl
theorem WN {σ : List Nat} {V : Nat → Bool} {M : List Blk} {a a' : D} {b c : Value} (h : vw σ V M a = some a') : vw σ V M (.tup [a, .val b, .val c]) = some (.tup [a', .val b, .val c]) := by
 unfold vw; unfold vwL; rw [h]; rfl
section
variable {P : Program} {pc : Bool} {o : Oper} {F : Fr} {M : List Blk} {T : TypeId} {x : Operand}
end
end Go.Proofs.YtofklkbfkoliiaaGreat
namespace Go.Proofs.YtofklkbfkoliiaaGreat
set_option linter.unusedVariables false
set_option linter.unusedSimpArgs false
open Go.RowKit
section
variable {P : Program} {pc : Bool} {o : Oper} {F : Fr} {M : List Blk} {T : TypeId} {x y : Operand} {k : IntKind} {z : Int} {n : Nat}
theorem Ai {L : List Value} {v : Value} (j : Nat) (ho : o.op = .index T x y) (hT : arW P T = some n) (hx : Ev pc F x (.val (.agg L.toArray))) (hy : Ev pc F y (.val (.int k z))) (hz : pc = true → z = (j : Int)) (hj : j < n) (hd : L[j]? = some v) : DOp P pc o F M [] (.val v) [] :=
 Ac (ds := L.map D.val) j ho hT (yo hx (Wk.vagg L)) hy hz hj (by rw [qbb, hd]; rfl)
end
end Go.Proofs.YtofklkbfkoliiaaGreat
namespace Go.Proofs.YtofklkbfkoliiaaGreat
set_option linter.unusedVariables false
set_option linter.unusedSimpArgs false
open Go.RowKit
theorem DGives.of_tr {P : Program} {s s1 : St} {post : St → Value → Prop} {r : Result Next} (t : Tr s s1) (hw : s1.w = s.w) (h : DGives P s1 post r) : DGives P s post r := by
 have key : ∀ {w' : World} {v : Value}, (∃ s', s'.w = w' ∧ Tr s1 s' ∧ post s' v) → ∃ s', s'.w = w' ∧ Tr s s' ∧ post s' v := by
  rintro w' v ⟨s', rfl, a2, a3⟩
  exact ⟨s', rfl, t.trans a2, a3⟩
 cases r with
 | halt x w => exact h.elim
 | ok x w =>
  cases x with
  | value v => exact key h
  | skip => exact key h
  | enter f args =>
   obtain ⟨h1, h2⟩ := h
   refine ⟨h1.trans hw, ?_⟩
   rw [← hw]
   refine h2.mono ?_
   rintro e w'' ⟨s', v, e1, e2, e3, e4⟩
   exact ⟨s', v, e1, e2, t.trans e3, e4⟩
  | round l f tmps asg body =>
   obtain ⟨h1, h2⟩ := h
   refine ⟨h1.trans hw, ?_⟩
   rw [← hw]
   refine RoundIn.mono h2 ?_
   rintro e w'' ⟨s', v, e1, e2, e3, e4⟩
   exact ⟨s', v, e1, e2, t.trans e3, e4⟩
  | _ => exact h.elim
section
variable {P : Program} {pc : Bool} {o : Oper} {F : Fr} {M : List Blk}
theorem Qq {T e : TypeId} {sz by' n m f j1 j2 k t t2 : Nat} {Bs : List Mem} {L L2 Z : List Value} (ho : o.op = .call { callee := .builtin .append, args := #[.tmp t, .tmp t2], argTypes := #[T, T] }) (ht : (t == t2) = false) (hT : slE P T = some (e, sz, by')) (hZ : zrC P e = some Z) (hZl : Z.length = sz)
  (hx : Ev pc F (.tmp t) (.farr f k)) (hy : Ev pc F (.tmp t2) (.slf sz m L2)) (hM : M[f]? = some (.fam Bs)) (hB : Bs[k]? = some (.arr e sz n L)) (hj1 : M[j1]? = some .hole) (hj2 : M[j2]? = some .hole) (hne : (j1 == j2) = false) (h1 : pc = true → L2.all (·.oneCell') = true) (hbd : pc = true → (n + m) * by' ≤ 140737488355328 ∧ n + m ≤ 140737488355328) :
  DOp P pc o F M [f, j1, j2] (.farr f Bs.length) [(f, .fam (Bs.set k .gone ++ [.arr e sz (n + m) (L ++ L2)])), (j1, .gone), (j2, .gone)] := by
 intro hp a s hok hops hfp
 have ht : t ≠ t2 := by simpa using ht
 have hne : j1 ≠ j2 := by simpa using hne
 have hmem : o.op.operands = #[.tmp t, .tmp t2] := by rw [ho]; rfl
 have rx := qq hp hx (by rw [hmem]; simp) hops
 have ry := qq hp hy (by rw [hmem]; simp) hops
 have hM' : s.M[f]? = some (.fam Bs) := by rw [hfp f (by simp)]; exact hM
 have g1 : s.M[j1]? = some .hole := by rw [hfp j1 (by simp)]; exact hj1
 have g2 : s.M[j2]? = some .hole := by rw [hfp j2 (by simp)]; exact hj2
 have hf1 : f ≠ j1 := fun e => by subst e; rw [hM'] at g1; cases g1
 have hf2 : f ≠ j2 := fun e => by subst e; rw [hM'] at g2; cases g2
 have hfl := (qas.1 hM').1
 have hl1 := (qas.1 g1).1
 have hl2 := (qas.1 g2).1
 generalize hvx : a.eval (.tmp t) = vx at rx
 cases rx with
 | @farr _ _ ad n' c hs q1 q2 =>
  have tt := WL (B := .arr e sz n L) hok hM' g1 hB rfl q1 q2
  obtain ⟨s1, e1⟩ : ∃ s1 : St, s1 = ⟨s.β.set j1 (.slice ad n' c), s.I, (s.M.set f (.fam (Bs.set k .gone))).set j1 (.arr e sz n L), s.w⟩ := ⟨_, rfl⟩
  have tt : Tr s s1 := by rw [e1]; exact tt
  have hM1 : s1.M = (s.M.set f (.fam (Bs.set k .gone))).set j1 (.arr e sz n L) := by rw [e1]
  have hw1 : s1.w = s.w := by rw [e1]
  have hβ1 : s1.β[j1]? = some (.slice ad n' c) := by rw [e1]; show (s.β.set j1 _)[j1]? = _; rw [qaI (by rw [hok.len]; exact hl1)]
  have m1 : s1.M[j1]? = some (.arr e sz n L) := by rw [hM1, qaI (by simpa using hl1)]
  have m2 : s1.M[j2]? = some .hole := by rw [hM1, qaG hne, qaG hf2]; exact g2
  have m3 : s1.M[f]? = some (.fam (Bs.set k .gone)) := by rw [hM1, qaG (Ne.symm hf1), qaI hfl]
  have ra : Rep s1 (.arr j1) (a.eval (.tmp t)) := by rw [hvx]; exact .arr hβ1
  have hl : ∀ x ∈ o.op.operands, ∀ d, ev [(t, D.arr j1), (t2, .slf sz m L2)] x = some d → Rep s1 d (a.eval x) := by
   intro x hx' d hd
   rw [hmem] at hx'
   simp at hx'
   rcases hx' with rfl | rfl
   ·simp only [ev, lk, Nat.beq_refl, cond_true] at hd
    cases hd
    exact ra
   ·have hb : Nat.beq t t2 = false := by
     cases hbb : Nat.beq t t2
     ·rfl
     ·exact absurd (Nat.eq_of_beq_eq_true hbb) ht
    simp only [ev, lk, hb, Nat.beq_refl, cond_true, cond_false] at hd
    cases hd
    exact ry.mono hok tt
  have hb : Nat.beq t t2 = false := by
   cases hbb : Nat.beq t t2
   ·rfl
   ·exact absurd (Nat.eq_of_beq_eq_true hbb) ht
  have hD := vt (P := P) (pc := true) (F := [(t, D.arr j1), (t2, .slf sz m L2)]) (M := s1.M) (i := j1) (j := j2) (d := .slf sz m L2) (fp := []) ho hT hZ hZl (ev1 (by simp only [ev, lk, Nat.beq_refl, cond_true])) (ev1 (by simp only [ev, lk, hb, Nat.beq_refl, cond_true, cond_false])) yS m1 m2 (fun _ => h1 hp) (fun _ => hbd hp) rfl a s1 tt.ok hl (fun _ _ => rfl)
  rw [hw1] at hD
  refine (DGives.of_tr tt hw1 hD).map fun s' v ho' ⟨u1, u2⟩ => ?_
  have hs'M : s'.M = (s1.M.set j1 .gone).set j2 (.arr e sz (n + m) (L ++ L2)) := u1
  have k2 : s'.M[j2]? = some (.arr e sz (n + m) (L ++ L2)) := by rw [hs'M, qaI (by rw [List.length_set, hM1]; simpa using hl2)]
  have k3 : s'.M[f]? = some (.fam (Bs.set k .gone)) := by rw [hs'M, qaG (Ne.symm hf2), qaG (Ne.symm hf1)]; exact m3
  have hlen' := ho'.len
  have kf := (qas.1 k3).1
  have kj := (qas.1 k2).1
  obtain ⟨x, hx2⟩ : ∃ x, s'.β[f]? = some x := ⟨_, qat (by omega)⟩
  obtain ⟨y, hy2⟩ : ∃ y, s'.β[j2]? = some y := ⟨_, qat (by omega)⟩
  obtain ⟨hs2, rfl, hfo⟩ := ho'.blk f _ x k3 hx2
  have t3 := Yv (B := .arr e sz (n + m) (L ++ L2)) ho' k3 k2 rfl hx2 hy2
  refine ⟨⟨s'.β.set f (.tuple (hs2 ++ [y]).toArray), s'.I, (s'.M.set j2 .gone).set f (.fam (Bs.set k .gone ++ [.arr e sz (n + m) (L ++ L2)])), s'.w⟩, rfl, t3, ?_, ?_⟩
  ·show (s'.M.set j2 .gone).set f _ = ((s.M.set f _).set j1 .gone).set j2 .gone
   rw [hs'M, hM1]
   apply qbi
   intro i
   simp only [List.getElem?_set, List.length_set]
   by_cases a1 : f = i
   ·subst a1
    simp [hf1.symm, hf2.symm, hfl]
   ·by_cases a2 : j1 = i
    ·subst a2
     simp [a1, hne.symm, hl1]
    ·by_cases a3 : j2 = i
     ·subst a3
      simp [a1, a2, hl2]
     ·simp [a1, a2, a3]
  ·cases u2 with
   | @arr _ ad' n'' c' hβ =>
    rw [hy2] at hβ
    obtain rfl := qay hβ
    refine .farr (hs := hs2 ++ [.slice ad' n'' c']) (by show (s'.β.set f _)[f]? = _; rw [qaI (by omega)]) ?_
    have : hs2.length = Bs.length := by rw [hfo.len]; simp
    rw [qaP (by omega), show Bs.length - hs2.length = 0 by omega]
    rfl
end
section
variable {P : Program} {s0 : St} {n : Cx}
theorem WO {F : Fr} {M : List Blk} {a : Act} {w : World} {p q j f : Nat} {T e : TypeId} {l : List D} {sz m : Nat} {L : List Value} {Bs : List Mem} (h : Inv s0 n F M a w) (hM : M[p]? = some (.mix T l)) (hq : l[q]? = some (.arr j)) (hj : M[j]? = some (.arr e sz m L)) (hf : M[f]? = some (.fam Bs)) : Inv s0 n F (((M.set j .gone).set f (.fam (Bs ++ [.arr e sz m L]))).set p (.mix T (l.set q (.farr f Bs.length)))) a w := by
 obtain ⟨h0, s, rfl, rfl, h3, h4, h5, h6⟩ := h
 have hlen := h3.ok.len
 have hfl := (qas.1 hf).1
 have hjl := (qas.1 hj).1
 have hpl := (qas.1 hM).1
 have hpj : p ≠ j := fun e => by subst e; rw [hM] at hj; cases hj
 have hpf : p ≠ f := fun e => by subst e; rw [hM] at hf; cases hf
 obtain ⟨x, hx⟩ : ∃ x, s.β[f]? = some x := ⟨_, qat (by omega)⟩
 obtain ⟨y, hy⟩ : ∃ y, s.β[j]? = some y := ⟨_, qat (by omega)⟩
 obtain ⟨z, hz⟩ : ∃ z, s.β[p]? = some z := ⟨_, qat (by omega)⟩
 obtain ⟨hs, rfl, hfo⟩ := h3.ok.blk f _ x hf hx
 have tt := Yv (B := .arr e sz m L) h3.ok hf hj rfl hx hy
 obtain ⟨s1, e1⟩ : ∃ s1 : St, s1 = ⟨s.β.set f (.tuple (hs ++ [y]).toArray), s.I, (s.M.set j .gone).set f (.fam (Bs ++ [.arr e sz m L])), s.w⟩ := ⟨_, rfl⟩
 have tt : Tr s s1 := by rw [e1]; exact tt
 have hM1 : s1.M = (s.M.set j .gone).set f (.fam (Bs ++ [.arr e sz m L])) := by rw [e1]
 have hw1 : s1.w = s.w := by rw [e1]
 have hp1 : s1.M[p]? = some (.mix T l) := by rw [hM1, qaG (Ne.symm hpf), qaG (Ne.symm hpj)]; exact hM
 have hz1 : s1.β[p]? = some z := by rw [e1]; show (s.β.set f _)[p]? = _; rw [qaG (Ne.symm hpf)]; exact hz
 have hpl1 : p < s1.M.length := (qas.1 hp1).1
 have hset : s1.β.set p z = s1.β := by
  have h1 : p < s1.β.length := by rw [tt.ok.len]; exact hpl1
  have h2 : s1.β[p] = z := by
   have := qat h1
   rw [hz1] at this
   exact (qay this).symm
  rw [← h2]
  exact List.set_getElem_self ..
 obtain ⟨b, vs, k1, k2, k3, k4⟩ := tt.ok.blk p _ z hp1 hz1
 have hql := (qas.1 hq).1
 have t2 : Tr s1 ⟨s1.β, s1.I, s1.M.set p (.mix T (l.set q (.farr f Bs.length))), s1.w⟩ := by
  have hst := kR tt.ok p s1.M z (.mix T (l.set q (.farr f Bs.length))) s1.w rfl (fun i k h => .inl h) hpl1 (.inr (.inl hz1)) (by rw [k1]; simp) ?_ (fun b' hb' j' kj hj' hne h1 h2 h3' h4' => ?_) (fun b' hb' => .inr (qk hp1 rfl hz1 hb')) (fun b' hb' => (tt.ok.lt b' (qk hp1 rfl hz1 hb')).1) (fun _ => False) (fun _ h => h.elim) (fun b' hlt hne _ => rfl) rfl rfl rfl (qaO _)
  ·rw [hset] at hst
   exact hst
  ·refine ⟨b, vs, k1, k2, by simp [k3], fun j' d v g1 g2 => ?_⟩
   rw [hset]
   have lift : ∀ {d v}, Rep s1 d v → Rep ⟨s1.β, s1.I, s1.M.set p (.mix T (l.set q (.farr f Bs.length))), s1.w⟩ d v := fun hr =>
    Rep.mono' (s := s1) (s' := ⟨s1.β, s1.I, s1.M.set p (.mix T (l.set q (.farr f Bs.length))), s1.w⟩) (fun _ _ h _ => h) (fun _ h => h) (fun _ _ => rfl) hr
   by_cases e : q = j'
   ·subst e
    rw [qaI hql] at g1
    cases g1
    refine lift ?_
    have hr := k4 q _ v hq g2
    have hy1 : s1.β[j]? = some y := by
     have hjf : f ≠ j := fun e => by subst e; rw [hf] at hj; cases hj
     rw [e1]; show (s.β.set f _)[j]? = _; rw [qaG hjf]; exact hy
    cases hr with
    | @arr _ ad n' c hβ =>
     rw [hy1] at hβ
     obtain rfl := qay hβ
     refine .farr (hs := hs ++ [.slice ad n' c]) (by rw [e1]; show (s.β.set f _)[f]? = _; rw [qaI (by omega)]) ?_
     rw [qaP (by rw [hfo.len]; exact qaO _), hfo.len, Nat.sub_self]
     rfl
   ·rw [qaG e] at g1
    exact lift (k4 j' d v g1 g2)
  ·exact hne (tt.ok.inj j' p kj _ hj' _ b' h1 h2 h3' h4' hp1 rfl hz1 hb')
 refine ⟨h0, ⟨s1.β, s1.I, s1.M.set p (.mix T (l.set q (.farr f Bs.length))), s1.w⟩, by rw [hM1], hw1, (h3.trans tt).trans t2, fun x d hd => ((h4 x d hd).mono h3.ok tt).mono tt.ok t2, h5, (h6.mono h3.ok tt).mono tt.ok t2⟩
theorem Gi {c : Code} {F : Fr} {M M' : List Blk} {K : Cont} (p q f : Nat) {j : Nat} {T e : TypeId} {l : List D} {sz m : Nat} {L : List Value} {Bs : List Mem} (hM : M[p]? = some (.mix T l)) (hq : l[q]? = some (.arr j)) (hj : M[j]? = some (.arr e sz m L)) (hf : M[f]? = some (.fam Bs)) (hM' : ((M.set j .gone).set f (.fam (Bs ++ [.arr e sz m L]))).set p (.mix T (l.set q (.farr f Bs.length))) = M') (h : dwp P s0 n c F M' K) : dwp P s0 n c F M K := by
 subst hM'
 exact fun a w hh => h a w (WO hh hM hq hj hf)
end
section
variable {P : Program} {pc : Bool} {o : Oper} {F : Fr} {M : List Blk} {T : TypeId} {x y : Operand} {k : IntKind} {z : Int} {n sz : Nat}
end
end Go.Proofs.YtofklkbfkoliiaaGreat
namespace Go.Proofs.YtofklkbfkoliiaaGreat
set_option linter.unusedVariables false
set_option linter.unusedSimpArgs false
open Go.RowKit
section
variable {P : Program} {s0 : St} {n : Cx}
def DCallsI (P : Program) (f : FuncId) (args : List D) (Min : List Blk) (post : (Nat → Prop) → D → List Blk → Prop) : Prop :=
 yP P f = true ∧ ∀ (s : St) (vs : List Value), Ok s → s.M = Min → Reps s args vs → Calls P f vs.toArray s.w fun e w' =>
  ∃ s', s'.w = w' ∧ Tr s s' ∧ ∃ d v, e = .returned v ∧ Rep s' d v ∧ post s.I d s'.M
def DFunI (P : Program) (f : FuncId) (args : List D) (Min : List Blk) (post : (Nat → Prop) → D → Prop) (Mout : List Blk) : Prop :=
 DCallsI P f args Min fun I d M => post I d ∧ M = Mout
theorem Yx {f : FuncId} {fn : Func} {c : Code} {args : List D} {F0 : Fr} {Min : List Blk} {post : (Nat → Prop) → D → List Blk → Prop} {N : Nat} (m : Nat) (hcb : yP P f = true) (hf : P.funcs[f]? = some fn) (hc : fn.body = some c) (hn : fn.ntmps = N) (hle : Nat.ble args.length N = true) (hF : fr0 0 args = F0) (hm : Min.length = m)
  (h : ∀ s0 : St, s0.M.length ≤ m → dwp P s0 ⟨N, none, m, [], true⟩ c F0 Min (Kret P fn m [] (post s0.I) fun _ _ => False)) : DCallsI P f args Min post := by
 subst hF hm
 refine ⟨hcb, ?_⟩
 intro s vs ho hM hr
 obtain ⟨hl, hr⟩ := hr
 have hle := qaF hle
 have hslot : ∀ t d, lk (fr0 0 args) t = some d → Rep s d (jh { tmps := vs.toArray ++ qa7 (fn.ntmps - vs.toArray.size) undef, defers := [] } t) := by
  intro t d hd
  obtain ⟨_, h2⟩ := uZ args 0 t d hd
  simp only [Nat.sub_zero] at h2
  have hlt : t < args.length := (qas.1 h2).1
  have hv : vs[t]? = some vs[t] := qat (by omega)
  have : jh { tmps := vs.toArray ++ qa7 (fn.ntmps - vs.toArray.size) undef, defers := [] } t = vs[t] := by
   unfold jh
   simp only [Array.getD_eq_getD_getElem?]
   rw [Array.getElem?_append_left (by simp; omega)]
   simp [show t < vs.length by omega]
  rw [this]
  exact hr t d _ h2 hv
 have hs : s.M.length ≤ Min.length := by rw [hM]; exact qaO _
 have hb : uk P s ⟨N, none, Min.length, [], true⟩ fn Min.length (post s.I) (fun _ _ => False) c (fr0 0 args) Min := qC rfl hs (h s hs)
 have hcalls := callsIn_wide.1 (callsIn_of_wp_marks (F := Fence.wide) (n := 0) hf hc trivial (hb _ _ ⟨ho, s, hM, rfl, Tr.refl ho, hslot, by simp; omega, .nil⟩))
 refine Calls.mono hcalls ?_
 rintro e w' ⟨s', h1, h2, (⟨d, v, h3, h4, h5⟩ | ⟨_, _, _, _, h5⟩)⟩
 ·exact ⟨s', h1, h2, d, v, h3, h4, h5⟩
 ·exact h5.elim
theorem DFunI.fun {f : FuncId} {args : List D} {Min Mout : List Blk} {post : (Nat → Prop) → D → Prop} {d0 : D} (h : DFunI P f args Min post Mout) (hd : ∀ I d, post I d → Wk d d0) : DFun P f args Min d0 Mout := by
 refine ⟨h.1, fun s vs ho hM hr => Calls.mono (h.2 s vs ho hM hr) ?_⟩
 rintro e w' ⟨s', h1, h2, d, v, h3, h4, h5, h6⟩
 exact ⟨s', h1, h2, .inl ⟨d0, v, h3, hd _ _ h5 s' v h4, rfl, h6⟩⟩
theorem DFunI.of {f : FuncId} {args : List D} {Min Mout : List Blk} {post post' : (Nat → Prop) → D → Prop} (h : DFunI P f args Min post Mout) (hd : ∀ I d, post I d → post' I d) : DFunI P f args Min post' Mout := by
 refine ⟨h.1, fun s vs ho hM hr => Calls.mono (h.2 s vs ho hM hr) ?_⟩
 rintro e w' ⟨s', h1, h2, d, v, h3, h4, h5, h6⟩
 exact ⟨s', h1, h2, d, v, h3, h4, hd _ _ h5, h6⟩
theorem kendI {fn : Func} {F : Fr} {M Mo : List Blk} {d d' : D} {m : Nat} {post : (Nat → Prop) → D → Prop} {I : Nat → Prop} {pan : D → List Blk → Prop} (σ : List Nat) (hr : ResD P fn F M d) (hσ : okσ m σ = true) (hv : vw σ jH M d = some d') (h : post I d') (hM : MFits σ jH M σ Mo) : DEnd P fn m ((fun I d M => post I d ∧ M = Mo) I) pan [] none F M := .ret hr hσ hv hM ⟨h, rfl⟩
end
section
variable {P : Program} {pc : Bool} {o : Oper} {F : Fr} {M : List Blk}
end
theorem WP {s : St} (ho : Ok s) {j : Nat} {k : Blk} {h : Value} (hM : s.M[j]? = some k) (hl : k.live = true) (hh : s.β[j]? = some h) : Tr s ⟨s.β, fun b => s.I b ∨ jb k h b, s.M.set j .gone, s.w⟩ := by
 have hnd : ∀ (i : Nat) h, s.β[i]? = some h → h ≠ .nilFunc → s.β[i]? = some h := fun _ _ h _ => h
 have old : ∀ (i : Nat) k', (s.M.set j .gone)[i]? = some k' → k'.live = true → i ≠ j ∧ s.M[i]? = some k' := by
  intro i k' h1 h2
  by_cases e : i = j
  ·subst e
   rw [qaI (by have := (qas.1 hM).1; exact this)] at h1
   cases h1; cases h2
  ·rw [qaG (Ne.symm e)] at h1
   exact ⟨e, h1⟩
 have ne : ∀ (i : Nat) k' h' b, i ≠ j → s.M[i]? = some k' → k'.live = true → s.β[i]? = some h' → jb k' h' b → ¬ jb k h b := by
  intro i k' h' b e h1 h2 h3 h4 e2
  exact e (ho.inj i j k' k h' h b h1 h2 h3 h4 hM hl hh e2)
 have lv : ∀ b, Live ⟨s.β, fun b => s.I b ∨ jb k h b, s.M.set j .gone, s.w⟩ b → Live s b ∧ ¬ jb k h b := by
  rintro b ⟨i, k', h', h1, h2, h3, h4⟩
  obtain ⟨e, a⟩ := old i k' h1 h2
  exact ⟨qk a h2 h3 h4, ne i k' h' b e a h2 h3 h4⟩
 refine ⟨⟨by simp [ho.len], fun i k' h' h1 h2 => ?_, fun b hb => ?_, ?_, fun b hI => ?_⟩, jy hnd, fun _ h => .inl h, fun b h => ?_, fun b hb hn => rfl, fun b h => .inr (lv b h).1, rfl, rfl, rfl, qaO _⟩
 ·cases hk : k'.live with
  | false =>
   cases k' with
   | gone => trivial
   | hole =>
    by_cases e : i = j
    ·subst e
     rw [qaI (by have := (qas.1 hM).1; exact this)] at h1
     cases h1
    ·rw [qaG (Ne.symm e)] at h1
     exact ho.blk i _ h' h1 h2
   | _ => cases hk
  | true =>
   obtain ⟨e, a⟩ := old i k' h1 hk
   exact BlkOk.mono (s := s) (s' := ⟨s.β, fun b => s.I b ∨ jb k h b, s.M.set j .gone, s.w⟩) hnd (fun _ h => .inl h) (fun _ _ => rfl) (ho.blk i k' h' a h2) fun b hl' hb' => rfl
 ·obtain ⟨h1, h2⟩ := lv b hb
  exact ⟨(ho.lt b h1).1, fun hI => hI.elim (ho.lt b h1).2 h2⟩
 ·intro i i2 k1 k2 x x2 b a1 a2 a3 a4 c1 c2 c3 c4
  obtain ⟨_, a1⟩ := old i k1 a1 a2
  obtain ⟨_, c1⟩ := old i2 k2 c1 c2
  exact ho.inj i i2 k1 k2 x x2 b a1 a2 a3 a4 c1 c2 c3 c4
 ·rcases hI with hI | hI
  ·exact ho.il b hI
  ·exact (ho.lt b (qk hM hl hh hI)).1
 ·rcases h with h | h
  ·exact .inl h
  ·exact .inr (.inr (qk hM hl hh h))
section
variable {P : Program} {s0 : St} {n : Cx}
theorem Tr.live_new {s s' : St} (ho : Ok s) (t : Tr s s') {b : Nat} (h : Live s' b) : ¬ s.I b := fun hI => (t.lv b h).elim (fun e => absurd (ho.il b hI) (Nat.not_lt.2 e)) fun e => (ho.lt b e).2 hI
theorem XV {F : Fr} {M : List Blk} {a : Act} {w : World} {t j : Nat} {T : TypeId} {L : List Value} (h : Inv s0 n F M a w) (ht : lk F t = some (.loc j 0)) (hj : M[j]? = some (.flat T L)) : ∃ b, ¬ s0.I b ∧ Inv s0 n ((t, .pin b L) :: F) (M.set j .gone) a w := by
 obtain ⟨h0, s, rfl, rfl, h3, h4, h5, h6⟩ := h
 have hjl := (qas.1 hj).1
 obtain ⟨y, hy⟩ : ∃ y, s.β[j]? = some y := ⟨_, qat (by rw [h3.ok.len]; exact hjl)⟩
 obtain ⟨b, rfl, hc⟩ := h3.ok.blk j _ y hj hy
 have tt := WP h3.ok hj rfl hy
 have hlv : Live s b := qk hj rfl hy rfl
 refine ⟨b, h3.live_new h0 hlv, h0, ⟨s.β, fun c => s.I c ∨ jb (.flat T L) (.pointer (some ⟨b, 0, none⟩)) c, s.M.set j .gone, s.w⟩, rfl, rfl, h3.trans tt, fun z d hd => ?_, h5, h6.mono h3.ok tt⟩
 rw [jk] at hd
 split at hd
 ·rename_i e'
  subst e'
  obtain rfl := qay hd
  have hr := h4 t _ ht
  generalize hv : jh a t = v at hr
  cases hr with
  | @loc _ _ b' hβ =>
   rw [hy] at hβ
   cases hβ
   exact .pin (.inr rfl) (by simpa using qd hc 0) hc
 ·exact (h4 z d hd).mono h3.ok tt
theorem XW {c : Code} {F : Fr} {M M' : List Blk} {K : Cont} (t : Nat) {j : Nat} {T : TypeId} {L : List Value} (ht : lk F t = some (.loc j 0)) (hj : M[j]? = some (.flat T L)) (hM' : M.set j .gone = M') (h : ∀ b, ¬ s0.I b → dwp P s0 n c ((t, .pin b L) :: F) M' K) : dwp P s0 n c F M K := by
 subst hM'
 intro a w hi
 obtain ⟨b, hb, hi'⟩ := XV hi ht hj
 exact h b hb a w hi'
end
section
variable {P : Program} {pc : Bool} {o : Oper} {F : Fr} {M : List Blk}
theorem Vg {σ : List Nat} {V : Nat → Bool} {M : List Blk} {T : TypeId} {sz n n' : Nat} {l l' : List D} (hnl : D.nlL l = true) (hn : n = n') (hl : l = l') : (vwL σ V M l).map (Blk.arx T sz n) = some (Blk.arx T sz n' l') := by
 subst hn hl
 rw [wY σ V M l hnl]; rfl
theorem Wk.pin (b : Nat) (L : List Value) : Wk (.pin b L) (.dpf L) := fun s v hr => by cases hr with | pin hI h ho => exact .dpf hI h
theorem Wk.dpm {l l' : List D} (hw : WkL l l') (hn : D.nlL l' = true) : Wk (.dpm l) (.dpm l') := fun s v hr => by
 cases hr with
 | dpm hnl hI hc hl h => exact .dpm hn hI hc (by rw [← hw.1]; exact hl) (hw.rep h)
theorem Wk.slm {sz n : Nat} {l l' : List D} (hw : WkL l l') (hn : D.nlL l' = true) : Wk (.slm sz n l) (.slm sz n l') := fun s v hr => by
 cases hr with
 | slm hnl hl hn' hc ha hv h hm => exact .slm hn (by rw [← hw.1]; exact hl) hn' hc ha (by rw [← hw.1]; exact hv) (hw.rep h) (hm.imp (fun e => by subst e; exact qaW hw.1.symm) id)
end
end Go.Proofs.YtofklkbfkoliiaaGreat
namespace Go.Proofs.YtofklkbfkoliiaaGreat
set_option linter.unusedVariables false
set_option linter.unusedSimpArgs false
open Go.RowKit
theorem xy {Z : Array Value} {z0 : Value} (hZ : ∀ v ∈ Z, v = z0) (h0 : 0 < Z.size) (n : Nat) : (madeCells Z n).toList = qaJ n z0 := by
 rw [List.eq_replicate_iff]
 refine ⟨by rw [Array.length_toList, size_madeCells], fun b hb => ?_⟩
 unfold madeCells at hb
 rw [Array.toList_map, List.mem_map] at hb
 obtain ⟨i, _, rfl⟩ := hb
 have hi : i % Z.size < Z.size := Nat.mod_lt _ h0
 rw [getElem!_pos Z (i % Z.size) hi]
 exact hZ _ (Array.getElem_mem hi)
theorem Yy {P : Program} {pc : Bool} {o : Oper} {F : Fr} {M : List Blk} {T e : TypeId} {x y : Operand} {by' sz : Nat} (j n : Nat) {k k' : IntKind} {z z' : Int} (z0 : Value) {Z : List Value} (ho : o.op = .makeSlice T x y) (hT : slE P T = some (e, sz, by')) (hZ : zrC P e = some Z) (hz0 : Z = qaJ sz z0) (hsz : 0 < sz) (hx : Ev pc F x (.val (.int k z))) (hy : Ev pc F y (.val (.int k' z'))) (hz : pc = true → z = (n : Int)) (hz' : pc = true → z' = (n : Int)) (hj : M[j]? = some .hole) (hb : pc = true → by' * n ≤ 281474976710656 ∧ n ≤ 9223372036854775807) :
  DOp P pc o F M [j] (.arr j) [(j, .arr e sz n (qaJ (n * sz) z0))] := by
 intro hp a s hok hops hfp
 obtain ⟨e1, ti, e2, e3, e4⟩ := kM hT
 obtain ⟨ti', zv, q1, q2, q3⟩ := jE hZ
 rw [e2] at q1
 obtain rfl := qay q1
 have h1 := (qq hp hx (by simp [ho, Op.operands]) hops).val_eq
 have h2 := (qq hp hy (by simp [ho, Op.operands]) hops).val_eq
 rw [hz hp] at h1
 rw [hz' hp] at h2
 obtain ⟨b1, b2⟩ := hb hp
 have hj' : s.M[j]? = some .hole := by rw [hfp j (by simp)]; exact hj
 have hjl : j < s.β.length := by rw [hok.len]; exact (qas.1 hj').1
 have hb3 : (ti.bytes : Int) * (n : Int) ≤ 281474976710656 := by
  have h : ((ti.bytes * n : Nat) : Int) ≤ 281474976710656 := by rw [e4]; omega
  rwa [Int.natCast_mul] at h
 have hrun := run_make (P := P) s.w T e ti zv e1 e2 q2 k k' n n (by omega) (Int.le_refl _) hb3 (by omega)
 simp only [qbe] at hrun
 have hc : ∀ v ∈ zv.cells, v = z0 := fun v hv => by
  have h : v ∈ Z := by rw [← q3]; exact Array.mem_toList_iff.2 hv
  rw [hz0] at h
  exact List.eq_of_mem_replicate h
 have hs0 : 0 < zv.cells.size := by
  have := congrArg List.length q3
  rw [Array.length_toList, hz0, qaS] at this
  omega
 have hrow := World.ownsRow_lit (base := 0) (e := e) (size := ti.size) s.w (madeCells zv.cells (n * ti.size)) n (qa5 _) (by unfold maxLen; omega) (size_madeCells _ _)
 rw [xy hc hs0, e3] at hrow
 rw [e3] at hrun
 refine kV (s' := ⟨s.β.set j (.slice (some ⟨s.w.heap.size, 0, none⟩) n n), s.I, s.M.set j (.arr e sz n (qaJ (n * sz) z0)), _⟩) (v := .slice (some ⟨s.w.heap.size, 0, none⟩) n n) ?_ (gT hok hj' _ _ _ (by simp) (fun b hb => by cases hb; rfl) (fun b h => Below.heap_alloc _ _ _ h) (fun b hb => by cases hb; simp) (by simp) rfl rfl rfl hrow) rfl (.arr (by simp [hjl]))
 unfold execOp
 simp only [ho, h1, h2]
 exact kO hrun
end Go.Proofs.YtofklkbfkoliiaaGreat
namespace Go.Proofs.YtofklkbfkoliiaaGreat
set_option linter.unusedVariables false
set_option linter.unusedSimpArgs false
open Go.RowKit
section
variable {P : Program} {pc : Bool} {o : Oper} {F : Fr} {M : List Blk}
theorem yp {T T' : TypeId} {x y : Operand} {i p k : Nat} {rw' : Bool} {ds l R : List D} (ho : o.op = .store T x y) (hT : tyB P T = some (rw', k)) (hx : Ev pc F x (.loc i p)) (hy : Ev pc F y (.agg ds)) (hM : M[i]? = some (.mix T' l)) (hk : ds.length = k) (hfit : Nat.ble (p + k) l.length = true) (h1 : ds.all D.oc = true) (hR : l.take p ++ ds ++ l.drop (p + k) = R) : DOp P pc o F M [i] .junk [(i, .mix T' R)] := by
 have hfit' := qaF hfit
 subst hR
 intro hp a s hok hops hfp
 have hr := qq hp hx (by simp [ho, Op.operands]) hops
 have hry := qq hp hy (by simp [ho, Op.operands]) hops
 have hM' : s.M[i]? = some (.mix T' l) := by rw [hfp i (by simp)]; exact hM
 generalize hv : a.eval x = vx at hr
 generalize hvy : a.eval y = vy at hry
 cases hr with
 | @loc _ _ b h =>
  cases hry with
  | @agg _ vs hvl hd =>
   obtain ⟨b', L, e1, e2, e3, e4⟩ := hok.blk i _ _ hM' h
   cases e1
   have hcell := qd e2 0
   have hoc : ∀ u ∈ vs, u.oneCell' = true := fun u hu => by
    obtain ⟨j, hj, rfl⟩ := List.getElem_of_mem hu
    have hj2 : j < ds.length := by omega
    exact Yq (hd j _ _ (qat hj2) (qat hj)) (qaV.1 h1 _ (qbf hj2))
   have hrun := gv (P := P) (w := s.w) (C := vs) ho hT hv hvy rfl (by omega) (fun j hj => by
     have hp' : p + j < L.length := by omega
     have := hcell (p + j) L[p + j] (by simp [hp'])
     rw [qau] at this
     rw [this]; rfl) (fun j hj => by simp [World.frozen?, e2]) hoc
   have hβ : s.β.set i (.pointer (some ⟨b, 0, none⟩)) = s.β := by
    apply qbi
    intro k
    by_cases e : i = k
    ·subst e; rw [qaI (qas.1 h).1, h]
    ·rw [qaG e]
   refine yR (s' := ⟨s.β.set i (.pointer (some ⟨b, 0, none⟩)), s.I, s.M.set i (.mix T' (l.take p ++ ds ++ l.drop (p + k))), s.w.setCells b p vs⟩) hrun (yb hok hM' rfl h rfl p _ ?_) rfl
   have hlen : (l.take p ++ ds ++ l.drop (p + k)).length = l.length := by
    simp only [qaD, qaT, qaZ]
    omega
   refine ⟨b, jC L p vs, rfl, kI b vs p s.w L T' e2, by rw [jD, hlen, e3], fun j e v hj hv' => ?_⟩
   have lift : ∀ {e : D} {v : Value}, Rep s e v → Rep ⟨s.β.set i (.pointer (some ⟨b, 0, none⟩)), s.I, s.M.set i (.mix T' (l.take p ++ ds ++ l.drop (p + k))), s.w.setCells b p vs⟩ e v := by
    intro e v hr
    refine Rep.mono' (s := s) (s' := ⟨s.β.set i (.pointer (some ⟨b, 0, none⟩)), s.I, s.M.set i (.mix T' (l.take p ++ ds ++ l.drop (p + k))), s.w.setCells b p vs⟩) (fun k x hk _ => by show (s.β.set i _)[k]? = _; rw [hβ]; exact hk) (fun _ h => h) (fun b' hI => kJ b _ p s.w b' fun e => ?_) hr
    subst e
    exact (hok.lt b' (qk hM' rfl h rfl)).2 hI
   rw [jx vs L p (by omega)] at hv'
   by_cases h1 : j < p
   ·rw [qa1, qaN (by simp; omega), List.getElem?_take_of_lt h1] at hj hv'
    exact lift (e4 j e v hj hv')
   ·rw [qa1, qaP (by simp; omega)] at hj hv'
    rw [qaT, Nat.min_eq_left (by omega)] at hj hv'
    by_cases h2 : j - p < k
    ·rw [qaN (by omega)] at hj hv'
     exact lift (hd _ e v hj hv')
    ·rw [qaP (by omega), qba] at hj hv'
     rw [hvl, hk] at hv'
     rw [hk, show p + k + (j - p - k) = j by omega] at hj
     rw [show p + k + (j - p - k) = j by omega] at hv'
     exact lift (e4 j e v hj hv')
end
end Go.Proofs.YtofklkbfkoliiaaGreat
namespace Go.Proofs.YtofklkbfkoliiaaGreat
set_option linter.unusedVariables false
set_option linter.unusedSimpArgs false
open Go.RowKit
theorem Ji {e : TypeId} {sz : Nat} : ∀ s h, BlkOk s h (.arx e sz 0 []) → BlkOk s h (.arr e sz 0 []) := fun s h hk => by
 obtain ⟨vs, h1, h2, _⟩ := hk
 obtain rfl : vs = [] := qaW (by simpa using h2)
 exact h1
theorem Yz {T : TypeId} {l l' : List D} (h : WkL l l') : ∀ s hd, BlkOk s hd (.mix T l) → BlkOk s hd (.mix T l') := fun s hd hk => by
 obtain ⟨b, vs, e1, e2, e3, e4⟩ := hk
 exact ⟨b, vs, e1, e2, by rw [e3, h.1], h.rep e4⟩
theorem WkL.app {a b c d : List D} (h : WkL a b) (k : WkL c d) : WkL (a ++ c) (b ++ d) := by
 refine ⟨by rw [qaD, qaD, h.1, k.1], fun j x y h1 h2 => ?_⟩
 by_cases hj : j < a.length
 ·rw [qaN hj] at h1
  rw [qaN (by rw [← h.1]; exact hj)] at h2
  exact h.2 j x y h1 h2
 ·rw [qaP (by omega)] at h1
  rw [qaP (by rw [← h.1]; omega), ← h.1] at h2
  exact k.2 _ x y h1 h2
section
variable {P : Program} {s0 : St} {n : Cx}
theorem YA {F : Fr} {M : List Blk} {a : Act} {w : World} {T e : TypeId} {p q i sz m : Nat} {l : List D} {L : List Value} (h : Inv s0 n F M a w) (hM : M[p]? = some (.mix T l)) (hq : l[q]? = some (.arr i)) (hi : M[i]? = some (.arr e sz m L)) : Inv s0 n F ((M.set i .gone).set p (.mix T (l.set q (.slf sz m L)))) a w := by
 obtain ⟨h0, s, rfl, rfl, h3, h4, h5, h6⟩ := h
 have hpl : p < s.M.length := (qas.1 hM).1
 have hil : i < s.M.length := (qas.1 hi).1
 have hpi : p ≠ i := fun e => by subst e; rw [hM] at hi; cases hi
 have hpl' : p < s.β.length := by rw [h3.ok.len]; exact hpl
 have hil' : i < s.β.length := by rw [h3.ok.len]; exact hil
 have hβi : s.β[i]? = some s.β[i] := qat (by rw [h3.ok.len]; exact hil)
 have hβp : s.β[p]? = some s.β[p] := qat (by rw [h3.ok.len]; exact hpl)
 obtain ⟨b, vs, e1, e2, e3, e4⟩ := h3.ok.blk p _ _ hM hβp
 have hql : q < l.length := (qas.1 hq).1
 have hcell : vs[q]? = some s.β[i] := by
  have hv : vs[q]? = some vs[q] := qat (by omega)
  have := e4 q _ _ hq hv
  rw [hv]
  generalize vs[q] = x at this
  cases this with
  | arr h => exact h.symm.trans hβi
 obtain ⟨I', tt, hrep⟩ := Gh h3.ok hi (e4 q _ _ hq hcell)
 have hM2 : (s.M.set i .gone)[p]? = some (.mix T l) := by rw [qaG (Ne.symm hpi)]; exact hM
 have hset : s.β.set p s.β[p] = s.β := List.set_getElem_self ..
 have t2 : Tr ⟨s.β, I', s.M.set i .gone, s.w⟩ ⟨s.β, I', (s.M.set i .gone).set p (.mix T (l.set q (.slf sz m L))), s.w⟩ := by
  have hst := kR tt.ok p (s.M.set i .gone) s.β[p] (.mix T (l.set q (.slf sz m L))) s.w rfl (fun i k h => .inl h) (by simpa using hpl) (.inr (.inl hβp)) (by rw [e1]; simp) ?_ (fun b' hb' j kj hj hne h1 h2 h3' h4' => ?_) (fun b' hb' => .inr (qk hM2 rfl hβp hb')) (fun b' hb' => (tt.ok.lt b' (qk hM2 rfl hβp hb')).1) (fun _ => False) (fun _ h => h.elim) (fun b' hlt hne _ => rfl) rfl rfl rfl (qaO _)
  ·have hst' := hst
   simp only [hset] at hst'
   exact hst'
  ·refine ⟨b, vs, e1, e2, by simp [e3], fun j d v g1 g2 => ?_⟩
   have lift : ∀ {d v}, Rep s d v → Rep ⟨s.β.set p s.β[p], I', (s.M.set i .gone).set p (.mix T (l.set q (.slf sz m L))), s.w⟩ d v := fun hr => by
    rw [hset]
    exact Rep.mono' (s := ⟨s.β, I', s.M.set i .gone, s.w⟩) (s' := ⟨s.β, I', (s.M.set i .gone).set p (.mix T (l.set q (.slf sz m L))), s.w⟩) (fun _ _ h _ => h) (fun _ h => h) (fun _ _ => rfl) (hr.mono h3.ok tt)
   by_cases e : q = j
   ·subst e
    rw [qaI hql] at g1
    cases g1
    rw [hcell] at g2
    cases g2
    rw [hset]
    exact Rep.mono' (s := ⟨s.β, I', s.M.set i .gone, s.w⟩) (s' := ⟨s.β, I', (s.M.set i .gone).set p (.mix T (l.set q (.slf sz m L))), s.w⟩) (fun _ _ h _ => h) (fun _ h => h) (fun _ _ => rfl) hrep
   ·rw [qaG e] at g1
    exact lift (e4 j d v g1 g2)
  ·exact hne (tt.ok.inj j p kj _ hj _ b' h1 h2 h3' h4' hM2 rfl hβp hb')
 exact ⟨h0, ⟨s.β, I', (s.M.set i .gone).set p (.mix T (l.set q (.slf sz m L))), s.w⟩, rfl, rfl, (h3.trans tt).trans t2, fun x d hd => ((h4 x d hd).mono h3.ok tt).mono tt.ok t2, h5, (h6.mono h3.ok tt).mono tt.ok t2⟩
theorem YB {c : Code} {F : Fr} {M M' : List Blk} {K : Cont} (p q : Nat) {T e : TypeId} {i sz m : Nat} {l : List D} {L : List Value} (hM : M[p]? = some (.mix T l)) (hq : l[q]? = some (.arr i)) (hi : M[i]? = some (.arr e sz m L)) (hM' : (M.set i .gone).set p (.mix T (l.set q (.slf sz m L))) = M') (h : dwp P s0 n c F M' K) : dwp P s0 n c F M K := by
 subst hM'
 exact fun a w hj => h a w (YA hj hM hq hi)
end
theorem Qr {s : St} (h : Ok s) : Tr s ⟨s.β, s.I, s.M.map fun _ => Blk.gone, s.w⟩ := by
 have hg : ∀ (i : Nat) k, (s.M.map fun _ => Blk.gone)[i]? = some k → k = .gone := fun i k hk => by
  rw [qbb] at hk
  cases hm : s.M[i]? with
  | none => rw [hm] at hk; cases hk
  | some x => rw [hm] at hk; exact (qay hk).symm
 have nl : ∀ b, ¬ Live ⟨s.β, s.I, s.M.map fun _ => Blk.gone, s.w⟩ b := by
  rintro b ⟨i, k, hd, h1, h2, h3, h4⟩
  rw [hg i k h1] at h2
  cases h2
 refine ⟨⟨by simp [h.len], fun i k hd h1 h2 => ?_, fun b hb => (nl b hb).elim, fun i j k k' hd hd' b a1 a2 _ _ _ _ _ _ => ?_, h.il⟩, hkeep.refl _, fun _ h => h, fun _ h => .inl h, fun _ _ _ => rfl, fun b hb => (nl b hb).elim, rfl, rfl, rfl, qaO _⟩
 ·rw [hg i k h1]
  trivial
 ·rw [hg i k a1] at a2
  cases a2
abbrev DPanL (P : Program) (f : FuncId) (args : List D) (Min : List Blk) (d : D) : Prop :=
 DCalls P f args Min (fun _ _ => False) (fun d' M' => d' = d ∧ M'.length = Min.length)
theorem DPanL.dead {P : Program} {f : FuncId} {args : List D} {Min : List Blk} {d : D} (h : DPanL P f args Min d) : DPan P f args Min d (Min.map fun _ => Blk.gone) := by
 refine ⟨h.1, fun s vs hok hM hr => (h.2 s vs hok hM hr).mono ?_⟩
 rintro e w' ⟨s', rfl, ht, hor⟩
 rcases hor with ⟨d0, v, _, _, hf⟩ | ⟨d0, v, rfl, hrep, rfl, hMo⟩
 ·exact hf.elim
 ·refine ⟨⟨s'.β, s'.I, s'.M.map fun _ => Blk.gone, s'.w⟩, rfl, ht.trans (Qr ht.ok), .inr ⟨d0, v, rfl, Rep.mono' (s := s') (s' := ⟨s'.β, s'.I, s'.M.map fun _ => Blk.gone, s'.w⟩) (fun _ _ h _ => h) (fun _ h => h) (fun _ _ => rfl) hrep, rfl, ?_⟩⟩
  show (s'.M.map fun _ => Blk.gone) = Min.map fun _ => Blk.gone
  rw [List.map_const', List.map_const', hMo]
theorem vf {P : Program} {fn : Func} {F : Fr} {M : List Blk} {d d' dr : D} {m k : Nat} {Mo : List Blk} {post : D → List Blk → Prop} (σ : List Nat) (hσ : okσ m σ = true) (hv : vw σ jH M d = some d') (h : d' = dr) (hM : MFits σ jH M σ Mo) (hl : Mo.length = k) : DEnd P fn m post (fun d M => d = dr ∧ M.length = k) [] (some d) F M := .pan hσ hv hM ⟨h, hl⟩
end Go.Proofs.YtofklkbfkoliiaaGreat
namespace Go.Proofs.YtofklkbfkoliiaaGreat
set_option linter.unusedVariables false
set_option linter.unusedSimpArgs false
open Go.RowKit
section
variable {P : Program} {pc : Bool} {o : Oper} {F : Fr} {M : List Blk}
theorem wZ {α : Type} {en : α → List Value} {sz : Nat} (hen : ∀ a, (en a).length = sz) : ∀ (r : List α) (m : Nat), (r.take m).flatMap en = (r.flatMap en).take (m * sz)
 | r, 0 => by simp
 | [], m + 1 => by simp
 | x :: r, m + 1 => by
  have e : (en x).take (sz + m * sz) = en x := qaX (by rw [hen]; omega)
  rw [List.take_succ_cons, qaL, qaL, wZ hen r m, Nat.add_mul, Nat.one_mul, Nat.add_comm, List.take_append, e, hen, Nat.add_sub_cancel_left]
theorem yq {α : Type} {en : α → List Value} {r : List α} {T e : TypeId} {sz by' : Nat} {x lo hi mx : Operand} {k k' k'' : IntKind} {h h' h'' : Int} {i j : Nat} (ho : o.op = .slice T x (some lo) (some hi) (some mx)) (hT : slE P T = some (e, sz, by')) (hx : Ev pc F x (.slf sz r.length (r.flatMap en))) (hlo : Ev pc F lo (.val (.int k'' h''))) (hhi : Ev pc F hi (.val (.int k h))) (hmx : Ev pc F mx (.val (.int k' h')))
  (hl : pc = true → h'' = (i : Int)) (hh : pc = true → h = (j : Int)) (hm : pc = true → h' = (j : Int)) (hi : pc = true → i ≤ j ∧ j ≤ r.length) (hen : ∀ a, (en a).length = sz) : DOp P pc o F M [] (.slf sz ((r.drop i).take (j - i)).length (((r.drop i).take (j - i)).flatMap en)) [] := by
 intro hp a s hok hops _
 have hr := qq hp hx (by simp [ho, Op.operands]) hops
 have e0 := (qq hp hlo (by simp [ho, Op.operands]) hops).val_eq
 have e1 := (qq hp hhi (by simp [ho, Op.operands]) hops).val_eq
 have e2 := (qq hp hmx (by simp [ho, Op.operands]) hops).val_eq
 rw [hl hp] at e0
 rw [hh hp] at e1
 rw [hm hp] at e2
 obtain ⟨hij, hjr⟩ := hi hp
 obtain ⟨q1, ti, q2, q3, q4⟩ := kM hT
 have hlen : ((r.drop i).take (j - i)).length = j - i := by rw [qaT, qaZ]; omega
 generalize hv : a.eval x = vx at hr
 cases hr with
 | @slf _ _ cap ad _ hl hn hc ha hL =>
  have hjc : j ≤ cap := by omega
  have hic : i ≤ cap := by omega
  have hrun : (execOp a.eval o).run P s.w = .ok (.value (.slice (if j - i = 0 then ad else ad.map (·.add (i * sz))) (j - i) (j - i))) s.w := by
   unfold execOp
   simp only [ho, hv, Option.map_some, e0, e1, e2]
   refine kO ?_
   simp [Instr.sliceAt, Instr.slice, run_underlying q1, Sem.run_bind, Instr.sliceBounds, Instr.sliceBound, asIntOf, hjc, hij, hic, sizeOf, typeInfo, q2, q3]
   congr 1
   exact propext ⟨fun h => by omega, fun h => by omega⟩
  refine qN hok hrun ?_
  rw [hlen]
  refine .slf (by rw [jM hen, hlen]) (qaO _) (by omega) (fun e => ?_) ?_
  ·split at e
   ·assumption
   ·rw [Option.map_eq_none_iff] at e
    have := ha e; omega
  ·rcases hL with hL | ⟨b, q, e, hI, hcl⟩
   ·left
    rw [wZ hen, wW hen, hL]; simp
   ·by_cases hz : j - i = 0
    ·left
     rw [qaW (hlen.trans hz)]; rfl
    ·right
     refine ⟨b, q + i * sz, by rw [if_neg hz, e, Option.map_some, Addr.add_mid], hI, ?_⟩
     rw [wZ hen, wW hen]
     exact qK hcl (i * sz) ((j - i) * sz)
end
end Go.Proofs.YtofklkbfkoliiaaGreat
namespace Go.Proofs.YtofklkbfkoliiaaGreat
set_option linter.unusedVariables false
set_option linter.unusedSimpArgs false
open Go.RowKit
section
variable {P : Program}
theorem xd {F : Fence} {k : Nat} {P : Program} {l : Nat} {f : FuncId} {fn : Func} {tmps : Array Value} {assign body : Code} {w : World} {R : Ending → World → Prop} (hF : F.fn f) (hf : P.funcs[f]? = some fn)
  (h : assign.wpIn (F.inRound l) k P (Exit.then (fun a₁ w₁ => ∃ w₂, (Instr.beginRound l).run P w₁ = .ok () w₂ ∧ body.wpIn (F.inRound l) k P (fun e a w => ∃ ch, e = .panic ch ∧ a.defers = [] ∧ R (.panicked ch) w) a₁ w₂) (fun _ _ _ => False))
   { tmps := tmps, defers := [] } w) :
  RoundIn F k P l f tmps assign body w R := by
 refine ⟨hF, fun c cs hr => ?_⟩
 let b : Frame := { (default : Frame) with fn := f, kind := .normal, roundOf := some l }
 have hb0 : Frame.round l f tmps assign body .normal = b.atR { tmps := tmps, defers := [] } [.code assign, .beginRound, .code body] := by
  simp [Frame.round, Frame.atR, b]
 have hr' : (F.inRound l).room ((c :: cs).length + 1 + k) := hr
 have hF' : (F.inRound l).fn b.fn := hF
 obtain ⟨e, a₁, w₁, hq, harr⟩ := h b [.beginRound, .code body] (c :: cs) rfl hF' hr'
 rw [← hb0] at harr
 cases e with
 | normal =>
  obtain ⟨w₂, hbr, hbody⟩ := hq
  have s1 : StepsIn (Machine.fenced P (F.inRound l)) P (lone (b.atR a₁ [.beginRound, .code body]) (c :: cs) w₁) (lone (b.atR a₁ [.code body]) (c :: cs) w₂) :=
   .one (fenced_calm (fr := b.atR a₁ [.beginRound, .code body]) hF' hr' rfl) (stepR_beginRound rfl hbr)
  obtain ⟨e₂, a₂, w₃, ⟨ch, rfl, hd, hR⟩, harr₂⟩ := hbody b [] (c :: cs) rfl hF' hr'
  obtain ⟨todo, hs⟩ := harr₂
  exact ⟨.panicked ch, w₃, hR, (StepsIn.trans harr s1).trans (StepsIn.trans hs (.one (fenced_calm hF' hr' (by simp [Frame.about, Frame.atR, hd])) (step_leave_panicked ⟨rfl, hd, fn, hf⟩)))⟩
 | exit id => exact hq.elim
 | goto t => exact hq.elim
 | ret => exact hq.elim
 | panic chain => exact hq.elim
 | outgrown => exact hq.elim
theorem Gj {s0 s : St} {ds : List Deferred} (h : DfOk s0 s false [] ds) : ds = [] := by
 cases h with
 | nil => rfl
 | mark hmk => cases hmk
def DRoundP (P : Program) (i : Nat) (args : List D) (Min : List Blk) (d : D) (Mout : List Blk) : Prop :=
 ∀ (s : St) (vs : List Value) (l : Nat), Ok s → s.M = Min → s.β[i]? = some (.pointer (some ⟨l, 0, none⟩)) → Reps s args vs →
  ∃ f tmps asg body, (Instr.yield l vs.toArray).run P s.w = .ok (.round l f tmps asg body) s.w ∧
   RoundIn Fence.wide 0 P l f tmps asg body s.w fun e w' => ∃ s' v, e = .panicked [{ v := v, recovered := false }] ∧ s'.w = w' ∧ Tr s s' ∧ s'.M = Mout ∧ Rep s' d v
def KrndP (m : Nat) (d : D) : Cont
 | .panic d0, _, M => ∃ σ Mo, okσ m σ = true ∧ vw σ jH M d0 = some d ∧ MFits σ jH M σ Mo ∧ Mo.length = m
 | _, _, _ => False
theorem YC {d : D} {fk : FuncId} {gk : Func} {i N : Nat} {F F1 : Fr} {ps : Array Tmp} {asg body : Code} {args : List D} {Min : List Blk} (m : Nat) (hfn : P.funcs[fk]? = some gk) (hMi : Min[i]? = some (.lp (some fk) N F ps asg body .ready none)) (hps : ps.size = args.length) (hpN : ps.all (fun p => qbl p N) = true) (hF : Q4 ps.toList args F = F1) (hm : Min.length = m)
  (h : ∀ s0 : St, s0.M.length ≤ m → dwp P s0 ⟨N, some i, m, [], false⟩ asg F1 Min (Kseq (fun F2 M2 => M2[i]? = some (.lp (some fk) N F ps asg body .ready none) ∧ dwp P s0 ⟨N, some i, m, [], false⟩ body F2 (M2.set i (.lp (some fk) N F ps asg body .busy none)) (KrndP m d)) (fun _ _ _ => False))) :
  DRoundP P i args Min d (Min.map fun _ => Blk.gone) := by
 subst hm hF
 intro s vs l hok hM hβ hr
 subst hM
 obtain ⟨l', fn, tmps, Df, e1, e2, e3, e4⟩ := hok.blk i _ _ hMi hβ
 cases e1
 replace e2 : s.w.heap[l]? = some (gX fk tmps Df ps asg body .ready none) := e2
 have hrun := run_yield (P := P) (args := vs.toArray) e2 (by simp [hr.1, hps])
 refine ⟨fk, _, asg, body, hrun, xd trivial hfn ?_⟩
 have hρ : (Cx.mk N (some i) s.M.length [] false).ρ s = some l := by simp [Cx.ρ, hβ]
 have hs := h s (qaO _)
 have hset := K8 (s := s) ps.toList args vs F { tmps, defers := [] } hr (by simpa using hps) (fun p hp => by
  have := Array.all_eq_true_iff_forall_mem.1 hpN p (by simpa using hp)
  rw [e3]; exact Nat.blt_eq.mp this) e4
 have hz : (ps.zip vs.toArray).foldl (fun t (p, v) => t.setIfInBounds p v) tmps = (ps.toList.zip vs).foldl (fun t (p, v) => t.setIfInBounds p v) tmps := by
  rw [← Array.foldl_toList]; simp
 rw [hz]
 have hinv : Inv s ⟨N, some i, s.M.length, [], false⟩ (Q4 ps.toList args F) s.M { tmps := (ps.toList.zip vs).foldl (fun t (p, v) => t.setIfInBounds p v) tmps, defers := [] } s.w :=
  ⟨hok, s, rfl, rfl, Tr.refl hok, hset.1, hset.2.trans e3, .nil⟩
 have h1 := hs _ _ hinv
 rw [hρ] at h1
 refine wpIn_mono h1 ?_
 intro e a w hp
 cases e with
 | normal =>
  obtain ⟨F2, M2, ⟨h0, s1, q1, q2, q3, q4, q5, q6⟩, hM2, hbody⟩ := hp
  subst q2
  have hβ1 := q3.hnd.1 i _ hβ (by simp) (by simp)
  have hM1 : s1.M[i]? = some (.lp (some fk) N F ps asg body .ready none) := by rw [q1]; exact hM2
  obtain ⟨l1, fn1, tmps1, Df1, g1, g2, g3, g4⟩ := q3.ok.blk i _ _ hM1 hβ1
  cases g1
  have ht := K7 q3.ok .busy none hM1 hβ1 g2 g3 g4
  refine ⟨_, run_beginRound g2 rfl, ?_⟩
  have hb := hbody a _ ⟨h0, ⟨s1.β, s1.I, s1.M.set i (.lp (some fk) N F ps asg body .busy none), s1.w.putObj l (gX ((some fk).getD fn1) tmps1 Df1 ps asg body .busy none)⟩, by rw [q1], rfl, q3.trans ht, q4.mono q3.ok ht, q5, q6.mono q3.ok ht⟩
  rw [hρ] at hb
  refine wpIn_mono hb ?_
  intro e a w hp
  cases e with
  | normal => obtain ⟨_, _, _, hk⟩ := hp; exact hk.elim
  | ret => obtain ⟨_, _, _, hk⟩ := hp; exact hk.elim
  | exit id => obtain ⟨_, _, _, hk⟩ := hp; exact hk.elim
  | goto id => obtain ⟨_, _, _, hk⟩ := hp; exact hk.elim
  | panic ch =>
   obtain ⟨F3, M3, d3, ⟨h03, s3, v3, r0, r1, r2, r3, r4, r5, r6⟩, σ, Mo, hσ, hv, hMo, hlo⟩ := hp
   subst r0 r1
   obtain ⟨rfl, r7⟩ := r6
   have tv := vl hok r2 (jw σ Mo hMo) (qaO _) hσ
   have hr := jT (M' := Mo) r2.ok r7 d hv
   refine ⟨_, rfl, Gj r5, ⟨(vst s3 σ jH Mo).β, (vst s3 σ jH Mo).I, (vst s3 σ jH Mo).M.map fun _ => Blk.gone, (vst s3 σ jH Mo).w⟩, v3, rfl, rfl, tv.trans (Qr tv.ok), ?_, Rep.mono' (s := vst s3 σ jH Mo) (s' := ⟨(vst s3 σ jH Mo).β, (vst s3 σ jH Mo).I, (vst s3 σ jH Mo).M.map fun _ => Blk.gone, (vst s3 σ jH Mo).w⟩) (fun _ _ h _ => h) (fun _ h => h) (fun _ _ => rfl) hr⟩
   show (Mo.map fun _ => Blk.gone) = s.M.map fun _ => Blk.gone
   rw [List.map_const', List.map_const', hlo]
  | outgrown => exact hp.elim
 | ret => obtain ⟨_, _, _, hk⟩ := hp; exact hk
 | exit id => obtain ⟨_, _, _, hk⟩ := hp; exact hk
 | goto id => obtain ⟨_, _, _, hk⟩ := hp; exact hk
 | panic ch => obtain ⟨_, _, _, _, hk⟩ := hp; exact hk
 | outgrown => exact hp
theorem op_yP {pc : Bool} {o : Oper} {F : Fr} {M Min Mout : List Blk} {x : Operand} {asx : List Operand} {tys : Array TypeId} {ds cargs : List D} {i j : Nat} {d0 d : D} {wr : List (Nat × Blk)} (σ V ν : List Nat)
  (ho : o.op = .call { callee := .value x, args := asx.toArray, argTypes := tys }) (hx : Ev pc F x (.yld j)) (hds : EvL pc F asx ds) (hij : σ[i]? = some j)
  (hc : vwL σ (fun i => V.contains i) M ds = some cargs) (hMin : j5 σ (fun i => V.contains i) M σ = some Min) (hy : DRoundP P i cargs Min d0 Mout)
  (hlive : Min.all (·.live) = true) (hn : decide (σ ++ ν).Nodup = true) (hν : ν.all (fun i => match M[i]? with | some .hole => true | _ => false) = true)
  (hwr : yg (σ ++ ν) (σ ++ ν) Mout = some wr) (hd : sb (σ ++ ν) d0 = some d) (hfl : (V.isEmpty || (d0.fl && Mout.all (·.fl))) = true) : DOpP P pc o F M (σ ++ V ++ ν) d wr := by
 intro hp a s hok hops hfp
 have hVM : ∀ i, V.contains i = true → M[i]? = s.M[i]? := fun i hi => (hfp i (by simp at hi; simp [hi])).symm
 rw [j6 hVM] at hc
 rw [vp hVM σ (fun i hi => (hfp i (by simp [hi])).symm)] at hMin
 have hopx : x ∈ o.op.operands ∧ ∀ y ∈ asx, y ∈ o.op.operands := by rw [ho]; simp [Op.operands, Call.operands]; intro y hy; exact .inr hy
 obtain ⟨dx, ex1, ex2⟩ := hx
 have hrx := ex2 s _ hp (hops x hopx.1 dx ex1)
 generalize hvx : a.eval x = vx at hrx
 cases hrx with
 | @yld _ l hβ =>
  have hn' : (σ ++ ν).Nodup := of_decide_eq_true hn
  have hreps := gh (a := a) (s := s) hp asx ds hds (fun y hy => hops y (hopx.2 y hy))
  have hreps' := K6 (Min := Min) hok hreps hc
  obtain ⟨f, tmps, asg, body, e1, e2⟩ := hy (vst s σ (fun i => V.contains i) Min) (asx.map a.eval) l (vk hok hMin (List.nodup_append.1 hn').1) rfl (k6 hij hβ) hreps'
  rw [Km ho hvx]
  have e1' : Sem.run P (Instr.yield l (asx.map a.eval).toArray) s.w = .ok (.round l f tmps asg body) s.w := e1
  rw [e1']
  refine ⟨rfl, RoundIn.mono e2 ?_⟩
  rintro e w'' ⟨s2, v, rfl, rfl, ht2, hM2, hrd⟩
  have hν' : ∀ i ∈ ν, s.M[i]? = some .hole := fun i hi => by
   have h1 := qaV.1 hν i hi
   rw [hfp i (by simp [hi])]
   split at h1
   ·rename_i h2; exact h2
   ·cases h1
  obtain ⟨q1, q2⟩ := gr (M3 := upd s.M wr) hok hMin hlive hn' hν' ht2 hM2 hwr rfl (fun h => (flV hfl h).2)
  exact ⟨back s s2 σ (fun i => V.contains i) ν (upd s.M wr), v, rfl, rfl, q1, rfl, q2 d0 v d hrd (fun h => (flV hfl h).1) hd⟩
section
variable {s0 : St} {n : Cx} {ops : Array Oper}
def uG (P : Program) (f : FuncId) (s0 : St) (n : Cx) (c : Code) (F : Fr) (M : List Blk) (K : Cont) : Prop :=
 ∀ a w, Inv s0 n F M a w → ∀ (b : Frame) (k : List Item) (cs : List Frame), b.roundOf = (wd (n.ρ s0)).round → b.fn = f →
  ∃ e a' w', PostK s0 n K e a' w' ∧ ArrivesIn (Machine.fenced P (wd (n.ρ s0))) P (lone (b.atR a (.code c :: k)) cs w) b k cs e a' w'
theorem gH {f : FuncId} {c : Code} {F : Fr} {M : List Blk} {K : Cont} (h : dwp P s0 n c F M K) : uG P f s0 n c F M K :=
 fun a w hi b k cs hro _ => h a w hi b k cs hro trivial (gY _ _)
theorem jN {f : FuncId} {x y : Code} {F : Fr} {M : List Blk} {K : Cont} (h : uG P f s0 n x F M (Kseq (fun F M => uG P f s0 n y F M K) K)) : uG P f s0 n (.seq x y) F M K := by
 intro a w hi b k cs hro hb
 have h0 : (lone (b.atR a (.code (.seq x y) :: k)) cs w).fenced P (wd (n.ρ s0)) := jj
 obtain ⟨e, a₁, w₁, hq, harr⟩ := h a w hi b (.code y :: k) cs hro hb
 cases e with
 | normal =>
  obtain ⟨F', M', hi', hk⟩ := hq
  obtain ⟨e₂, a₂, w₂, hq₂, harr₂⟩ := hk a₁ w₁ hi' b k cs hro hb
  exact ⟨e₂, a₂, w₂, hq₂, .of_steps (.head h0 stepR_seq harr) harr₂⟩
 | exit id => exact ⟨.exit id, a₁, w₁, hq, .of_steps (.one h0 stepR_seq) (.pass (x := .code y) rfl (fun _ _ => .inl (by simp)) harr)⟩
 | goto l => exact ⟨.goto l, a₁, w₁, hq, .of_steps (.one h0 stepR_seq) (.pass (x := .code y) rfl (fun _ _ => .inl (by simp)) harr)⟩
 | ret => exact ⟨.ret, a₁, w₁, hq, .of_steps (.one h0 stepR_seq) (.pass (x := .code y) rfl (fun _ _ => .inl (by simp)) harr)⟩
 | panic ch => exact ⟨.panic ch, a₁, w₁, hq, .of_steps (.one h0 stepR_seq) (.pass (x := .code y) rfl (fun _ _ => .inl (by simp)) harr)⟩
 | outgrown => exact hq.elim
theorem zt {f : FuncId} {id : Nat} {c : Code} {F : Fr} {M : List Blk} {K : Cont} (h : uG P f s0 n c F M (Kblk id K)) : uG P f s0 n (.block id c) F M K := by
 intro a w hi b k cs hro hb
 have h0 : (lone (b.atR a (.code (.block id c) :: k)) cs w).fenced P (wd (n.ρ s0)) := jj
 obtain ⟨e, a₁, w₁, hq, harr⟩ := h a w hi b (.inBlock id :: k) cs hro hb
 cases e with
 | normal => exact ⟨.normal, a₁, w₁, hq, .head h0 stepR_block (StepsIn.trans harr (.one jj stepR_inBlock))⟩
 | exit id' =>
  by_cases hid : id' = id
  ·obtain ⟨F', M', h1, h2⟩ := hq
   simp only [Kblk, hid, if_true] at h2
   exact ⟨.normal, a₁, w₁, ⟨F', M', h1, h2⟩, .head h0 stepR_block (harr.1 k (by simp [exitTo, hid]))⟩
  ·obtain ⟨F', M', h1, h2⟩ := hq
   simp only [Kblk, hid, if_false] at h2
   have this : (id == id') = false := by simp; exact fun h => hid h.symm
   have hx : exitTo id' (.inBlock id :: k) = exitTo id' k := by simp [exitTo, this]
   exact ⟨.exit id', a₁, w₁, ⟨F', M', h1, h2⟩, fun k' hk => .head h0 stepR_block (harr.1 k' (by rw [hx]; exact hk)),
    fun hr' hk => let ⟨k₁, h1, h2⟩ := harr.2 hr' (by rw [hx]; exact hk); ⟨k₁, h1, .head h0 stepR_block h2⟩⟩
 | goto l =>
  have hx : gotoIn l (.inBlock id :: k) = gotoIn l k := by simp [gotoIn]
  exact ⟨.goto l, a₁, w₁, hq, fun k' hk => .head h0 stepR_block (harr.1 k' (by rw [hx]; exact hk)),
   fun hr' hk => let ⟨k₁, h1, h2⟩ := harr.2 hr' (by rw [hx]; exact hk); ⟨k₁, h1, .head h0 stepR_block h2⟩⟩
 | ret => exact ⟨.ret, a₁, w₁, hq, .of_steps (.one h0 stepR_block) harr⟩
 | panic ch => exact ⟨.panic ch, a₁, w₁, hq, .of_steps (.one h0 stepR_block) harr⟩
 | outgrown => exact hq.elim
theorem Qs {fk : FuncId} {g : Operand} {ps : Array Tmp} {asg body : Code} {F FL : Fr} {M M1 Min : List Blk} {K : Cont} {f : FuncId} {first caps cargs : List D} {post pan : D → List Blk → Prop} (σ V ν : List Nat) (j : Nat)
  (hr : n.r = none) (hmk : n.mks = true) (hg : Ev true F g (.fn (.func f) first caps)) (hj : M[j]? = some .hole) (hFL : ∀ t d, lk FL t = some d → lk F t = some d) (hM1 : M.set j (.lp (some fk) n.n FL ps asg body .ready none) = M1)
  (hc : vwL σ (fun i => V.contains i) M1 (first ++ [.yld j] ++ caps) = some cargs) (hMin : j5 σ (fun i => V.contains i) M1 σ = some Min) (hf : DCalls P f cargs Min post pan)
  (hlive : Min.all (·.live) = true) (hn : decide (σ ++ ν).Nodup = true) (hν : ν.all (fun i => match M1[i]? with | some .hole => true | _ => false) = true)
  (hpost : ∀ d Mout, post d Mout → ∃ wr M2 st pe, yg (σ ++ ν) (σ ++ ν) Mout = some wr ∧ (V.isEmpty || Mout.all (·.fl)) = true ∧ upd M1 wr = M2 ∧ M2[j]? = some (.lp (some fk) n.n FL ps asg body st pe) ∧ st ≠ .busy ∧
   (pe = none → K .normal F (M2.set j .gone)) ∧ (∀ c, pe = some c → dwp P s0 n c F (M2.set j .gone) K))
  (hpan : ∀ d Mout, pan d Mout → ∃ wr M2 d1, yg (σ ++ ν) (σ ++ ν) Mout = some wr ∧ (V.isEmpty || (d.fl && Mout.all (·.fl))) = true ∧ upd M1 wr = M2 ∧ sb (σ ++ ν) d = some d1 ∧ K (.panic d1) F M2) :
  uG P fk s0 n (.rangeFunc g ps asg body) F M K := by
 intro a w hi b k cs hro hbf
 have hρ : n.ρ s0 = none := by unfold Cx.ρ; rw [hr]
 rw [hρ] at hro ⊢
 have hb : (wd none).fn b.fn := trivial
 obtain ⟨l, mark, w₁, d, w₁', f, args, w₂, he, hres, hlead, hinv, hn1, hF, hcall⟩ := Y3 (fn := b.fn) (by rw [hbf]; rfl) σ V ν j hr hmk hg hj hFL hM1 hc hMin hf hlive hn hν hpost hpan a w hi
 rw [← hro] at he
 have h0 : (lone (b.atR a (.code (.rangeFunc g ps asg body) :: k)) cs w).fenced P (wd none) := jj
 have henter := stepR_rangeFunc (P := P) (b := b) (a := a) (k := k) (cs := cs) (w := w) he hres hinv
 obtain ⟨e, w₃, fr, hR, hsteps, hfn, hleave⟩ := hcall (b.atR { a with defers := mark ++ a.defers } (.inRangeFunc l :: k) :: cs) (gY _ _)
 cases e with
 | outgrown =>
  obtain ⟨a₀, w₀, hq⟩ := hR
  exact hq.elim
 | returned v =>
  have hl : (lone fr (b.atR { a with defers := mark ++ a.defers } (.inRangeFunc l :: k) :: cs) w₃).fenced P (wd none) := jj
  obtain ⟨jump, w₄, hend, hj⟩ := hR
  have sback : StepsIn (Machine.fenced P (wd none)) P (lone (b.atR a (.code (.rangeFunc g ps asg body) :: k)) cs w) (lone (b.atR { a with defers := mark ++ a.defers } ((jump.map Item.code).toList ++ k)) cs w₄) := by
   refine .head h0 henter (StepsIn.trans hsteps (.head hl ?_ (.one jj (stepR_endRangeFunc hend))))
   rw [← finish_atR_inRangeFunc l v]; exact step_leave_returned hleave
  cases jump with
  | none => exact ⟨.normal, _, w₄, hj, sback⟩
  | some c =>
   obtain ⟨e', a'', w₅, hq, harr⟩ := hj b k cs hro hb (gY _ _)
   exact ⟨e', a'', w₅, hq, .of_steps sback harr⟩
 | panicked chain =>
  have hl : (lone fr (b.atR { a with defers := mark ++ a.defers } (.inRangeFunc l :: k) :: cs) w₃).fenced P (wd none) := jj
  refine ⟨.panic chain, _, w₃, hR, .inRangeFunc l :: k, .head h0 henter (StepsIn.trans hsteps (.one hl ?_))⟩
  rw [← Frame.raise_atR]; exact step_leave_panicked hleave
theorem zu {f : FuncId} {c : Code} {F : Fr} {M : List Blk} {K : Cont} (h : uG P f s0 n c F M (Kng K)) : uG P f s0 n (.scope c) F M K := by
 intro a w hi b k cs hro hb
 obtain ⟨e, a₁, w₁, hq, harr⟩ := h a w hi b (.inScope c :: k) cs hro hb
 have f : ∀ (m : Machine), m.fenced P (wd (n.ρ s0)) := fun _ => jj
 cases e with
 | normal => exact ⟨.normal, a₁, w₁, hq, .head (f _) kr (StepsIn.trans harr (.one (f _) yH))⟩
 | exit id => exact ⟨.exit id, a₁, w₁, hq, fun k' hk => .head (f _) kr (harr.1 k' (by simp [exitTo, hk])), fun h1 h2 => by
   obtain ⟨k1, h3, h4⟩ := harr.2 h1 (by simp [exitTo, h2])
   exact ⟨k1, h3, .head (f _) kr h4⟩⟩
 | goto l => obtain ⟨_, _, _, hk⟩ := hq; exact hk.elim
 | ret => exact ⟨.ret, a₁, w₁, hq, .of_steps (.one (f _) kr) harr⟩
 | panic ch => exact ⟨.panic ch, a₁, w₁, hq, .of_steps (.one (f _) kr) harr⟩
 | outgrown => exact hq.elim
theorem Ky {f : FuncId} {c : Code} {F : Fr} {M : List Blk} {K : Cont} (h : uG P f s0 n c F (M ++ [.hole]) K) : uG P f s0 n c F M K := fun a w hi => h a w (zb hi)
theorem WQ {fk : FuncId} {g : Operand} {ps : Array Tmp} {asg body : Code} {F FL : Fr} {M M1 M2 Min Mout : List Blk} {K : Cont} {f : FuncId} {first caps cargs : List D} {d0 : D} {wr : List (Nat × Blk)} {st : LoopState} {pe : Option Code} (σ V ν : List Nat) (j : Nat)
  (hr : n.r = none) (hmk : n.mks = true) (hg : Ev true F g (.fn (.func f) first caps)) (hj : M[j]? = some .hole) (hFL : ∀ t d, lk FL t = some d → lk F t = some d) (hM1 : M.set j (.lp (some fk) n.n FL ps asg body .ready none) = M1)
  (hc : vwL σ (fun i => V.contains i) M1 (first ++ [.yld j] ++ caps) = some cargs) (hMin : j5 σ (fun i => V.contains i) M1 σ = some Min) (hf : DFun P f cargs Min d0 Mout)
  (hlive : Min.all (·.live) = true) (hn : decide (σ ++ ν).Nodup = true) (hν : ν.all (fun i => match M1[i]? with | some .hole => true | _ => false) = true)
  (hwr : yg (σ ++ ν) (σ ++ ν) Mout = some wr) (hfl : (V.isEmpty || Mout.all (·.fl)) = true) (hM2 : upd M1 wr = M2) (hj2 : M2[j]? = some (.lp (some fk) n.n FL ps asg body st pe)) (hst : st ≠ .busy)
  (hk0 : pe = none → K .normal F (M2.set j .gone)) (hk1 : ∀ c, pe = some c → dwp P s0 n c F (M2.set j .gone) K) : uG P fk s0 n (.rangeFunc g ps asg body) F M K :=
 Qs σ V ν j hr hmk hg hj hFL hM1 hc hMin hf hlive hn hν (by rintro d Mo ⟨rfl, rfl⟩; exact ⟨wr, M2, st, pe, hwr, hfl, hM2, hj2, hst, hk0, hk1⟩) (fun _ _ h => h.elim)
theorem WR {fk : FuncId} {g : Operand} {ps : Array Tmp} {asg body : Code} {F FL : Fr} {M M1 M2 Min Mout : List Blk} {K : Cont} {f : FuncId} {first caps cargs : List D} {d0 d1 : D} {wr : List (Nat × Blk)} (σ V ν : List Nat) (j : Nat)
  (hr : n.r = none) (hmk : n.mks = true) (hg : Ev true F g (.fn (.func f) first caps)) (hj : M[j]? = some .hole) (hFL : ∀ t d, lk FL t = some d → lk F t = some d) (hM1 : M.set j (.lp (some fk) n.n FL ps asg body .ready none) = M1)
  (hc : vwL σ (fun i => V.contains i) M1 (first ++ [.yld j] ++ caps) = some cargs) (hMin : j5 σ (fun i => V.contains i) M1 σ = some Min) (hf : DPan P f cargs Min d0 Mout)
  (hlive : Min.all (·.live) = true) (hn : decide (σ ++ ν).Nodup = true) (hν : ν.all (fun i => match M1[i]? with | some .hole => true | _ => false) = true)
  (hwr : yg (σ ++ ν) (σ ++ ν) Mout = some wr) (hfl : (V.isEmpty || (d0.fl && Mout.all (·.fl))) = true) (hM2 : upd M1 wr = M2) (hd : sb (σ ++ ν) d0 = some d1) (hk : K (.panic d1) F M2) : uG P fk s0 n (.rangeFunc g ps asg body) F M K :=
 Qs σ V ν j hr hmk hg hj hFL hM1 hc hMin hf hlive hn hν (fun _ _ h => h.elim) (by rintro d Mo ⟨rfl, rfl⟩; exact ⟨wr, M2, d1, hwr, hfl, hM2, hd, hk⟩)
end
section
variable {s0 : St} {n : Cx}
theorem Aj {F : Fr} {M : List Blk} {a : Act} {w : World} {t j : Nat} {e : TypeId} {sz m : Nat} {L : List Value} (h : Inv s0 n F M a w) (ht : lk F t = some (.arr j)) (hj : M[j]? = some (.arr e sz m L)) : Inv s0 n ((t, .arr M.length) :: F) (M.set j .gone ++ [.arr e sz m L]) a w := by
 obtain ⟨h0, s, rfl, rfl, h3, h4, h5, h6⟩ := h
 have t1 := gQ h3.ok
 have hlen := h3.ok.len
 have hjl := (qas.1 hj).1
 obtain ⟨y, hy⟩ : ∃ y, s.β[j]? = some y := ⟨_, qat (by omega)⟩
 have hb := h3.ok.blk j _ y hj hy
 have hsl : ∃ ad n' c, y = .slice ad n' c := by
  have hr := h4 t _ ht
  generalize hv : jh a t = v at hr
  cases hr with
  | @arr _ ad n' c hβ => rw [hy] at hβ; exact ⟨ad, n', c, qay hβ⟩
 obtain ⟨ad, n', c, rfl⟩ := hsl
 have hy1 : (s.β ++ [Value.nilFunc])[j]? = some (.slice ad n' c) := by rw [qaN (by omega)]; exact hy
 have hj1 : (s.M ++ [Blk.hole])[j]? = some (.arr e sz m L) := by rw [qaN hjl]; exact hj
 have eM : ((s.M ++ [Blk.hole]).set j .gone).set s.M.length (.arr e sz m L) = s.M.set j .gone ++ [.arr e sz m L] := by
  rw [List.set_append_left _ _ hjl, List.set_append_right _ _ (by simp)]
  simp
 have eβ : (s.β ++ [Value.nilFunc]).set s.M.length (.slice ad n' c) = s.β ++ [.slice ad n' c] := by
  rw [← hlen, List.set_append_right _ _ (qaO _)]
  simp
 have t2 := kR t1.ok s.M.length ((s.M ++ [Blk.hole]).set j .gone) (.slice ad n' c) (.arr e sz m L) s.w (by simp) (fun i k hk => by
   by_cases e' : j = i
   ·subst e'; rw [qaI (by simp; omega)] at hk; exact .inr (qay hk).symm
   ·rw [qaG e'] at hk; exact .inl hk) (by simp) (.inl (by simp [hlen])) (by simp) hb
  (fun b hb' i k h hne hk hl hh ho => by
   by_cases e' : j = i
   ·subst e'; rw [qaI (by simp; omega)] at hk; obtain rfl := qay hk; cases hl
   ·rw [qaG e'] at hk
    exact e' (t1.ok.inj j i _ k _ h b hj1 rfl hy1 hb' hk hl hh ho))
  (fun b hb' => .inr (qk hj1 rfl hy1 hb')) (fun b hb' => (t1.ok.lt b (qk hj1 rfl hy1 hb')).1) (fun _ => False) (fun _ h => h.elim) (fun _ _ _ _ => rfl) rfl rfl rfl (qaO _)
 have tt := t1.trans t2
 simp only [eM, eβ] at tt
 refine ⟨h0, ⟨s.β ++ [.slice ad n' c], s.I, s.M.set j .gone ++ [.arr e sz m L], s.w⟩, rfl, rfl, h3.trans tt, fun z d hd => ?_, h5, h6.mono h3.ok tt⟩
 rw [jk] at hd
 split at hd
 ·rename_i e'
  subst e'
  obtain rfl := qay hd
  have hr := h4 t _ ht
  generalize hv : jh a t = v at hr
  cases hr with
  | @arr _ ad2 n2 c2 hβ =>
   rw [hy] at hβ
   obtain ⟨rfl, rfl, rfl⟩ := Value.slice.inj (qay hβ)
   exact .arr (by show (s.β ++ [_])[s.M.length]? = _; rw [← hlen]; simp)
 ·exact (h4 z d hd).mono h3.ok tt
theorem Ak {c : Code} {F : Fr} {M M' : List Blk} {K : Cont} (t : Nat) {m' j : Nat} {e : TypeId} {sz m : Nat} {L : List Value} (ht : lk F t = some (.arr j)) (hj : M[j]? = some (.arr e sz m L)) (hm : M.length = m') (hM' : M.set j .gone ++ [.arr e sz m L] = M') (h : dwp P s0 n c ((t, .arr m') :: F) M' K) : dwp P s0 n c F M K := by
 subst hM' hm
 exact fun a w hi => h a w (Aj hi ht hj)
end
theorem zw {f : FuncId} {fn : Func} {c : Code} {args : List D} {F0 : Fr} {Min : List Blk} {post pan : D → List Blk → Prop} {N : Nat} (m : Nat) (hcb : yP P f = true) (hf : P.funcs[f]? = some fn) (hc : fn.body = some c) (hn : fn.ntmps = N) (hle : Nat.ble args.length N = true) (hF : fr0 0 args = F0) (hm : Min.length = m)
  (h : ∀ s0 : St, s0.M.length ≤ m → uG P f s0 ⟨N, none, m, [], true⟩ c F0 Min (Kret P fn m [] post pan)) : DCalls P f args Min post pan := by
 subst hF hm
 refine ⟨hcb, ?_⟩
 intro s vs ho hM hr
 obtain ⟨hl, hr⟩ := hr
 have hle := qaF hle
 have hslot : ∀ t d, lk (fr0 0 args) t = some d → Rep s d (jh { tmps := vs.toArray ++ qa7 (fn.ntmps - vs.toArray.size) undef, defers := [] } t) := by
  intro t d hd
  obtain ⟨_, h2⟩ := uZ args 0 t d hd
  simp only [Nat.sub_zero] at h2
  have hlt : t < args.length := (qas.1 h2).1
  have hv : vs[t]? = some vs[t] := qat (by omega)
  have : jh { tmps := vs.toArray ++ qa7 (fn.ntmps - vs.toArray.size) undef, defers := [] } t = vs[t] := by
   unfold jh
   simp only [Array.getD_eq_getD_getElem?]
   rw [Array.getElem?_append_left (by simp; omega)]
   simp [show t < vs.length by omega]
  rw [this]
  exact hr t d _ h2 hv
 refine (callsIn_wide (n := 0)).1 ⟨trivial, fun cs hrm => ?_⟩
 let b : Frame := { (default : Frame) with fn := f, kind := .normal, roundOf := none }
 have henter : Frame.enter P f vs.toArray .normal =
   b.atR { tmps := vs.toArray ++ qa7 (fn.ntmps - vs.toArray.size) undef, defers := [] } [.code c] := by
  simp [Frame.enter, Frame.atR, hf, hc, b]
 obtain ⟨e, a', w', hq0, harr⟩ := h s (by rw [hM]; exact qaO _) _ _ ⟨ho, s, hM, rfl, Tr.refl ho, hslot, by simp; omega, .nil⟩ b [] cs rfl rfl
 have hq : bodyPostM Fence.wide 0 P fn (Lv s post pan) e a' w' := by
  cases e with
  | normal => obtain ⟨F, M, ⟨h0, s1, q1, q2, q3, q4, q5, q6⟩, hk⟩ := hq0; subst q1 q2; exact vo h0 (by rw [hM]; exact qaO _) a' _ _ none _ _ _ q6 q3 q4 rfl hk
  | ret => obtain ⟨F, M, ⟨h0, s1, q1, q2, q3, q4, q5, q6⟩, hk⟩ := hq0; subst q1 q2; exact vo h0 (by rw [hM]; exact qaO _) a' _ _ none _ _ _ q6 q3 q4 rfl hk
  | exit id => obtain ⟨_, _, _, hk⟩ := hq0; exact hk
  | goto l => obtain ⟨_, _, _, hk⟩ := hq0; exact hk
  | panic ch => obtain ⟨F, M, d, ⟨h0, s1, v, q1, q2, q3, q4, q5, q6, q7, q8⟩, hk⟩ := hq0; subst q1 q2 q7; exact vo h0 (by rw [hM]; exact qaO _) a' _ _ (some d) _ _ _ q6 q3 q4 ⟨v, rfl, q8⟩ hk
  | outgrown => exact hq0.elim
 rw [← henter] at harr
 have hF : (Fence.wide).fn f := trivial
 cases e with
 | normal =>
  obtain ⟨e', w'', fr', hR, hs, hfn, hl⟩ := leaves_stepsInM a'.defers .returning w' { b.atR a' [] with mode := .returning } cs rfl rfl rfl hf rfl hF hrm hq
  exact ⟨e', w'', fr', hR, ComesIn.of_steps (StepsIn.trans harr (.one (fenced_calm (fr := b.atR a' []) hF hrm rfl) (stepR_end rfl))) hs, hfn, hl⟩
 | ret =>
  obtain ⟨todo, hs₀⟩ := harr.1 rfl
  obtain ⟨e', w'', fr', hR, hs, hfn, hl⟩ := leaves_stepsInM a'.defers .returning w' { b.atR a' todo with mode := .returning } cs rfl rfl rfl hf rfl hF hrm hq
  exact ⟨e', w'', fr', hR, ComesIn.of_steps hs₀ hs, hfn, hl⟩
 | panic chain =>
  obtain ⟨todo, hs₀⟩ := harr
  obtain ⟨e', w'', fr', hR, hs, hfn, hl⟩ := leaves_stepsInM a'.defers (.panicking chain) w' { b.atR a' todo with mode := .panicking chain } cs rfl rfl rfl hf rfl hF hrm hq
  exact ⟨e', w'', fr', hR, ComesIn.of_steps hs₀ hs, hfn, hl⟩
 | exit id => exact hq.elim
 | goto l => exact hq.elim
 | outgrown => exact hq0.elim
end
end Go.Proofs.YtofklkbfkoliiaaGreat
namespace Go.Proofs.YtofklkbfkoliiaaGreat
set_option linter.unusedVariables false
set_option linter.unusedSimpArgs false
open Go.RowKit
theorem qU : Tryz.prog.follows .mixedOrders = true := by kernel_rfl
structure C4 where
 r : Int
 g : Int
 b : Int
 a : Int
deriving DecidableEq
def c4 (c : C4) : List Value := [.int .u8 c.r, .int .u8 c.g, .int .u8 c.b, .int .u8 c.a]
def zC4 : C4 := ⟨0, 0, 0, 0⟩
structure P2 where
 x : Int
 y : Int
deriving DecidableEq
def p2 (p : P2) : List Value := [.int .i64 p.x, .int .i64 p.y]
structure TL where
 l : List C4
 h : l.length = 64
theorem TL.ext {t u : TL} (h : t.l = u.l) : t = u := by cases t; cases u; cases h; rfl
instance : DecidableEq TL := fun t u => if h : t.l = u.l then isTrue (TL.ext h) else isFalse fun e => h (by rw [e])
abbrev tc (t : TL) : List Value := t.l.flatMap c4
abbrev tD (t : TL) : D := .val (.agg (tc t).toArray)
theorem WS (c : C4) : (c4 c).length = 4 := rfl
theorem qy (t : TL) : (tc t).length = 256 := by rw [jM WS, t.h]
theorem yj (t : TL) : (tc t).all (·.oneCell') = true := ym (fun _ => rfl) t.l
def nT (c : C4) : TL := ⟨qaJ 64 c, by simp⟩
def zT : TL := nT zC4
def TL.get (t : TL) (i : Nat) : C4 := t.l.getD i zC4
def TL.set (t : TL) (i : Nat) (c : C4) : TL := ⟨t.l.set i c, by rw [List.length_set, t.h]⟩
def wg (b : Bool) (n : Int) : Int := match b with | true => 0 | false => n
theorem WT (t : TL) (i : Nat) (c : C4) : (t.l.set i c).flatMap c4 = tc (t.set i c) := rfl
theorem Qt {α : Type} {f : List Value → List Value → Option Bool} {en : α → List Value} {sz : Nat} [DecidableEq α] (hen : ∀ a, (en a).length = sz) (hf : ∀ a b, f (en a) (en b) = some (decide (a = b))) :
  ∀ (l r : List α), l.length = r.length → eqA f sz l.length (l.flatMap en) (r.flatMap en) = some (decide (l = r))
 | [], [], _ => by simp [eqA]
 | a :: l, b :: r, h => by
  have e1 : ((a :: l).flatMap en).take sz = en a := by rw [qaL, ← hen a, List.take_left]
  have e2 : ((b :: r).flatMap en).take sz = en b := by rw [qaL, ← hen b, List.take_left]
  have e3 : ((a :: l).flatMap en).drop sz = l.flatMap en := by rw [qaL, ← hen a, List.drop_left]
  have e4 : ((b :: r).flatMap en).drop sz = r.flatMap en := by rw [qaL, ← hen b, List.drop_left]
  rw [qaU, eqA, e1, e2, e3, e4, hf, Qt hen hf l r (by simpa using h)]
  simp only [Option.some.injEq]
  rw [Bool.eq_iff_iff]
  simp
 | [], _ :: _, h => by simp at h
 | _ :: _, [], h => by simp at h
def eqC (a b : C4) : Bool := (a.r == b.r) && ((a.g == b.g) && ((a.b == b.b) && ((a.a == b.a) && true)))
theorem Qu {u v : C4} : eqC u v = decide (u = v) := by
 obtain ⟨r, g, b, a⟩ := u
 obtain ⟨r', g', b', a'⟩ := v
 rw [Bool.eq_iff_iff]
 simp [eqC]
def zx (c : C4) : Nat → TL
 | 0 => zT
 | k + 1 => (zx c k).set k c
theorem Vh (c : C4) (k : Nat) : zx c (k + 1) = (zx c k).set k c := rfl
theorem Hf (c : C4) {i : Nat} (h : i < 64) : (nT c).l[i]? = some c := by
 show (qaJ 64 c)[i]? = _
 rw [List.getElem?_replicate, if_pos h]
theorem Qv (c : C4) : ∀ (k i : Nat), i < 64 → (zx c k).l[i]? = some (if i < k then c else zC4)
 | 0, i, h => by rw [zx, zT, Hf _ h]; simp
 | k + 1, i, h => by
  rw [zx]
  show ((zx c k).l.set k c)[i]? = _
  rw [List.getElem?_set]
  by_cases e : k = i
  ·subst e; simp [(zx c k).h, h]
  ·rw [if_neg e, Qv c k i h]
   by_cases g : i < k
   ·rw [if_pos g, if_pos (by omega)]
   ·rw [if_neg g, if_neg (by omega)]
theorem WU (c : C4) : zx c 64 = nT c := by
 apply TL.ext
 apply qbi
 intro i
 by_cases h : i < 64
 ·rw [Qv c 64 i h, if_pos h, Hf c h]
 ·rw [qa4 (by rw [(zx c 64).h]; omega), qa4 (by rw [(nT c).h]; omega)]
theorem bn_t {b : Bool} (h : (!b) = true) : b = false := by cases b <;> simp_all
theorem bn_f {b : Bool} (h : (!b) = false) : b = true := by cases b <;> simp_all
structure Dt where
 x : Int
 y : Int
 c : C4
deriving DecidableEq
def gN (w h : Int) : Bool := decide (1 ≤ w) && decide (w ≤ 4) && decide (1 ≤ h) && decide (h ≤ 4)
theorem Jj {w h : Int} (hm : gN w h = true) : (1 ≤ w ∧ w ≤ 4) ∧ (1 ≤ h ∧ h ≤ 4) := by
 unfold gN at hm
 simp at hm
 omega
def onS (w h x y : Int) : Bool := decide (0 ≤ x) && decide (x < w * 8) && decide (0 ≤ y) && decide (y < h * 8)
def plN (w x y : Int) : Nat := (y / 8 * w + x / 8).toNat
def pxN (x y : Int) : Nat := (y % 8 * 8 + x % 8).toNat
def putC (w h : Int) (ts : List TL) (d : Dt) : List TL := if onS w h d.x d.y = true then ts.set (plN w d.x d.y) ((ts.getD (plN w d.x d.y) zT).set (pxN d.x d.y) d.c) else ts
theorem WV (w h : Int) (ts : List TL) (d : Dt) : (putC w h ts d).length = ts.length := by unfold putC; split <;> simp
abbrev cvD (w h : Int) (ds : List D) : D := .dpm [.val (.int .i64 w), .val (.int .i64 h), .slm 1 ds.length ds]
abbrev shD (w h : Int) (ts : List TL) : D := .agg [.val (.int .i64 w), .val (.int .i64 h), .slf 256 ts.length (ts.flatMap tc)]
structure RowOk (ds : List D) (ts : List TL) : Prop where
 len : ds.length = ts.length
 nl : D.nlL ds = true
 oc : ds.all D.oc2 = true
 wk : ∀ (q : Nat) d t, ds[q]? = some d → ts[q]? = some t → Wk d (.dpf (tc t))
structure CvOk (w h : Int) (ts : List TL) : Prop where
 may : gN w h = true
 len : (ts.length : Int) = w * h
theorem CvOk.le {w h : Int} {ts : List TL} (hc : CvOk w h ts) : ts.length ≤ 16 ∧ 1 ≤ ts.length := by
 have hb := Jj hc.may
 have h1 : w * h ≤ 4 * 4 := Int.mul_le_mul hb.1.2 hb.2.2 (by omega) (by omega)
 have h2 : 1 * 1 ≤ w * h := Int.mul_le_mul hb.1.1 hb.2.1 (by omega) (by omega)
 have := hc.len
 omega
abbrev dpR (ts : List TL) : List D := ts.map fun t => .dpf (tc t)
theorem Al (ts : List TL) : RowOk (dpR ts) ts := by
 refine ⟨by simp, ?_, by simp [D.oc2], fun q d t h1 h2 => ?_⟩
 ·induction ts with
  | nil => rfl
  | cons t ts ih => rw [dpR, List.map_cons, D.nlL]; exact ih
 ·rw [qbb, h2] at h1
  cases h1
  exact Wk.refl _
theorem RowOk.at {ds : List D} {ts : List TL} (h : RowOk ds ts) {q : Nat} (hq : q < ts.length) : ∃ d, ds[q]? = some d ∧ d ∈ ds ∧ d.nl = true ∧ d.oc2 = true ∧ Wk d (.dpf (tc (ts.getD q zT))) := by
 have hq2 : q < ds.length := by rw [h.len]; exact hq
 refine ⟨ds[q], qat hq2, qbf hq2, jm h.nl (qat hq2), qaV.1 h.oc _ (qbf hq2), ?_⟩
 refine h.wk q _ _ (qat hq2) ?_
 rw [qa2, qat hq]
 rfl
theorem RowOk.wkd {ds : List D} {ts : List TL} (h : RowOk ds ts) (w hh : Int) : Wk (cvD w hh ds) (cvD w hh (dpR ts)) := by
 have hl : WkL ds (dpR ts) := ⟨by simp [h.len], fun j d d' h1 h2 => by
  rw [qbb] at h2
  cases e : ts[j]? with
  | none => rw [e] at h2; cases h2
  | some t => rw [e] at h2; cases h2; exact h.wk j d t h1 e⟩
 have hn : D.nlL (dpR ts) = true := (Al ts).nl
 have e : (dpR ts).length = ds.length := by simp [h.len]
 rw [cvD, cvD, e]
 exact Wk.dpm (.cons (.refl _) (.cons (.refl _) (.cons (Wk.slm hl hn) .nil))) (by simp [D.nlL, D.nl])
def jd (w h : Int) (ts : List TL) : Bool := gN w h && decide ((ts.length : Int) = w * h)
theorem CvOk.right {w h : Int} {ts : List TL} (hc : CvOk w h ts) : jd w h ts = true := by
 unfold jd
 rw [hc.may, decide_eq_true hc.len]
 rfl
theorem wh {w h : Int} (hm : gN w h = true) : 1 ≤ w * h ∧ w * h ≤ 16 := by
 have hb := Jj hm
 have h1 : w * h ≤ 4 * 4 := Int.mul_le_mul hb.1.2 hb.2.2 (by omega) (by omega)
 have h2 : 1 * 1 ≤ w * h := Int.mul_le_mul hb.1.1 hb.2.1 (by omega) (by omega)
 omega
theorem CvOk.put {w h : Int} {ts : List TL} (hc : CvOk w h ts) (d : Dt) : CvOk w h (putC w h ts d) := ⟨hc.may, by rw [WV]; exact hc.len⟩
structure I3 where
 t : Int
 s : Int
 q : Int
deriving DecidableEq
def WW (n : Int) : Bool := decide (1 ≤ n) && decide (n ≤ 4611686018427387904)
def isSt (n : Int) : Bool := decide (1 ≤ n) && decide (n ≤ 8)
def uH (i : I3) : Bool := WW i.t && (isSt i.s && WW i.q)
def lessR (a b : I3) : Bool := if a.t ≠ b.t then decide (a.t < b.t) else if a.s ≠ b.s then decide (a.s < b.s) else decide (a.q < b.q)
def inI (n : Int) : List Value := [.int .i64 n]
def zI3 : I3 := ⟨0, 0, 0⟩
structure OpM where
 id : I3
 kd : Int
 x : Int
 y : Int
 x2 : Int
 y2 : Int
 sz : Int
 co : C4
 sw : Int
 sh : Int
 px : List C4
 tg : I3
deriving DecidableEq
abbrev pxD (l : List C4) : D := .slf 4 l.length (l.flatMap c4)
def opD (o : OpM) : List D := [.val (.int .u64 o.id.t), .val (.int .i64 o.id.s), .val (.int .u64 o.id.q), .val (.int .i64 o.kd), .val (.int .i64 o.x), .val (.int .i64 o.y), .val (.int .i64 o.x2), .val (.int .i64 o.y2), .val (.int .i64 o.sz),
 .val (.int .u8 o.co.r), .val (.int .u8 o.co.g), .val (.int .u8 o.co.b), .val (.int .u8 o.co.a), .val (.int .i64 o.sw), .val (.int .i64 o.sh), pxD o.px, .val (.int .u64 o.tg.t), .val (.int .i64 o.tg.s), .val (.int .u64 o.tg.q)]
def drB (n : Int) : Bool := decide (-64 ≤ n) && decide (n ≤ 127)
def siD (n : Int) : Bool := decide (1 ≤ n) && decide (n ≤ 8)
def stB (w h : Int) (l : List C4) : Bool := siD w && siD h && decide ((l.length : Int) = w * h)
def mostK (k : Int) : Int := if k = 5 then 1020 else if k = 1 ∨ k = 2 then 15 else 0
def opB (o : OpM) : Bool :=
 (decide (1 ≤ o.kd) && decide (o.kd ≤ 8)) && uH o.id
 && (if o.kd ≤ 6 then drB o.x && drB o.y else decide (o.x = 0) && decide (o.y = 0))
 && (if o.kd ≤ 4 then drB o.x2 && drB o.y2 else decide (o.x2 = 0) && decide (o.y2 = 0))
 && (if o.kd = 1 ∨ o.kd = 2 ∨ o.kd = 5 then decide (0 ≤ o.sz) && decide (o.sz ≤ mostK o.kd) else decide (o.sz = 0))
 && (decide (o.kd ≤ 5) || decide (o.co = zC4))
 && (if o.kd = 6 then stB o.sw o.sh o.px else decide (o.sw = 0) && decide (o.sh = 0) && decide (o.px = []))
 && (if 7 ≤ o.kd then uH o.tg && lessR o.tg o.id else decide (o.tg = zI3))
abbrev Vec := Nat → Nat
def c9 (v : Vec) : List Value := [.int .u64 (v 0), .int .u64 (v 1), .int .u64 (v 2), .int .u64 (v 3), .int .u64 (v 4), .int .u64 (v 5), .int .u64 (v 6), .int .u64 (v 7), .int .u64 (v 8)]
def upV {α : Type} (v : Nat → α) (j : Nat) (x : α) : Nat → α := fun i => if i = j then x else v i
theorem lt9 {P : Nat → Prop} (h0 : P 0) (h1 : P 1) (h2 : P 2) (h3 : P 3) (h4 : P 4) (h5 : P 5) (h6 : P 6) (h7 : P 7) (h8 : P 8) : ∀ j, j < 9 → P j
 | 0, _ => h0 | 1, _ => h1 | 2, _ => h2 | 3, _ => h3 | 4, _ => h4 | 5, _ => h5 | 6, _ => h6 | 7, _ => h7 | 8, _ => h8
 | n + 9, h => absurd h (by omega)
theorem WX (v : Vec) : (c9 v).length = 9 := rfl
theorem c9_at (v : Vec) : ∀ j, j < 9 → (c9 v)[j]? = some (.int .u64 (v j)) := lt9 rfl rfl rfl rfl rfl rfl rfl rfl rfl
theorem Am (v : Vec) (x : Nat) : ∀ j, j < 9 → (c9 v).set j (.int .u64 x) = c9 (upV v j x) := lt9 rfl rfl rfl rfl rfl rfl rfl rfl rfl
def z9 : Vec := fun _ => 0
structure Pl where
 inn : Bool
 fl : Nat
 fs : Nat
 has : Vec
structure FrM where
 fo : Nat
 bv : Vec
 pr : Nat
 st : Nat → Pl
def FrM.sw (f : FrM) (j : Nat) (p : Pl) : FrM := { f with st := upV f.st j p }
def eqV (v w : Vec) : Bool := (qaY 9).all fun i => v i == w i
theorem all9 {P : Nat → Bool} : (qaY 9).all P = true ↔ ∀ i, i < 9 → P i = true := by
 simp
abbrev LAST : Nat := 4611686018427387904
def vB (v : Vec) : Bool := decide (v 0 = 0) && (qaY 9).all fun i => decide (v i ≤ LAST)
theorem vB_iff {v : Vec} : vB v = true ↔ v 0 = 0 ∧ ∀ i, i < 9 → v i ≤ LAST := by
 unfold vB
 rw [qav, all9]
 simp
def flL (n : Nat) (l : List Pl) : Nat := l.foldl (fun m q => max m q.fl) n
def Gk (v : Vec) (i : Nat) : Prop := v i ≤ 4611686018427387904 ∧ (i = 0 → v i = 0)
theorem vB_all {v : Vec} : vB v = true ↔ ∀ i, i < 9 → Gk v i := by
 rw [vB_iff]
 constructor
 ·intro h i hi
  exact ⟨h.2 i hi, fun e => by rw [e]; exact h.1⟩
 ·intro h
  exact ⟨(h 0 (by omega)).2 rfl, fun i hi => (h i hi).1⟩
theorem vB_no {v : Vec} {i : Nat} (hi : i < 9) (h : ¬ Gk v i) : vB v = false := by
 rw [← Bool.not_eq_true, vB_all]
 exact fun e => h (e i hi)
theorem Vi {v : Vec} {k : Nat} (h : ∀ i, i < k → Gk v i) (hk : Gk v k) : ∀ i, i < k + 1 → Gk v i := fun i hi => by
 by_cases e : i = k
 ·rw [e]; exact hk
 ·exact h i (by omega)
theorem An {v : Vec} (h : ∀ i, i < 9 → v i = 0) : vB v = true := vB_all.2 fun i hi => ⟨by rw [h i hi]; omega, fun _ => h i hi⟩
theorem Qw {v : Vec} {x p j : Nat} (hp : p = j) (hj : j < 9) : (c9 v).set p (.int .u64 x) = c9 (upV v j x) := by rw [hp]; exact Am v x j hj
def eqn (a b : Nat) : Bool := (a : Int) == (b : Int)
theorem Ao (a b : Nat) : eqn a b = (a == b) := by
 unfold eqn
 rw [Bool.eq_iff_iff]
 simp
 omega
def eqVx (v w : Vec) : Bool := eqn (v 0) (w 0) && (eqn (v 1) (w 1) && (eqn (v 2) (w 2) && (eqn (v 3) (w 3) && (eqn (v 4) (w 4) && (eqn (v 5) (w 5) && (eqn (v 6) (w 6) && (eqn (v 7) (w 7) && (eqn (v 8) (w 8) && true))))))))
theorem XX (v w : Vec) : eqVx v w = eqV v w := by
 unfold eqVx eqV
 simp only [Ao, qaY, List.range.loop, List.all_cons, List.all_nil]
theorem Ap {v : Vec} (h : eqV v z9 = true) : vB v = true := An fun i hi => by
 unfold eqV at h
 rw [all9] at h
 simpa [z9] using h i hi
def uc8 (n : Int) : List Value := [.int .u8 n]
def ic (n : Int) : List Value := [.int .i64 n]
def uc (n : Int) : List Value := [.int .u64 n]
def isW (n : Int) : Bool := decide (1 ≤ n) && decide (n ≤ 8)
def Kz (w : Nat) (n : Int) : Bool := decide (w = 8) || decide (n / 2 ^ (8 * w) = 0)
def Vj (n : Int) : Nat → List Int
 | 0 => qaJ 8 0
 | k + 1 => (Vj n k).set (7 - k) (IntKind.u8.wrap (n / 2 ^ (8 * k)))
theorem uI (n : Int) : ∀ k, (Vj n k).length = 8
 | 0 => rfl
 | k + 1 => by rw [Vj, List.length_set, uI n k]
def vG (w : Nat) (n : Int) : List Int := (Vj n 8).drop (8 - w)
theorem YD {w : Nat} {n : Int} (h : w ≤ 8) : (vG w n).length = w := by rw [vG, qaZ, uI]; omega
theorem Jk {n : Int} : isW n = true ↔ 1 ≤ n ∧ n ≤ 8 := by simp [isW]
theorem XY (n : Int) : (uc8 n).length = 1 := rfl
theorem fl8 (l : List Int) : (l.flatMap uc8).length = l.length := by rw [jM XY, Nat.mul_one]
theorem Qx {A B : List Value} {z : Value} {p m r : Nat} (hp : p = A.length) (hm : B.length = m) : jC (A ++ qaJ (m + r) z) p B = A ++ B ++ qaJ r z := by
 subst hp hm
 rw [jx _ _ _ (by simp), List.take_left, List.drop_append]
 congr 1
 rw [List.drop_of_length_le (by omega), qaH, List.drop_replicate]
 congr 1
 omega
theorem beh2 (l1 l2 : List Int) {z : Value} (p0 p1 k1 k2 : Nat) (h0 : p0 = 0) (h1 : k1 = l1.length) (h2 : p1 = l1.length) (h3 : k2 = l2.length) :
  jC (jC (qaJ (l1.length + l2.length) z) p0 ((l1.flatMap uc8).take k1)) p1 ((l2.flatMap uc8).take k2) = (l1 ++ l2).flatMap uc8 := by
 rw [qaX (by rw [fl8]; omega), qaX (by rw [fl8]; omega)]
 have e1 := Qx (A := []) (B := l1.flatMap uc8) (z := z) (p := p0) (m := l1.length) (r := l2.length) h0 (fl8 _)
 rw [qaH, qaH] at e1
 rw [e1]
 have e2 := Qx (A := l1.flatMap uc8) (B := l2.flatMap uc8) (z := z) (p := p1) (m := l2.length) (r := 0) (by rw [fl8]; exact h2) (fl8 _)
 rw [Nat.add_zero] at e2
 rw [e2, qbg]
 simp
def Vk (acc b : Int) : Int := orZ .u64 (IntKind.u64.wrap (acc * 2 ^ 8)) (IntKind.u64.wrap b)
def ky (w : Nat) (l : List Int) : Int := (l.take w).foldl Vk 0
theorem Vl {k : Nat} {l : List Int} (h : k < l.length) : ky (k + 1) l = Vk (ky k l) l[k] := by
 rw [ky, qa0 h, List.foldl_append]; rfl
theorem WY {w : Nat} {l : List Int} (h : l.length ≤ w) : ky w l = ky l.length l := by
 rw [ky, ky, qaX h, List.take_length]
def YE (n : Int) : Nat → List Int
 | 0 => []
 | k + 1 => IntKind.u8.wrap (n / 256 ^ k % 256) :: YE n k
theorem Vm (a w : Nat) : YE (a : Int) (w + 1) = ((a / 256 ^ w % 256 : Nat) : Int) :: YE (a : Int) w := by
 rw [YE]
 congr 1
 have e : ((a : Int) / 256 ^ w % 256) = ((a / 256 ^ w % 256 : Nat) : Int) := by
  rw [Int.natCast_emod, Int.natCast_ediv, Int.natCast_pow]; rfl
 rw [e]
 exact IntWalk.u8_in _ (by omega)
theorem Vn (n : Int) : ∀ w : Nat, 1 ≤ w ∧ w ≤ 8 → vG w n = YE n w := by
 intro w hw
 have wr : ∀ x : Int, IntKind.u8.wrap x = IntKind.u8.wrap (x % 256) := fun x => by rw [IntKind.wrap_u8, IntKind.wrap_u8]; omega
 have : w = 1 ∨ w = 2 ∨ w = 3 ∨ w = 4 ∨ w = 5 ∨ w = 6 ∨ w = 7 ∨ w = 8 := by omega
 rcases this with rfl | rfl | rfl | rfl | rfl | rfl | rfl | rfl <;> simp [vG, Vj, YE, ← wr]
theorem Hg : arE Tryz.prog 168 = some (8, 1) := by kernel_rfl
theorem ar27 : arE Tryz.prog 27 = some (9, 1) := by kernel_rfl
theorem z2 : arE Tryz.prog 84 = some (64, 4) := by kernel_rfl
theorem aw27 : arW Tryz.prog 27 = some 9 := by kernel_rfl
theorem eq27 {v w : Vec} : eqT Tryz.prog 9 27 (c9 v) (c9 w) = some (eqV v w) := by
 rw [← XX]; kernel_rfl
theorem eq82 {a b : C4} : eqT Tryz.prog 9 82 (c4 a) (c4 b) = some (decide (a = b)) := by
 rw [← Qu]
 exact (show eqT Tryz.prog 9 82 [.int .u8 a.r, .int .u8 a.g, .int .u8 a.b, .int .u8 a.a] [.int .u8 b.r, .int .u8 b.g, .int .u8 b.b, .int .u8 b.a] = some (eqC a b) by kernel_rfl)
theorem eq84 {t u : TL} : eqT Tryz.prog 9 84 (tc t) (tc u) = some (decide (t = u)) := by
 have h : ∀ a b : C4, eqT Tryz.prog 8 82 (c4 a) (c4 b) = some (decide (a = b)) := fun a b => by
  rw [← Qu]
  exact (show eqT Tryz.prog 8 82 [.int .u8 a.r, .int .u8 a.g, .int .u8 a.b, .int .u8 a.a] [.int .u8 b.r, .int .u8 b.g, .int .u8 b.b, .int .u8 b.a] = some (eqC a b) by kernel_rfl)
 have h2 := Qt (en := c4) WS h t.l u.l (by rw [t.h, u.h])
 rw [t.h] at h2
 have h3 : eqT Tryz.prog 9 84 (tc t) (tc u) = eqA (eqT Tryz.prog 8 82) 4 64 (tc t) (tc u) := by
  have e1 : Tryz.prog.underlying 84 = some (.array 64 82) := by kernel_rfl
  obtain ⟨_, i, _, e3, _, e4⟩ := gi (show tyB Tryz.prog 82 = some (true, 4) by kernel_rfl)
  unfold eqT
  simp only [e1, e3, e4]
 refine h3.trans (h2.trans ?_)
 congr 1
 rw [Bool.eq_iff_iff]
 simp only [decide_eq_true_eq]
 exact ⟨TL.ext, fun e => by rw [e]⟩
theorem WZ : fdL Tryz.prog 122 = some [(0, 1), (1, 1)] := by kernel_rfl
theorem fl130 : fdL Tryz.prog 130 = some [(0, 1)] := by kernel_rfl
theorem W0 : fdL Tryz.prog 150 = some [(0, 1), (1, 1)] := by kernel_rfl
theorem Qy : fdL Tryz.prog 158 = some [(0, 3), (3, 1), (4, 1)] := by kernel_rfl
theorem Hh : fdL Tryz.prog 178 = some [(0, 1), (1, 19)] := by kernel_rfl
theorem Gl : fdL Tryz.prog 181 = some [] := by kernel_rfl
theorem Gm : fdL Tryz.prog 196 = some [(0, 1), (1, 4)] := by kernel_rfl
theorem fl203 : fdL Tryz.prog 203 = some [(0, 1)] := by kernel_rfl
theorem fl206 : fdL Tryz.prog 206 = some [(0, 2)] := by kernel_rfl
theorem fl210 : fdL Tryz.prog 210 = some [(0, 2), (2, 1)] := by kernel_rfl
theorem fl24 : fdL Tryz.prog 24 = some [(0, 1), (1, 1), (2, 1)] := by kernel_rfl
theorem W1 : fdL Tryz.prog 82 = some [(0, 1), (1, 1), (2, 1), (3, 1)] := by kernel_rfl
theorem Jl : fdO Tryz.prog 122 0 = some 0 := by kernel_rfl
theorem Jm : fdO Tryz.prog 122 1 = some 1 := by kernel_rfl
theorem XZ : fdO Tryz.prog 130 0 = some 0 := by kernel_rfl
theorem Jn : fdO Tryz.prog 140 1 = some 19 := by kernel_rfl
theorem wA : fdO Tryz.prog 150 0 = some 0 := by kernel_rfl
theorem yr : fdO Tryz.prog 150 1 = some 1 := by kernel_rfl
theorem k7 : fdO Tryz.prog 158 0 = some 0 := by kernel_rfl
theorem jW : fdO Tryz.prog 158 1 = some 3 := by kernel_rfl
theorem kT : fdO Tryz.prog 158 2 = some 4 := by kernel_rfl
theorem vH : fdO Tryz.prog 178 0 = some 0 := by kernel_rfl
theorem gI : fdO Tryz.prog 196 0 = some 0 := by kernel_rfl
theorem g8 : fdO Tryz.prog 196 1 = some 1 := by kernel_rfl
theorem X0 : fdO Tryz.prog 203 0 = some 0 := by kernel_rfl
theorem gm : fdO Tryz.prog 206 0 = some 0 := by kernel_rfl
theorem Qz : fdO Tryz.prog 210 1 = some 2 := by kernel_rfl
theorem y4 : fdO Tryz.prog 24 0 = some 0 := by kernel_rfl
theorem y5 : fdO Tryz.prog 24 1 = some 1 := by kernel_rfl
theorem yh : fdO Tryz.prog 24 2 = some 2 := by kernel_rfl
theorem Aq : fdO Tryz.prog 82 0 = some 0 := by kernel_rfl
theorem Ar : fdO Tryz.prog 82 1 = some 1 := by kernel_rfl
theorem As : fdO Tryz.prog 82 2 = some 2 := by kernel_rfl
theorem At : fdO Tryz.prog 82 3 = some 3 := by kernel_rfl
theorem gd27 : Tryz.prog.eqGuardType Tryz.prog.depth 27 = false := by kernel_rfl
theorem gd82 : Tryz.prog.eqGuardType Tryz.prog.depth 82 = false := by kernel_rfl
theorem gd84 : Tryz.prog.eqGuardType Tryz.prog.depth 84 = false := by kernel_rfl
theorem kn25 : knd Tryz.prog 25 = some .u64 := by kernel_rfl
theorem kn3 : knd Tryz.prog 3 = some .i64 := by kernel_rfl
theorem kn5 : knd Tryz.prog 5 = some .u8 := by kernel_rfl
theorem W2 : niF Tryz.prog 130 = true := by kernel_rfl
theorem zy : niF Tryz.prog 181 = true := by kernel_rfl
theorem W3 : niF Tryz.prog 203 = true := by kernel_rfl
theorem QA : ptT Tryz.prog 174 = some 206 := by kernel_rfl
theorem KA : slE Tryz.prog 127 = some (25, 1, 8) := by kernel_rfl
theorem Hi : slE Tryz.prog 208 = some (194, 1, 8) := by kernel_rfl
theorem w4 : slE Tryz.prog 22 = some (84, 256, 256) := by kernel_rfl
theorem qu : slE Tryz.prog 30 = some (5, 1, 1) := by kernel_rfl
theorem y6 : slE Tryz.prog 47 = some (3, 1, 8) := by kernel_rfl
theorem gJ : slE Tryz.prog 59 = some (30, 1, 24) := by kernel_rfl
theorem zz : tyB Tryz.prog 122 = some (true, 2) := by kernel_rfl
theorem Hj : tyB Tryz.prog 130 = some (true, 1) := by kernel_rfl
theorem tb144 : tyB Tryz.prog 144 = some (false, 1) := by kernel_rfl
theorem Hk : tyB Tryz.prog 146 = some (false, 1) := by kernel_rfl
theorem QB : tyB Tryz.prog 158 = some (true, 5) := by kernel_rfl
theorem tb173 : tyB Tryz.prog 173 = some (false, 1) := by kernel_rfl
theorem gj : tyB Tryz.prog 174 = some (false, 1) := by kernel_rfl
theorem Hl : tyB Tryz.prog 181 = some (true, 0) := by kernel_rfl
theorem W4 : tyB Tryz.prog 183 = some (false, 1) := by kernel_rfl
theorem Hm : tyB Tryz.prog 194 = some (false, 1) := by kernel_rfl
theorem KB : tyB Tryz.prog 196 = some (true, 5) := by kernel_rfl
theorem Hn : tyB Tryz.prog 203 = some (true, 1) := by kernel_rfl
theorem Ho : tyB Tryz.prog 208 = some (false, 1) := by kernel_rfl
theorem xz : tyB Tryz.prog 22 = some (false, 1) := by kernel_rfl
theorem vT : tyB Tryz.prog 24 = some (true, 3) := by kernel_rfl
theorem ku : tyB Tryz.prog 25 = some (false, 1) := by kernel_rfl
theorem gK : tyB Tryz.prog 27 = some (true, 9) := by kernel_rfl
theorem tb3 : tyB Tryz.prog 3 = some (false, 1) := by kernel_rfl
theorem kC : tyB Tryz.prog 30 = some (false, 1) := by kernel_rfl
theorem qT : tyB Tryz.prog 34 = some (false, 1) := by kernel_rfl
theorem tb5 : tyB Tryz.prog 5 = some (false, 1) := by kernel_rfl
theorem vI : tyB Tryz.prog 82 = some (true, 4) := by kernel_rfl
theorem jg : tyB Tryz.prog 84 = some (true, 256) := by kernel_rfl
theorem ty25 : (tyB Tryz.prog 25).isSome = true := by kernel_rfl
theorem ty3 : (tyB Tryz.prog 3).isSome = true := by kernel_rfl
theorem ty5 : (tyB Tryz.prog 5).isSome = true := by kernel_rfl
theorem KC : zrC Tryz.prog 122 = some [.int .i64 0, .int .i64 0] := by kernel_rfl
theorem W5 : zrC Tryz.prog 130 = some [.int .i64 0] := by kernel_rfl
theorem zr140 : zrC Tryz.prog 140 = some [.int .u64 0, .int .i64 0, .int .u64 0, .int .i64 0, .int .i64 0, .int .i64 0, .int .i64 0, .int .i64 0, .int .i64 0, .int .u8 0, .int .u8 0, .int .u8 0, .int .u8 0, .int .i64 0, .int .i64 0, .slice none 0 0, .int .u64 0, .int .i64 0, .int .u64 0, .slice none 0 0] := by kernel_rfl
theorem Gn : zrC Tryz.prog 150 = some [.slice none 0 0, .int .i64 0] := by kernel_rfl
theorem xu : zrC Tryz.prog 158 = some [.int .i64 0, .int .i64 0, .slice none 0 0, .slice none 0 0, .int .i64 0] := by kernel_rfl
theorem zr168 : zrC Tryz.prog 168 = some [.int .u8 0, .int .u8 0, .int .u8 0, .int .u8 0, .int .u8 0, .int .u8 0, .int .u8 0, .int .u8 0] := by kernel_rfl
theorem Hp : zrC Tryz.prog 178 = some [.pointer none, .int .u64 0, .int .i64 0, .int .u64 0, .int .i64 0, .int .i64 0, .int .i64 0, .int .i64 0, .int .i64 0, .int .i64 0, .int .u8 0, .int .u8 0, .int .u8 0, .int .u8 0, .int .i64 0, .int .i64 0, .slice none 0 0, .int .u64 0, .int .i64 0, .int .u64 0] := by kernel_rfl
theorem zA : zrC Tryz.prog 181 = some [] := by kernel_rfl
theorem Hq : zrC Tryz.prog 194 = some [.pointer none] := by kernel_rfl
theorem wI : zrC Tryz.prog 196 = some [.int .i64 0, .int .u8 0, .int .u8 0, .int .u8 0, .int .u8 0] := by kernel_rfl
theorem W6 : zrC Tryz.prog 203 = some [.int .i64 0] := by kernel_rfl
theorem zr206 : zrC Tryz.prog 206 = some [.slice none 0 0, .int .i64 0] := by kernel_rfl
theorem zr210 : zrC Tryz.prog 210 = some [.int .i64 0, .int .i64 0, .slice none 0 0] := by kernel_rfl
theorem Vo : zrC Tryz.prog 24 = some [.int .i64 0, .int .i64 0, .slice none 0 0] := by kernel_rfl
theorem zr25 : zrC Tryz.prog 25 = some [.int .u64 0] := by kernel_rfl
theorem xA : zrC Tryz.prog 27 = some (c9 z9) := by kernel_rfl
theorem zr3 : zrC Tryz.prog 3 = some [.int .i64 0] := by kernel_rfl
theorem W7 : zrC Tryz.prog 30 = some [.slice none 0 0] := by kernel_rfl
theorem jO : zrC Tryz.prog 34 = some [.int .i64 0] := by kernel_rfl
theorem zr5 : zrC Tryz.prog 5 = some [.int .u8 0] := by kernel_rfl
theorem W8 : zrC Tryz.prog 82 = some [.int .u8 0, .int .u8 0, .int .u8 0, .int .u8 0] := by kernel_rfl
theorem yN : zrC Tryz.prog 84 = some (tc zT) := by kernel_rfl
theorem zv130 : zrV Tryz.prog 130 = some (.agg #[.int .i64 0]) := by kernel_rfl
theorem zv181 : zrV Tryz.prog 181 = some (.agg #[]) := by kernel_rfl
theorem zv203 : zrV Tryz.prog 203 = some (.agg #[.int .i64 0]) := by kernel_rfl
end Go.Proofs.YtofklkbfkoliiaaGreat
namespace Go.Proofs.YtofklkbfkoliiaaGreat
set_option linter.unusedVariables false
set_option linter.unusedSimpArgs false
open Go.RowKit
theorem uJ (v : Vec) : DFun Tryz.prog 42 [.val (.agg (c9 v).toArray)] [] (.val (.int .i64 (wg (vB v) 230))) [] := by
 refine zap (N := 24) 0 (by kernel_rfl) Tryz.func42 rfl rfl rfl (by simp only [fr0, qau, qaw]; exact rfl) rfl fun s0 hs0 => ?_
 refine zae ?_
 refine zam 1 ?_
 refine zac ?_
 refine zaj rfl (gC 0 rfl (ev1 rfl) rfl) ?_
 refine zaa 1 rfl ?_
 refine zab ?_
 refine zae ?_
 refine zah ?_
 refine za rfl (kv rfl gK (ev1 rfl) rfl rfl) ?_
 refine za rfl (wU rfl ar27 xA) ?_
 refine za rfl (vv eq27 rfl gd27 gK (ev1 rfl) (ev1 rfl)) ?_
 refine zab ?_
 refine qe rfl (fun c1 => ?_) (fun c1 => ?_)
 ·refine zah ?_
  refine zaa 1 rfl ?_
  refine zab ?_
  refine qb ?_
  refine qx (rs1 rfl (qJ rfl)) rfl ?_
  rw [Ap c1]
  rfl
 ·refine zao ?_
  refine zae ?_
  refine zah ?_
  refine za rfl (kv rfl gK (ev1 rfl) rfl rfl) ?_
  refine zaa 1 rfl ?_
  refine zab ?_
  refine zas ?_
  refine qI ⟨hs0, rfl⟩ (α := Nat) (fun k => [(9, .val (.int .i64 (k : Int)))]) [(8, _)] (fun k => []) [_] (fun k => k ≤ 9 ∧ ∀ i, i < k → Gk v i) (fun k => 9 - k) 0 [0] (⟨by omega, fun i hi => absurd hi (by omega)⟩) rfl ⟨rfl, trivial⟩ ⟨rfl, trivial⟩ ⟨rfl, trivial⟩ ?_
  intro k hx
  simp only [upd, zad, zaf, qaE, qaH]
  obtain ⟨hk, he⟩ := hx
  refine zah ?_
  refine za rfl (qA rfl (ev1 rfl) (ev1 rfl)) ?_
  refine zab ?_
  refine zae ?_
  refine qe rfl (fun c2 => ?_) (fun c2 => ?_)
  ·try simp only [decide_eq_true_eq, decide_eq_false_iff_not, beq_iff_eq, bne_iff_ne, beq_eq_false_iff_ne, bne_eq_false_iff_eq, qaz, qaA, qav, qaB, qax, ne_eq, Decidable.not_not, qaQ, qaR] at c2
   refine zao ?_
   refine zae ?_
   refine zas ?_
   refine zah ?_
   refine zaa 1 rfl ?_
   refine za rfl (Ai (k) rfl aw27 (ev1 rfl) (ev1 rfl) (fun _ => rfl) (by omega) (c9_at v _ (by omega))) ?_
   refine zaa 2 rfl ?_
   refine zab ?_
   refine zah ?_
   refine zaa 1 rfl ?_
   refine za rfl (kE rfl (ev1 rfl) (ev1 rfl)) ?_
   refine zaa 1 rfl ?_
   refine zak (qm rfl rfl rfl) rfl rfl rfl (zal (.inl rfl) (ev1 rfl)) ?_
   refine zak (qm rfl rfl rfl) rfl rfl rfl (qv rfl (ev2 rfl) (ev1 rfl)) ?_
   refine zak (qm rfl rfl rfl) rfl rfl rfl (zal (.inl rfl) (ev2 rfl)) ?_
   refine zak (jo rfl rfl rfl) rfl rfl rfl (zal (.inl rfl) (ev1 rfl)) ?_
   refine zak (jo rfl rfl rfl) rfl rfl rfl (kE rfl (ev2 rfl) (ev1 rfl)) ?_
   refine zak (qm rfl rfl rfl) rfl rfl rfl (q0 rfl (ev2 rfl) (ev2 rfl)) ?_
   refine za rfl (kA rfl (ev1 rfl) (ev3 rfl id)) ?_
   refine zab ?_
   refine qe rfl (fun c2 => ?_) (fun c2 => ?_)
   ·try simp only [decide_eq_true_eq, decide_eq_false_iff_not, beq_iff_eq, bne_iff_ne, beq_eq_false_iff_ne, bne_eq_false_iff_eq, qaz, qaA, qav, qaB, qax, ne_eq, Decidable.not_not, qaQ, qaR] at c2
    refine zah ?_
    refine zaa 1 rfl ?_
    refine zab ?_
    refine qb ?_
    refine qx (rs1 rfl (qJ rfl)) rfl ?_
    rw [vB_no (i := k) (by omega) (fun h => by unfold Gk at h; omega)]
    rfl
   ·try simp only [decide_eq_true_eq, decide_eq_false_iff_not, beq_iff_eq, bne_iff_ne, beq_eq_false_iff_ne, bne_eq_false_iff_eq, qaz, qaA, qav, qaB, qax, ne_eq, Decidable.not_not, qaQ, qaR] at c2
    have hov : Gk v k := ⟨by simp at c2; omega, fun e => by simp at c2; omega⟩
    refine zao ?_
    refine zac ?_
    refine za rfl (qh rfl (ev1 rfl) (ev1 rfl) (fun _ => qaC _ (by omega))) ?_
    refine zaa 1 rfl ?_
    refine zab ?_
    refine ⟨k + 1, [0], ⟨by omega, Vi he hov⟩, by simp only []; omega, rfl, ⟨rfl, rfl, trivial⟩, ⟨rfl, trivial⟩⟩
  ·try simp only [decide_eq_true_eq, decide_eq_false_iff_not, beq_iff_eq, bne_iff_ne, beq_eq_false_iff_ne, bne_eq_false_iff_eq, qaz, qaA, qav, qaB, qax, ne_eq, Decidable.not_not, qaQ, qaR] at c2
   refine qr ?_
   refine zah ?_
   refine zaa 1 rfl ?_
   refine zab ?_
   refine qb ?_
   refine qx (rs1 rfl (qJ rfl)) rfl ?_
   rw [vB_all.2 fun i hi => he i (by omega)]
   rfl
end Go.Proofs.YtofklkbfkoliiaaGreat
namespace Go.Proofs.YtofklkbfkoliiaaGreat
set_option linter.unusedVariables false
set_option linter.unusedSimpArgs false
open Go.RowKit
theorem Au (n : Int) : DFun Tryz.prog 106 [.val (.int .i64 n)] [] (.val (.bool (isW n))) [] := by
 refine zap (N := 9) 0 (by kernel_rfl) Tryz.func106 rfl rfl rfl (by simp only [fr0, qau, qaw]; exact rfl) rfl fun s0 hs0 => ?_
 refine zah ?_
 refine zaa 1 rfl ?_
 refine zab ?_
 refine zah ?_
 refine zaa 1 rfl ?_
 refine za rfl (jY rfl (ev1 rfl) (ev1 rfl)) ?_
 refine zaa 1 rfl ?_
 refine zak (qz rfl rfl rfl) rfl rfl rfl (zal (.inl rfl) (ev1 rfl)) ?_
 refine zak (qz rfl rfl rfl) rfl rfl rfl (yD rfl (ev2 rfl) (ev1 rfl)) ?_
 refine za rfl (q0 rfl (ev1 rfl) (ev3 rfl id)) ?_
 refine zaa 1 rfl ?_
 refine zab ?_
 refine qb ?_
 refine qx (rs1 rfl (qJ rfl)) rfl ?_
 rfl
theorem Av (l : List Int) : DFun Tryz.prog 105 [.slf 1 (l).length ((l).flatMap ic), .fn (.func 106) [] []] [] (.val (.bool (l.all isW))) [] := by
 refine zap (N := 18) 0 (by kernel_rfl) Tryz.func105 rfl rfl rfl (by simp only [fr0, qau, qaw]; exact rfl) rfl fun s0 hs0 => ?_
 refine kG (t := 0) rfl fun hl0 hL0 => ?_
 refine zah ?_
 refine zaa 1 rfl ?_
 refine zab ?_
 refine zae ?_
 refine zah ?_
 refine zaa 1 rfl ?_
 refine za rfl (qt rfl y6 (ev1 rfl)) ?_
 refine zaa 1 rfl ?_
 refine zab ?_
 refine zas ?_
 refine qI ⟨hs0, rfl⟩ (α := Nat) (fun k => [(9, .val (.int .i64 (k : Int)))]) [(1, _), (7, _), (8, _)] (fun k => []) [] (fun k => k ≤ l.length ∧ l.all isW = (l.drop k).all isW) (fun k => l.length - k) 0 [] (by simp) rfl ⟨rfl, rfl, rfl, trivial⟩ ⟨rfl, trivial⟩ trivial ?_
 intro k hx
 simp only [upd, zad, zaf, qaE, qaH]
 obtain ⟨hk, he⟩ := hx
 refine zah ?_
 refine za rfl (qA rfl (ev1 rfl) (ev1 rfl)) ?_
 refine zab ?_
 refine zae ?_
 refine qe rfl (fun c1 => ?_) (fun c1 => ?_)
 ·try simp only [decide_eq_true_eq, decide_eq_false_iff_not, beq_iff_eq, bne_iff_ne, beq_eq_false_iff_ne, bne_eq_false_iff_eq, qaz, qaA, qav, qaB, qax, ne_eq, Decidable.not_not, qaQ, qaR] at c1
  refine zao ?_
  refine zae ?_
  refine zas ?_
  refine zah ?_
  refine za rfl (qP (j := k) rfl y6 (ev1 rfl) (ev1 rfl) (fun _ => rfl) (by decide) (by omega) (by omega)) ?_
  refine za rfl (qS rfl tb3 (ev1 rfl) rfl) ?_
  refine zaa 1 rfl ?_
  refine zab ?_
  refine zah ?_
  refine zaa 2 rfl ?_
  refine za rfl (zai [] [] [] rfl (ev1 rfl) (ec (ev1 rfl) en) rfl rfl (Au _) rfl rfl rfl rfl rfl rfl) ?_
  refine za rfl (ko rfl (ev1 rfl)) ?_
  refine zab ?_
  refine qe rfl (fun c2 => ?_) (fun c2 => ?_)
  ·refine zah ?_
   refine zaa 1 rfl ?_
   refine zab ?_
   refine qb ?_
   refine qx (rs1 rfl (qJ rfl)) rfl ?_
   rw [he, List.drop_eq_getElem_cons (show k < l.length by omega), List.all_cons, bn_t c2]; rfl
  ·refine zao ?_
   refine zac ?_
   refine za rfl (qh rfl (ev1 rfl) (ev1 rfl) (fun _ => qaC _ (by omega))) ?_
   refine zaa 1 rfl ?_
   refine zab ?_
   refine ⟨k + 1, [], ⟨by omega, by rw [he, List.drop_eq_getElem_cons (show k < l.length by omega), List.all_cons, bn_f c2, Bool.true_and]⟩, by simp only []; omega, rfl, ⟨rfl, rfl, rfl, rfl, trivial⟩, trivial⟩
 ·try simp only [decide_eq_true_eq, decide_eq_false_iff_not, beq_iff_eq, bne_iff_ne, beq_eq_false_iff_ne, bne_eq_false_iff_eq, qaz, qaA, qav, qaB, qax, ne_eq, Decidable.not_not, qaQ, qaR] at c1
  refine qr ?_
  refine zah ?_
  refine zaa 1 rfl ?_
  refine zab ?_
  refine qb ?_
  refine qx (rs1 rfl (qJ rfl)) rfl ?_
  rw [he, List.drop_of_length_le (by omega)]; rfl
theorem vg (l : List Int) (h : l.all isW = true) : DFun Tryz.prog 82 [.slf 1 (l).length ((l).flatMap ic)] [] (.tup []) [] := by
 refine zap (N := 7) 0 (by kernel_rfl) Tryz.func82 rfl rfl rfl (by simp only [fr0, qau, qaw]; exact rfl) rfl fun s0 hs0 => ?_
 refine kG (t := 0) rfl fun hl0 hL0 => ?_
 refine zah ?_
 refine zaa 1 rfl ?_
 refine za rfl (zai [] [] [] rfl (ev1 rfl) (ec (ev1 rfl) (ec (ev1 rfl) en)) rfl rfl (Av _) rfl rfl rfl rfl rfl rfl) ?_
 refine za rfl (ko rfl (ev1 rfl)) ?_
 refine zab ?_
 refine qc rfl (by rw [h]; rfl) ?_
 refine zao ?_
 refine qx (qF rfl) rfl ?_
 rfl
theorem X1 (w : Nat) (h : 1 ≤ w ∧ w ≤ 8) (n : Int) : DFun Tryz.prog 107 [.val (.int .i64 (w : Int)), .val (.int .u64 n)] [] (.val (.bool (Kz w n))) [] := by
 refine zap (N := 14) 0 (by kernel_rfl) Tryz.func107 rfl rfl rfl (by simp only [fr0, qau, qaw]; exact rfl) rfl fun s0 hs0 => ?_
 refine zah ?_
 refine zaa 1 rfl ?_
 refine zab ?_
 refine zah ?_
 refine zaa 1 rfl ?_
 refine za rfl (qv rfl (ev1 rfl) (ev1 rfl)) ?_
 refine zaa 1 rfl ?_
 refine zak (qm rfl rfl rfl) rfl rfl rfl (zal (.inl rfl) (ev1 rfl)) ?_
 refine zak (qm rfl rfl rfl) rfl rfl rfl (zal (.inl rfl) (ev1 rfl)) ?_
 refine zak (qm rfl rfl rfl) rfl rfl rfl (jp rfl (ev1 rfl) (ev2 rfl) (fun hp => qaC _ (by first | omega | (simp at hp; omega)))) ?_
 refine zak (qm rfl rfl rfl) rfl rfl rfl (Wt (8 * w) rfl (ev2 rfl) (ev2 rfl) (fun _ => ⟨by omega, by simp [IntKind.bits]; omega⟩)) ?_
 refine zak (qm rfl rfl rfl) rfl rfl rfl (qv rfl (ev2 rfl) (ev1 rfl)) ?_
 refine za rfl (kA rfl (ev1 rfl) (ev3 rfl id)) ?_
 refine zaa 1 rfl ?_
 refine zab ?_
 refine qb ?_
 refine qx (rs1 rfl (qJ rfl)) rfl ?_
 rw [D.val.injEq, Value.bool.injEq]
 unfold Kz
 congr 1
 rw [Bool.eq_iff_iff]; simp; omega
theorem W9 (w : Nat) (h : 1 ≤ w ∧ w ≤ 8) (n : Int) (hf : Kz w n = true) : DFun Tryz.prog 84 [.val (.int .i64 (w : Int)), .val (.int .u64 n)] [] (.slf 1 (vG w n).length ((vG w n).flatMap uc8)) [] := by
 refine zap (N := 28) 0 (by kernel_rfl) Tryz.func84 rfl rfl rfl (by simp only [fr0, qau, qaw]; exact rfl) rfl fun s0 hs0 => ?_
 refine zah ?_
 refine zaa 1 rfl ?_
 refine zab ?_
 refine zae ?_
 refine zah ?_
 refine zaa 2 rfl ?_
 refine za rfl (zai [] [] [] rfl (ev1 rfl) (ec (ev1 rfl) (ec (ev1 rfl) en)) rfl rfl (X1 _ (by assumption) _) rfl rfl rfl rfl rfl rfl) ?_
 refine za rfl (ko rfl (ev1 rfl)) ?_
 refine zab ?_
 refine qc rfl (by rw [hf]; rfl) ?_
 refine zao ?_
 refine zae ?_
 refine zam 1 ?_
 refine zac ?_
 refine zaj rfl (zan 0 rfl zr168 rfl) ?_
 refine zab ?_
 refine zae ?_
 refine zah ?_
 refine zaa 1 rfl ?_
 refine zab ?_
 refine zas ?_
 refine qI ⟨hs0, rfl⟩ (α := Nat) (fun k => [(13, .val (.int .i64 (k : Int)))]) [(0, _), (1, _), (5, _)] (fun k => [(0, .flat 168 ((Vj n k).flatMap uc8))]) [.hole] (fun k => k ≤ 8) (fun k => 8 - k) 0 [0] (by simp) rfl ⟨rfl, rfl, rfl, trivial⟩ ⟨rfl, trivial⟩ ⟨rfl, trivial⟩ ?_
 intro k hx
 simp only [upd, zad, zaf, qaE, qaH]
 have hk := hx
 refine zah ?_
 refine za rfl (qA rfl (ev1 rfl) (ev1 rfl)) ?_
 refine zab ?_
 refine zae ?_
 refine qe rfl (fun c2 => ?_) (fun c2 => ?_)
 ·try simp only [decide_eq_true_eq, decide_eq_false_iff_not, beq_iff_eq, bne_iff_ne, beq_eq_false_iff_ne, bne_eq_false_iff_eq, qaz, qaA, qav, qaB, qax, ne_eq, Decidable.not_not, qaQ, qaR] at c2
  refine zao ?_
  refine zae ?_
  refine zas ?_
  refine zah ?_
  refine zaa 2 rfl ?_
  refine zab ?_
  refine zac ?_
  refine zaa 1 rfl ?_
  refine za rfl (jJ rfl (ev1 rfl) (ev1 rfl) (fun _ => qaC _ (by omega))) ?_
  refine zaa 2 rfl ?_
  refine za rfl (jp rfl (ev1 rfl) (ev1 rfl) (fun _ => qaC _ (by omega))) ?_
  refine za rfl (Wt (8 * k) rfl (ev1 rfl) (ev1 rfl) (fun _ => ⟨by omega, by simp [IntKind.bits]; omega⟩)) ?_
  refine za rfl (K1 ty25 kn5 rfl (ev1 rfl)) ?_
  refine za rfl (yn (j := 7 - k) rfl Hg (ev1 rfl) (ev1 rfl) (fun _ => by omega) (fun _ => by omega)) ?_
  refine zar rfl (xM (q := IntKind.u8.wrap (n / 2 ^ (8 * k))) rfl tb5 (ev1 rfl) (ev1 rfl) rfl rfl rfl (fun _ => rfl) (fun _ => by first | omega | (rw [uI]; omega))) ?_
  refine zab ?_
  refine zac ?_
  refine za rfl (qh rfl (ev1 rfl) (ev1 rfl) (fun _ => qaC _ (by omega))) ?_
  refine zaa 1 rfl ?_
  refine zab ?_
  refine ⟨k + 1, [0], by omega, by simp only []; omega, rfl, ⟨rfl, rfl, rfl, rfl, trivial⟩, ⟨rfl, trivial⟩⟩
 ·try simp only [decide_eq_true_eq, decide_eq_false_iff_not, beq_iff_eq, bne_iff_ne, beq_eq_false_iff_ne, bne_eq_false_iff_eq, qaz, qaA, qav, qaB, qax, ne_eq, Decidable.not_not, qaQ, qaR] at c2
  refine qr ?_
  refine zae ?_
  refine J6 ⟨hs0, rfl⟩ [] [0] [(0, _), (5, _)] [] rfl ⟨rfl, rfl, trivial⟩ trivial ?_
  refine zac ?_
  refine zaa 1 rfl ?_
  refine za rfl (jJ rfl (ev1 rfl) (ev1 rfl) (fun _ => qaC _ (by omega))) ?_
  refine za rfl (Wu (8 - w) rfl Hg (ev1 rfl) (ev1 rfl) (ev1 rfl) (ev1 rfl) (fun _ => by omega) (fun _ => rfl) (fun _ => rfl) (fun _ => by omega) ((uI _ _)) (by decide) (fun _ => rfl)) ?_
  refine zaa 1 rfl ?_
  refine zab ?_
  refine qb ?_
  refine qx (rs1 rfl (qJ rfl)) rfl ?_
  obtain rfl : k = 8 := by omega
  rfl
end Go.Proofs.YtofklkbfkoliiaaGreat
namespace Go.Proofs.YtofklkbfkoliiaaGreat
set_option linter.unusedVariables false
set_option linter.unusedSimpArgs false
open Go.RowKit
theorem Aw (l1 l2 : List Int) (h : l1.length + l2.length ≤ 100000) : DFun Tryz.prog 126 [.slm 1 2 [.slf 1 (l1).length ((l1).flatMap uc8), .slf 1 (l2).length ((l2).flatMap uc8)]] [] (.arr 0) [.arr 5 1 (l1 ++ l2).length ((l1 ++ l2).flatMap uc8)] := by
 refine zap (N := 38) 0 (by kernel_rfl) Tryz.func126 rfl rfl rfl (by simp only [fr0, qau, qaw]; exact rfl) rfl fun s0 hs0 => ?_
 refine ve (t := 0) rfl fun hl0 hL0 => ?_
 refine zah ?_
 refine zaa 1 rfl ?_
 refine zab ?_
 refine zah ?_
 refine zaa 1 rfl ?_
 refine zab ?_
 refine zae ?_
 refine zah ?_
 refine zaa 1 rfl ?_
 refine za rfl (jr rfl gJ (ev1 rfl)) ?_
 refine zaa 1 rfl ?_
 refine zab ?_
 refine zas ?_
 refine jS (kp ?_)
 refine zah ?_
 refine za rfl (qA rfl (ev1 rfl) (ev1 rfl)) ?_
 refine zab ?_
 refine zae ?_
 refine qM rfl (rfl) ?_
 refine zao ?_
 refine zae ?_
 refine zas ?_
 refine zah ?_
 refine za rfl (vC (0) rfl gJ (ev1 rfl) (ev1 rfl) (fun _ => rfl) rfl) ?_
 refine za rfl (gE rfl kC (ev1 rfl) rfl) ?_
 refine zaa 1 rfl ?_
 refine zab ?_
 refine zac ?_
 refine zaa 2 rfl ?_
 refine za rfl (qt rfl qu (ev1 rfl)) ?_
 refine za rfl (qh rfl (ev1 rfl) (ev1 rfl) (fun _ => qaC _ (by omega))) ?_
 refine zaa 1 rfl ?_
 refine zab ?_
 refine zac ?_
 refine za rfl (qh rfl (ev1 rfl) (ev1 rfl) (fun _ => qaC _ (by omega))) ?_
 refine zaa 1 rfl ?_
 refine zab ?_
 refine kp ?_
 refine zah ?_
 refine za rfl (qA rfl (ev1 rfl) (ev1 rfl)) ?_
 refine zab ?_
 refine zae ?_
 refine qM rfl (rfl) ?_
 refine zao ?_
 refine zae ?_
 refine zas ?_
 refine zah ?_
 refine za rfl (vC (1) rfl gJ (ev1 rfl) (ev1 rfl) (fun _ => rfl) rfl) ?_
 refine za rfl (gE rfl kC (ev1 rfl) rfl) ?_
 refine zaa 1 rfl ?_
 refine zab ?_
 refine zac ?_
 refine zaa 2 rfl ?_
 refine za rfl (qt rfl qu (ev1 rfl)) ?_
 refine za rfl (qh rfl (ev1 rfl) (ev1 rfl) (fun _ => qaC _ (by omega))) ?_
 refine zaa 1 rfl ?_
 refine zab ?_
 refine zac ?_
 refine za rfl (qh rfl (ev1 rfl) (ev1 rfl) (fun _ => qaC _ (by omega))) ?_
 refine zaa 1 rfl ?_
 refine zab ?_
 refine kp ?_
 refine zah ?_
 refine za rfl (qA rfl (ev1 rfl) (ev1 rfl)) ?_
 refine zab ?_
 refine zae ?_
 refine qc rfl (rfl) ?_
 refine qr ?_
 refine zae ?_
 refine zam 1 ?_
 refine zac ?_
 refine zaa 1 rfl ?_
 refine zaj rfl (HZ 0 (l1.length + l2.length) (.int .u8 0) rfl qu zr5 (ev1 rfl) (ev1 rfl) (fun _ => by omega) (fun _ => by omega) rfl (fun _ => by omega)) ?_
 refine zaa 1 rfl ?_
 refine zab ?_
 refine zah ?_
 refine zaa 1 rfl ?_
 refine zab ?_
 refine zae ?_
 refine zah ?_
 refine zaa 1 rfl ?_
 refine za rfl (jr rfl gJ (ev1 rfl)) ?_
 refine zaa 1 rfl ?_
 refine zab ?_
 refine zas ?_
 refine jS (kp ?_)
 refine zah ?_
 refine za rfl (qA rfl (ev1 rfl) (ev1 rfl)) ?_
 refine zab ?_
 refine zae ?_
 refine qM rfl (rfl) ?_
 refine zao ?_
 refine zae ?_
 refine zas ?_
 refine zah ?_
 refine za rfl (vC (0) rfl gJ (ev1 rfl) (ev1 rfl) (fun _ => rfl) rfl) ?_
 refine za rfl (gE rfl kC (ev1 rfl) rfl) ?_
 refine zaa 1 rfl ?_
 refine zab ?_
 refine zac ?_
 refine zaa 3 rfl ?_
 refine za rfl (Wc rfl qu (ev1 rfl) rfl (kB (ev1 rfl)) uw (fun _ => by omega)) ?_
 refine zaa 1 rfl ?_
 refine zaj rfl (Wr rfl qu (ev1 rfl) (ev1 rfl) yS rfl (fun _ => ym (fun _ => rfl) _)) ?_
 refine za rfl (qh rfl (ev1 rfl) (ev1 rfl) (fun _ => qaC _ (by omega))) ?_
 refine zaa 1 rfl ?_
 refine zab ?_
 refine zac ?_
 refine za rfl (qh rfl (ev1 rfl) (ev1 rfl) (fun _ => qaC _ (by omega))) ?_
 refine zaa 1 rfl ?_
 refine zab ?_
 refine kp ?_
 refine zah ?_
 refine za rfl (qA rfl (ev1 rfl) (ev1 rfl)) ?_
 refine zab ?_
 refine zae ?_
 refine qM rfl (rfl) ?_
 refine zao ?_
 refine zae ?_
 refine zas ?_
 refine zah ?_
 refine za rfl (vC (1) rfl gJ (ev1 rfl) (ev1 rfl) (fun _ => rfl) rfl) ?_
 refine za rfl (gE rfl kC (ev1 rfl) rfl) ?_
 refine zaa 1 rfl ?_
 refine zab ?_
 refine zac ?_
 refine zaa 3 rfl ?_
 refine za rfl (Wc rfl qu (ev1 rfl) rfl (kB (ev1 rfl)) uw (fun _ => by omega)) ?_
 refine zaa 1 rfl ?_
 refine zaj rfl (Wr rfl qu (ev1 rfl) (ev1 rfl) yS rfl (fun _ => ym (fun _ => rfl) _)) ?_
 refine za rfl (qh rfl (ev1 rfl) (ev1 rfl) (fun _ => qaC _ (by omega))) ?_
 refine zaa 1 rfl ?_
 refine zab ?_
 refine zac ?_
 refine za rfl (qh rfl (ev1 rfl) (ev1 rfl) (fun _ => qaC _ (by omega))) ?_
 refine zaa 1 rfl ?_
 refine zab ?_
 refine kp ?_
 refine zah ?_
 refine za rfl (qA rfl (ev1 rfl) (ev1 rfl)) ?_
 refine zab ?_
 refine zae ?_
 refine qc rfl (rfl) ?_
 refine qr ?_
 refine zah ?_
 refine zaa 2 rfl ?_
 refine zab ?_
 refine qb ?_
 refine qY [0] (rs1 rfl (qJ rfl)) rfl rfl ?_ ⟨?_, trivial⟩
 rfl
 exact vA (by simp; try omega) (beh2 _ _ _ _ _ _ (by omega) (by omega) (by omega) (by omega))
theorem Ax (l1 l2 : List Int) (h : l1.length + l2.length ≤ 100000) : DFun Tryz.prog 126 [.slm 1 2 [.slf 1 (l1).length ((l1).flatMap uc8), .slf 1 (l2).length ((l2).flatMap uc8)]] [] (.slf 1 (l1 ++ l2).length ((l1 ++ l2).flatMap uc8)) [] := y3 (Aw l1 l2 h) rfl
end Go.Proofs.YtofklkbfkoliiaaGreat
namespace Go.Proofs.YtofklkbfkoliiaaGreat
set_option linter.unusedVariables false
set_option linter.unusedSimpArgs false
open Go.RowKit
theorem vh : DFun Tryz.prog 81 [.val .nilIface] [] (.val (.int .i64 0)) [] := by
 refine zap (N := 13) 0 (by kernel_rfl) Tryz.func81 rfl rfl rfl (by simp only [fr0, qau, qaw]; exact rfl) rfl fun s0 hs0 => ?_
 refine zah ?_
 refine zaa 1 rfl ?_
 refine zab ?_
 refine zae ?_
 refine zae ?_
 refine zam 1 ?_
 refine zac ?_
 refine zaa 1 rfl ?_
 refine za rfl (K5 rfl W2 zv130 (ev1 rfl)) ?_
 refine zaa 3 rfl ?_
 refine zaj rfl (zan 0 rfl W5 rfl) ?_
 refine zar rfl (qQ rfl Hj (ev1 rfl) (ev1 rfl) rfl rfl rfl rfl) ?_
 refine zaa 1 rfl ?_
 refine zab ?_
 refine zah ?_
 refine zaa 1 rfl ?_
 refine zab ?_
 refine qc rfl (rfl) ?_
 refine zao ?_
 refine zah ?_
 refine zaa 1 rfl ?_
 refine zab ?_
 refine qb ?_
 refine qx (rs1 rfl (qJ rfl)) rfl ?_
 rfl
theorem xR (n : Int) : DFun Tryz.prog 81 [.ifc 130 (.val (.agg #[.int .i64 n]))] [] (.val (.int .i64 n)) [] := by
 refine zap (N := 13) 0 (by kernel_rfl) Tryz.func81 rfl rfl rfl (by simp only [fr0, qau, qaw]; exact rfl) rfl fun s0 hs0 => ?_
 refine zah ?_
 refine zaa 1 rfl ?_
 refine zab ?_
 refine zae ?_
 refine zae ?_
 refine zam 1 ?_
 refine zac ?_
 refine zaa 1 rfl ?_
 refine za rfl (K4 rfl W2 (ev1 rfl)) ?_
 refine zaa 3 rfl ?_
 refine zaj rfl (zan 0 rfl W5 rfl) ?_
 refine zar rfl (qQ rfl Hj (ev1 rfl) (ev1 rfl) rfl rfl rfl rfl) ?_
 refine zaa 1 rfl ?_
 refine zab ?_
 refine zah ?_
 refine zaa 1 rfl ?_
 refine zab ?_
 refine qM rfl (rfl) ?_
 refine zah ?_
 refine za rfl (qa rfl XZ (ev1 rfl)) ?_
 refine za rfl (qi rfl qT (ev1 rfl) rfl rfl) ?_
 refine zaa 1 rfl ?_
 refine zab ?_
 refine qb ?_
 refine qx (rs1 rfl (qJ rfl)) rfl ?_
 rfl
theorem YF (e : Int) : DDef Tryz.prog 125 [.loc 0 0] [.flat 34 [.int .i64 e]] none none [.flat 34 [.int .i64 0]] := by
 refine k5 (dr := .tup []) (t := 1) (N := 3) 1 (by kernel_rfl) Tryz.func125 rfl rfl rfl (by simp only [fr0, qau, qaw]; exact rfl) rfl rfl rfl rfl rfl fun s0 hs0 => ?_
 refine za rfl (zai [] [] [] rfl (ev1 rfl) (ec (ev1 rfl) en) rfl rfl (vh) rfl rfl rfl rfl rfl rfl) ?_
 refine zar rfl (qH rfl qT (ev1 rfl) (ev1 rfl) rfl) ?_
 refine zab ?_
 refine qY [0] (qF rfl) rfl rfl ?_ ⟨rfl, trivial⟩
 rfl
theorem X2 (l : List Int) (w : Nat) (n : Int) (hl : l.length ≤ 90000) (h : 1 ≤ w ∧ w ≤ 8) (hf : Kz w n = true) : DFun Tryz.prog 108 [.slf 1 l.length (l.flatMap uc8), .val (.int .i64 (w : Int)), .val (.int .u64 n)] [] (.tup [.slf 1 (l ++ vG w n).length ((l ++ vG w n).flatMap uc8), .val (.int .i64 0)]) [] := by
 refine qj (N := 18) 0 (by kernel_rfl) Tryz.func108 rfl rfl rfl (by simp only [fr0, qau, qaw]; exact rfl) rfl fun s0 hs0 => ?_
 refine qD rfl hs0 ?_
 refine zam 1 ?_
 refine zac ?_
 refine zaa 1 rfl ?_
 refine zaj rfl (zan 0 rfl jO rfl) ?_
 refine zab ?_
 refine qn (l0 := [_]) rfl rfl rfl rfl rfl hs0 ?_
 refine za rfl (qV rfl en (ec (ev1 rfl) en)) ?_
 refine zab ⟨_, _, _, 1, ev1 rfl, qaM hs0 (by decide), rfl, ?_⟩
 have hs1 : s0.M.length ≤ 1 := qaM hs0 (by decide)
 refine qC rfl hs0 ?_
 refine zah ?_
 refine zaa 1 rfl ?_
 refine za rfl (xo (ps := [(0, .tmp 9)]) rfl y6 zr3 rfl (vc (ev1 rfl) vn) rfl (by decide) (by decide)) ?_
 refine za rfl (zai [] [] [] rfl (ev1 rfl) (ec (ev1 rfl) en) rfl rfl (vg [(w : Int)] (by simp [Jk]; omega)) rfl rfl rfl rfl rfl rfl) ?_
 refine zab ?_
 refine zah ?_
 refine zaa 3 rfl ?_
 refine za rfl (zai [] [] [] rfl (ev1 rfl) (ec (ev1 rfl) (ec (ev1 rfl) en)) rfl rfl (W9 w h n hf) rfl rfl rfl rfl rfl rfl) ?_
 refine za rfl (Wv (ps := [(0, .tmp 12), (1, .tmp 15)]) rfl gJ W7 rfl (ec (ev1 rfl) (ec (ev1 rfl) en)) rfl (by decide)) ?_
 refine za rfl (zai [] [] [] rfl (ev1 rfl) (ec (ev1 rfl) en) rfl rfl (Ax _ _ (by rw [YD h.2]; omega)) rfl rfl rfl rfl rfl rfl) ?_
 refine zaa 1 rfl ?_
 refine zar rfl (qH rfl qT (ev1 rfl) (ev1 rfl) rfl) ?_
 refine zab ?_
 refine qb ?_
 refine jI (kF [0] [] rfl rfl (YF _) rfl rfl rfl rfl rfl) ?_
 refine qx (rs2 rfl (qJ rfl) (js qT rfl rfl rfl)) rfl ?_
 rfl
end Go.Proofs.YtofklkbfkoliiaaGreat
namespace Go.Proofs.YtofklkbfkoliiaaGreat
set_option linter.unusedVariables false
set_option linter.unusedSimpArgs false
open Go.RowKit
theorem Vp (T : TypeId) (l : List Int) (e : Int) (n : Nat) (h : n ≤ l.length) : DFun Tryz.prog 128 [.loc 0 0, .val (.int .i64 (n : Int))] [.mix T [.slf 1 (l).length ((l).flatMap uc8), .val (.int .i64 e)]] (.tup []) [.mix T [.slf 1 (l).length ((l).flatMap uc8), .val (.int .i64 e)]] := by
 refine zap (N := 13) 1 (by kernel_rfl) Tryz.func128 rfl rfl rfl (by simp only [fr0, qau, qaw]; exact rfl) rfl fun s0 hs0 => ?_
 refine zah ?_
 refine zaa 1 rfl ?_
 refine za rfl (qw rfl (ev1 rfl) (fun s v h => by cases h; exact ⟨_, rfl⟩)) ?_
 refine za rfl (qa rfl wA (ev1 rfl)) ?_
 refine za rfl (zaq rfl kC (ev1 rfl) rfl rfl) ?_
 refine za rfl (qt rfl qu (ev1 rfl)) ?_
 refine zaa 1 rfl ?_
 refine za rfl (qA rfl (ev1 rfl) (ev1 rfl)) ?_
 refine zab ?_
 refine qc rfl (decide_eq_false (by omega)) ?_
 refine zao ?_
 refine qY [0] (qF rfl) rfl rfl ?_ ⟨rfl, trivial⟩
 rfl
theorem Vq (T : TypeId) (l : List Int) (e : Int) (n : Nat) (h : l.length < n) : DPan Tryz.prog 128 [.loc 0 0, .val (.int .i64 (n : Int))] [.mix T [.slf 1 (l).length ((l).flatMap uc8), .val (.int .i64 e)]] (.ifc 130 (.val (.agg #[.int .i64 110]))) [.mix T [.slf 1 (l).length ((l).flatMap uc8), .val (.int .i64 e)]] := by
 refine zap (N := 13) 1 (by kernel_rfl) Tryz.func128 rfl rfl rfl (by simp only [fr0, qau, qaw]; exact rfl) rfl fun s0 hs0 => ?_
 refine zah ?_
 refine zaa 1 rfl ?_
 refine za rfl (qw rfl (ev1 rfl) (fun s v h => by cases h; exact ⟨_, rfl⟩)) ?_
 refine za rfl (qa rfl wA (ev1 rfl)) ?_
 refine za rfl (zaq rfl kC (ev1 rfl) rfl rfl) ?_
 refine za rfl (qt rfl qu (ev1 rfl)) ?_
 refine zaa 1 rfl ?_
 refine za rfl (qA rfl (ev1 rfl) (ev1 rfl)) ?_
 refine zab ?_
 refine qM rfl (decide_eq_true (by omega)) ?_
 refine zac ?_
 refine za rfl (kU (ps := [(0, .const (.int .i64 110))]) rfl fl130 W5 (vc (ev1 rfl) vn) rfl rfl) ?_
 refine za rfl (xq rfl W2 (ev1 rfl)) ?_
 refine qZ rfl (wb rfl (ev1 rfl)) rfl ?_
 refine K3 [0] rfl rfl ?_ ⟨rfl, trivial⟩
 rfl
theorem Ua (T : TypeId) (l : List Int) (e : Int) : DFun Tryz.prog 129 [.loc 0 0] [.mix T [.slf 1 (l).length ((l).flatMap uc8), .val (.int .i64 e)]] (.fn (.func 136) [] [.loc 1 0]) [.mix T [.slf 1 (l).length ((l).flatMap uc8), .val (.int .i64 e)], .mix 173 [.loc 0 0]] := by
 refine zap (N := 4) 1 (by kernel_rfl) Tryz.func129 rfl rfl rfl (by simp only [fr0, qau, qaw]; exact rfl) rfl fun s0 hs0 => ?_
 refine zae ?_
 refine zam 1 ?_
 refine zac ?_
 refine zaj rfl (ga 1 rfl (ev1 rfl) (fun s v h => by cases h <;> rfl) rfl) ?_
 refine zaa 1 rfl ?_
 refine zab ?_
 refine zah ?_
 refine za rfl (qV rfl en (ec (ev1 rfl) en)) ?_
 refine zaa 1 rfl ?_
 refine zab ?_
 refine qb ?_
 refine qY [0, 1] (rs1 rfl (qJ rfl)) rfl rfl ?_ ⟨rfl, rfl, trivial⟩
 rfl
noncomputable def Vr : Code := rfA (pth [1, 0, 1, 1, 1, 0, 1, 0] (y1 Tryz.f113))
noncomputable def Vs : Code := rfB (pth [1, 0, 1, 1, 1, 0, 1, 0] (y1 Tryz.f113))
theorem Gp (i w acc b : Int) (h : i ≠ w) : DRound Tryz.prog 0 [.val (.int .i64 i), .val (.int .u8 b)] [.lp none 24 [(3, .loc 1 0), (5, .loc 2 0)] #[13, 14] Vr Vs .ready none, .flat 3 [.int .i64 w], .flat 25 [.int .u64 acc]] true [.lp none 24 [(3, .loc 1 0), (5, .loc 2 0)] #[13, 14] Vr Vs .ready none, .flat 3 [.int .i64 w], .flat 25 [.int .u64 (Vk acc b)]] := by
 refine gb 3 rfl rfl (by simp) rfl rfl fun s0 hs0 => ?_
 refine zah ?_
 refine zaa 1 rfl ?_
 refine zab ?_
 refine zac ?_
 refine zaa 1 rfl ?_
 refine zab ?_
 refine ⟨rfl, ?_⟩
 simp only [zad, zaf]
 refine zas ?_
 refine zae ?_
 refine zah ?_
 refine zaa 1 rfl ?_
 refine za rfl (qi rfl tb3 (ev1 rfl) rfl rfl) ?_
 refine za rfl (qv rfl (ev1 rfl) (ev1 rfl)) ?_
 refine zab ?_
 refine qc rfl (by simp [h]) ?_
 refine zao ?_
 refine zac ?_
 refine za rfl (qi rfl ku (ev1 rfl) rfl rfl) ?_
 refine za rfl (H3 (8) rfl (ev1 rfl) (ev1 rfl) (fun _ => ⟨rfl, by decide⟩)) ?_
 refine zaa 1 rfl ?_
 refine za rfl (K1 ty5 kn25 rfl (ev1 rfl)) ?_
 refine za rfl (H4 rfl (ev1 rfl) (ev1 rfl)) ?_
 refine zar rfl (qH rfl ku (ev1 rfl) (ev1 rfl) rfl) ?_
 refine zab ?_
 refine ⟨by first | rfl | assumption | simp_all, rfl, [0, 1, 2], rfl, ⟨rfl, rfl, rfl, trivial⟩⟩
theorem z3 (i w acc b : Int) (h : i = w) : DRound Tryz.prog 0 [.val (.int .i64 i), .val (.int .u8 b)] [.lp none 24 [(3, .loc 1 0), (5, .loc 2 0)] #[13, 14] Vr Vs .ready none, .flat 3 [.int .i64 w], .flat 25 [.int .u64 acc]] false [.lp none 24 [(3, .loc 1 0), (5, .loc 2 0)] #[13, 14] Vr Vs .done (some (.exit 0)), .flat 3 [.int .i64 w], .flat 25 [.int .u64 acc]] := by
 refine gb 3 rfl rfl (by simp) rfl rfl fun s0 hs0 => ?_
 refine zah ?_
 refine zaa 1 rfl ?_
 refine zab ?_
 refine zac ?_
 refine zaa 1 rfl ?_
 refine zab ?_
 refine ⟨rfl, ?_⟩
 simp only [zad, zaf]
 refine zas ?_
 refine zae ?_
 refine zah ?_
 refine zaa 1 rfl ?_
 refine za rfl (qi rfl tb3 (ev1 rfl) rfl rfl) ?_
 refine za rfl (qv rfl (ev1 rfl) (ev1 rfl)) ?_
 refine zab ?_
 refine qM rfl (by simp [h]) ?_
 refine qr ?_
 refine ⟨by first | rfl | assumption | simp_all, rfl, [0, 1, 2], rfl, ⟨rfl, rfl, rfl, trivial⟩⟩
theorem YG (T : TypeId) (l : List Int) (hL : l.length ≤ 9223372036854775807) (e : Int) (w : Nat) : DFun Tryz.prog 136 [.yld 0, .loc 3 0] [.lp none 24 [(3, .loc 1 0), (5, .loc 2 0)] #[13, 14] Vr Vs .ready none, .flat 3 [.int .i64 (w : Int)], .flat 25 [.int .u64 0], .mix 173 [.loc 4 0], .mix T [.slf 1 (l).length ((l).flatMap uc8), .val (.int .i64 e)]] (.tup []) [.lp none 24 [(3, .loc 1 0), (5, .loc 2 0)] #[13, 14] Vr Vs (rst (decide (l.length ≤ w))) (rpe (.exit 0) (decide (l.length ≤ w))), .flat 3 [.int .i64 (w : Int)], .flat 25 [.int .u64 (ky w l)], .mix 173 [.loc 4 0], .mix T [.slf 1 (l).length ((l).flatMap uc8), .val (.int .i64 e)]] := by
 refine zap (N := 21) 5 (by kernel_rfl) Tryz.func136 rfl rfl rfl (by simp only [fr0, qau, qaw]; exact rfl) rfl fun s0 hs0 => ?_
 refine zah ?_
 refine za rfl (zaq rfl tb173 (ev1 rfl) rfl rfl) ?_
 refine za rfl (qw rfl (ev1 rfl) (fun s v h => by cases h; exact ⟨_, rfl⟩)) ?_
 refine za rfl (qa rfl wA (ev1 rfl)) ?_
 refine za rfl (zaq rfl kC (ev1 rfl) rfl rfl) ?_
 refine za rfl (qt rfl qu (ev1 rfl)) ?_
 refine zaa 1 rfl ?_
 refine zab ?_
 refine zas ?_
 refine qI ⟨hs0, rfl⟩ (α := Nat) (fun k => [(10, .val (.int .i64 (k : Int)))]) [(0, _), (8, _), (9, _)] (fun k => [(2, .flat 25 [.int .u64 (ky k l)])]) [_, _, .hole, _, _] (fun k => k ≤ l.length ∧ k ≤ w) (fun k => l.length - k) 0 [0, 1, 2, 3, 4] (by simp) rfl ⟨rfl, rfl, rfl, trivial⟩ ⟨rfl, trivial⟩ ⟨rfl, rfl, rfl, rfl, rfl, trivial⟩ ?_
 intro k hx
 simp only [upd, zad, zaf, qaE, qaH]
 obtain ⟨hk, hkw⟩ := hx
 refine zah ?_
 refine za rfl (qA rfl (ev1 rfl) (ev1 rfl)) ?_
 refine zab ?_
 refine zae ?_
 refine qe rfl (fun c1 => ?_) (fun c1 => ?_)
 ·try simp only [decide_eq_true_eq, decide_eq_false_iff_not, beq_iff_eq, bne_iff_ne, beq_eq_false_iff_ne, bne_eq_false_iff_eq, qaz, qaA, qav, qaB, qax, ne_eq, Decidable.not_not, qaQ, qaR] at c1
  refine zao ?_
  refine zae ?_
  refine zas ?_
  refine zah ?_
  refine zaa 1 rfl ?_
  refine za rfl (qP (j := k) rfl qu (ev1 rfl) (ev1 rfl) (fun _ => rfl) (by decide) (by omega) (by omega)) ?_
  refine za rfl (qS rfl tb5 (ev1 rfl) rfl) ?_
  refine zaa 2 rfl ?_
  refine zab ?_
  refine zae ?_
  by_cases hw : k = w
  ·refine zac ?_
   refine zaa 3 rfl ?_
   refine zaj rfl (u6 (i := 0) [0, 1, 2] [] [] rfl (ev1 rfl) (ec (ev1 rfl) (ec (ev1 rfl) en)) rfl rfl rfl (z3 _ _ _ _ (by omega)) rfl rfl rfl rfl rfl) ?_
   refine za rfl (ko rfl (ev1 rfl)) ?_
   refine zab ?_
   refine qM rfl (rfl) ?_
   refine qb ?_
   have e1 : decide (l.length ≤ w) = false := decide_eq_false (by omega)
   subst hw
   rw [e1]
   refine qY [0, 1, 2, 3, 4] (qF rfl) rfl rfl ?_ ⟨rfl, rfl, rfl, rfl, rfl, trivial⟩
   rfl
  ·refine zac ?_
   refine zaa 3 rfl ?_
   refine zaj rfl (u6 (i := 0) [0, 1, 2] [] [] rfl (ev1 rfl) (ec (ev1 rfl) (ec (ev1 rfl) en)) rfl rfl rfl (Gp _ _ _ _ (by omega)) rfl rfl rfl rfl rfl) ?_
   refine za rfl (ko rfl (ev1 rfl)) ?_
   refine zab ?_
   refine qc rfl (rfl) ?_
   refine zao ?_
   refine zac ?_
   refine za rfl (qh rfl (ev1 rfl) (ev1 rfl) (fun _ => qaC _ (by omega))) ?_
   refine zaa 1 rfl ?_
   refine zab ?_
   refine ⟨k + 1, [0, 1, 2, 3, 4], ⟨by omega, by omega⟩, by simp only []; omega, rfl, ⟨rfl, rfl, rfl, rfl, trivial⟩, ⟨rfl, rfl, by rw [Vl (by omega)]; rfl, rfl, rfl, trivial⟩⟩
 ·try simp only [decide_eq_true_eq, decide_eq_false_iff_not, beq_iff_eq, bne_iff_ne, beq_eq_false_iff_ne, bne_eq_false_iff_eq, qaz, qaA, qav, qaB, qax, ne_eq, Decidable.not_not, qaQ, qaR] at c1
  refine qr ?_
  have e1 : decide (l.length ≤ w) = true := decide_eq_true (by omega)
  have e2 : k = l.length := by omega
  rw [e1, WY (show l.length ≤ w by omega), e2]
  refine qY [0, 1, 2, 3, 4] (qF rfl) rfl rfl ?_ ⟨rfl, rfl, rfl, rfl, rfl, trivial⟩
  rfl
theorem X3 (T : TypeId) (l : List Int) (hL : l.length ≤ 9223372036854775807) (e : Int) (w : Nat) (h : w ≤ l.length) : DFun Tryz.prog 113 [.loc 0 0, .val (.int .i64 (w : Int))] [.mix T [.slf 1 (l).length ((l).flatMap uc8), .val (.int .i64 e)]] (.val (.int .u64 (ky w l))) [.mix T [.slf 1 (l).length ((l).flatMap uc8), .val (.int .i64 e)]] := by
 refine zap (N := 24) 1 (by kernel_rfl) Tryz.func113 rfl rfl rfl (by simp only [fr0, qau, qaw]; exact rfl) rfl fun s0 hs0 => ?_
 refine zae ?_
 refine zam 1 ?_
 refine zac ?_
 refine zaj rfl (gD 1 rfl (ev1 rfl) rfl) ?_
 refine zaa 1 rfl ?_
 refine zab ?_
 refine Ko ?_
 refine zah ?_
 refine zaa 1 rfl ?_
 refine za rfl (qi rfl tb3 (ev1 rfl) rfl rfl) ?_
 refine zaj rfl (zai [0] [] [] rfl (ev1 rfl) (ec (ev1 rfl) (ec (ev1 rfl) en)) rfl rfl (Vp _ _ _ w h) rfl rfl rfl rfl rfl rfl) ?_
 refine zab ?_
 refine zae ?_
 refine zam 1 ?_
 refine zac ?_
 refine zaj rfl (zan 2 rfl zr25 rfl) ?_
 refine zar rfl (qH rfl ku (ev1 rfl) (ev1 rfl) rfl) ?_
 refine zab ?_
 refine zae ?_
 refine gR ?_
 refine zae ?_
 refine zae ?_
 refine zam 1 ?_
 refine zac ?_
 refine zaa 1 rfl ?_
 refine zaj rfl (zai [0] [] [3] rfl (ev1 rfl) (ec (ev1 rfl) en) rfl rfl (Ua _ _ _) rfl rfl rfl rfl rfl rfl) ?_
 refine zab ?_
 refine zas ?_
 refine jL ?_
 simp only [qaE, qaH]
 refine u7 (FL := [(3, _), (5, _)]) (st := (rst (decide (l.length ≤ w)))) (pe := (rpe (.exit 0) (decide (l.length ≤ w)))) [4, 1, 2, 3, 0] [] [] 4 rfl rfl (ev1 rfl) rfl (yl ⟨rfl, rfl, trivial⟩) rfl rfl rfl (YG _ l hL e w) rfl rfl rfl rfl rfl rfl rfl (Wn _) (fun e => ?_) (fun c e => ?_)
 ·simp only [upd, zad, zaf]
  refine zah ?_
  refine za rfl (qi rfl ku (ev1 rfl) rfl rfl) ?_
  refine zaa 1 rfl ?_
  refine zab ?_
  refine qb ?_
  refine qY [0] (rs1 rfl (qJ rfl)) rfl rfl ?_ ⟨rfl, trivial⟩
  rfl
 ·obtain ⟨e1, rfl⟩ : decide (l.length ≤ w) = false ∧ c = .exit 0 := by
   cases h : decide (l.length ≤ w) <;> simp_all [rpe]
  simp only [upd, zad, zaf]
  refine qr ?_
  refine zah ?_
  refine za rfl (qi rfl ku (ev1 rfl) rfl rfl) ?_
  refine zaa 1 rfl ?_
  refine zab ?_
  refine qb ?_
  refine qY [0] (rs1 rfl (qJ rfl)) rfl rfl ?_ ⟨rfl, trivial⟩
  rfl
theorem KD (T : TypeId) (l : List Int) (hL : l.length ≤ 9223372036854775807) (e : Int) (w : Nat) (h : w ≤ l.length) : DFun Tryz.prog 92 [.loc 0 0, .val (.int .i64 (w : Int))] [.mix T [.slf 1 (l).length ((l).flatMap uc8), .val (.int .i64 e)]] (.val (.int .u64 (ky w l))) [.mix T [.slf 1 (l.drop w).length ((l.drop w).flatMap uc8), .val (.int .i64 e)]] := by
 refine zap (N := 19) 1 (by kernel_rfl) Tryz.func92 rfl rfl rfl (by simp only [fr0, qau, qaw]; exact rfl) rfl fun s0 hs0 => ?_
 refine zah ?_
 refine zaa 1 rfl ?_
 refine zab ?_
 refine zah ?_
 refine zaa 2 rfl ?_
 refine zaj rfl (zai [0] [] [] rfl (ev1 rfl) (ec (ev1 rfl) (ec (ev1 rfl) en)) rfl rfl (X3 _ _ hL _ w h) rfl rfl rfl rfl rfl rfl) ?_
 refine zaa 1 rfl ?_
 refine zab ?_
 refine zah ?_
 refine zaa 2 rfl ?_
 refine za rfl (qw rfl (ev1 rfl) (fun s v h => by cases h; exact ⟨_, rfl⟩)) ?_
 refine za rfl (qa rfl wA (ev1 rfl)) ?_
 refine za rfl (zaq rfl kC (ev1 rfl) rfl rfl) ?_
 refine zaa 1 rfl ?_
 refine za rfl (gG (i := w) rfl qu (ev1 rfl) (kB (ev1 rfl)) (fun _ => by omega) (fun _ => by omega) (fun _ => rfl)) ?_
 refine za rfl (qw rfl (ev1 rfl) (fun s v h => by cases h; exact ⟨_, rfl⟩)) ?_
 refine za rfl (qa rfl wA (ev1 rfl)) ?_
 refine zar rfl (kL rfl kC (ev1 rfl) (ev1 rfl) (fun s v h => by cases h <;> exact ⟨rfl, rfl⟩) rfl (by first | decide | exact qaF rfl | simp)) ?_
 refine zab ?_
 refine zah ?_
 refine zaa 2 rfl ?_
 refine zab ?_
 refine qb ?_
 refine qY [0] (rs1 rfl (qJ rfl)) rfl rfl ?_ ⟨rfl, trivial⟩
 rfl
theorem Ub (T : TypeId) (l : List Int) (e : Int) (w : Nat) (h : l.length < w) : DPan Tryz.prog 113 [.loc 0 0, .val (.int .i64 (w : Int))] [.mix T [.slf 1 (l).length ((l).flatMap uc8), .val (.int .i64 e)]] (.ifc 130 (.val (.agg #[.int .i64 110]))) [.mix T [.slf 1 (l).length ((l).flatMap uc8), .val (.int .i64 e)]] := by
 refine zap (N := 24) 1 (by kernel_rfl) Tryz.func113 rfl rfl rfl (by simp only [fr0, qau, qaw]; exact rfl) rfl fun s0 hs0 => ?_
 refine zae ?_
 refine zam 1 ?_
 refine zac ?_
 refine zaj rfl (gD 1 rfl (ev1 rfl) rfl) ?_
 refine zaa 1 rfl ?_
 refine zab ?_
 refine Ko ?_
 refine zah ?_
 refine zaa 1 rfl ?_
 refine za rfl (qi rfl tb3 (ev1 rfl) rfl rfl) ?_
 refine qZ rfl (qE [0] [] [] rfl (ev1 rfl) (ec (ev1 rfl) (ec (ev1 rfl) en)) rfl rfl (Vq _ _ _ w h) rfl rfl rfl rfl rfl rfl) rfl ?_
 refine K3 [0] rfl rfl ?_ ⟨rfl, trivial⟩
 rfl
theorem zB (T : TypeId) (l : List Int) (e : Int) (w : Nat) (h : l.length < w) : DPan Tryz.prog 92 [.loc 0 0, .val (.int .i64 (w : Int))] [.mix T [.slf 1 (l).length ((l).flatMap uc8), .val (.int .i64 e)]] (.ifc 130 (.val (.agg #[.int .i64 110]))) [.mix T [.slf 1 (l).length ((l).flatMap uc8), .val (.int .i64 e)]] := by
 refine zap (N := 19) 1 (by kernel_rfl) Tryz.func92 rfl rfl rfl (by simp only [fr0, qau, qaw]; exact rfl) rfl fun s0 hs0 => ?_
 refine zah ?_
 refine zaa 1 rfl ?_
 refine zab ?_
 refine zah ?_
 refine zaa 2 rfl ?_
 refine qZ rfl (qE [0] [] [] rfl (ev1 rfl) (ec (ev1 rfl) (ec (ev1 rfl) en)) rfl rfl (Ub _ _ _ w h) rfl rfl rfl rfl rfl rfl) rfl ?_
 refine K3 [0] rfl rfl ?_ ⟨rfl, trivial⟩
 rfl
end Go.Proofs.YtofklkbfkoliiaaGreat
namespace Go.Proofs.YtofklkbfkoliiaaGreat
set_option linter.unusedVariables false
set_option linter.unusedSimpArgs false
open Go.RowKit
theorem YH (w h : Int) : DFun Tryz.prog 78 [.val (.agg #[.int .i64 w, .int .i64 h])] [] (.val (.bool (gN w h))) [] := by
 refine zap (N := 21) 0 (by kernel_rfl) Tryz.func78 rfl rfl rfl (by simp only [fr0, qau, qaw]; exact rfl) rfl fun s0 hs0 => ?_
 refine zae ?_
 refine zam 1 ?_
 refine zac ?_
 refine zaj rfl (gC 0 rfl (ev1 rfl) rfl) ?_
 refine zaa 1 rfl ?_
 refine zab ?_
 refine zah ?_
 refine za rfl (qa rfl Jl (ev1 rfl)) ?_
 refine za rfl (qi rfl tb3 (ev1 rfl) rfl rfl) ?_
 refine za rfl (jY rfl (ev1 rfl) (ev1 rfl)) ?_
 refine zaa 1 rfl ?_
 refine zak (qz rfl rfl rfl) rfl rfl rfl (qa rfl Jl (ev1 rfl)) ?_
 refine zak (qz rfl rfl rfl) rfl rfl rfl (qi rfl tb3 (ev2 rfl) rfl rfl) ?_
 refine zak (qz rfl rfl rfl) rfl rfl rfl (yD rfl (ev2 rfl) (ev1 rfl)) ?_
 refine za rfl (q0 rfl (ev1 rfl) (ev3 rfl id)) ?_
 refine zaa 1 rfl ?_
 refine zak (qz rfl rfl rfl) rfl rfl rfl (qa rfl Jm (ev1 rfl)) ?_
 refine zak (qz rfl rfl rfl) rfl rfl rfl (qi rfl tb3 (ev2 rfl) rfl rfl) ?_
 refine zak (qz rfl rfl rfl) rfl rfl rfl (jY rfl (ev2 rfl) (ev1 rfl)) ?_
 refine za rfl (q0 rfl (ev1 rfl) (ev3 rfl id)) ?_
 refine zaa 1 rfl ?_
 refine zak (qz rfl rfl rfl) rfl rfl rfl (qa rfl Jm (ev1 rfl)) ?_
 refine zak (qz rfl rfl rfl) rfl rfl rfl (qi rfl tb3 (ev2 rfl) rfl rfl) ?_
 refine zak (qz rfl rfl rfl) rfl rfl rfl (yD rfl (ev2 rfl) (ev1 rfl)) ?_
 refine za rfl (q0 rfl (ev1 rfl) (ev3 rfl id)) ?_
 refine zaa 1 rfl ?_
 refine zab ?_
 refine qb ?_
 refine qx (rs1 rfl (qJ rfl)) rfl ?_
 unfold gN
 simp [Bool.and_assoc]
end Go.Proofs.YtofklkbfkoliiaaGreat
namespace Go.Proofs.YtofklkbfkoliiaaGreat
set_option linter.unusedVariables false
set_option linter.unusedSimpArgs false
open Go.RowKit
theorem Gq (w h : Int) (ts : List TL) : DFun Tryz.prog 41 [shD w h ts] [] (.val (.int .i64 (wg (jd w h ts) 150))) [] := by
 refine zap (N := 23) 0 (by kernel_rfl) Tryz.func41 rfl rfl rfl (by simp only [fr0, qau, qaw]; exact rfl) rfl fun s0 hs0 => ?_
 refine zae ?_
 refine zam 1 ?_
 refine zac ?_
 refine zaj rfl (qG 0 rfl (ev1 rfl) rfl) ?_
 refine zaa 1 rfl ?_
 refine zab ?_
 refine zae ?_
 refine zae ?_
 refine zam 1 ?_
 refine zac ?_
 refine za rfl (qa rfl y4 (ev1 rfl)) ?_
 refine za rfl (zaq rfl tb3 (ev1 rfl) rfl rfl) ?_
 refine za rfl (qa rfl y5 (ev1 rfl)) ?_
 refine za rfl (zaq rfl tb3 (ev1 rfl) rfl rfl) ?_
 refine za rfl (kU (ps := [(0, .tmp 5), (1, .tmp 7)]) rfl WZ KC (vc (ev1 rfl) (vc (ev1 rfl) vn)) rfl rfl) ?_
 refine zaj rfl (zan 1 rfl KC rfl) ?_
 refine zar rfl (qQ rfl zz (ev1 rfl) (ev1 rfl) rfl rfl rfl rfl) ?_
 refine zab ?_
 refine zah ?_
 refine za rfl (kv rfl zz (ev1 rfl) rfl rfl) ?_
 refine za rfl (zai [] [] [] rfl (ev1 rfl) (ec (ev1 rfl) en) rfl rfl (YH _ _) rfl rfl rfl rfl rfl rfl) ?_
 refine za rfl (ko rfl (ev1 rfl)) ?_
 refine zaa 1 rfl ?_
 refine zak (qm rfl rfl rfl) rfl rfl rfl (qa rfl yh (ev1 rfl)) ?_
 refine zak (qm rfl rfl rfl) rfl rfl rfl (zaq rfl xz (ev2 rfl) rfl rfl) ?_
 refine zak (qm rfl rfl rfl) rfl rfl rfl (qt rfl w4 (ev2 rfl)) ?_
 refine zak (qm rfl rfl rfl) rfl rfl rfl (qa rfl Jl (ev1 rfl)) ?_
 refine zak (qm rfl rfl rfl) rfl rfl rfl (qi rfl tb3 (ev2 rfl) rfl rfl) ?_
 refine zak (qm rfl rfl rfl) rfl rfl rfl (qa rfl Jm (ev1 rfl)) ?_
 refine zak (qm rfl rfl rfl) rfl rfl rfl (qi rfl tb3 (ev2 rfl) rfl rfl) ?_
 refine zak (qm rfl rfl rfl) rfl rfl rfl (V8 rfl (ev2 rfl) (ev2 rfl)) ?_
 refine zak (qm rfl rfl rfl) rfl rfl rfl (ka rfl (ev2 rfl) (ev2 rfl)) ?_
 refine za rfl (kA rfl (ev1 rfl) (ev3 rfl id)) ?_
 refine zab ?_
 refine qe rfl (fun c1 => ?_) (fun c1 => ?_)
 ·have hr : jd w h ts = false := by
   cases hm : gN w h with
   | false => unfold jd; rw [hm]; rfl
   | true =>
    have hb := wh hm
    rw [hm, qaC _ (by omega)] at c1
    simp at c1
    unfold jd
    rw [decide_eq_false (by omega)]
    exact Bool.and_false _
  refine zah ?_
  refine zaa 1 rfl ?_
  refine zab ?_
  refine qb ?_
  refine qx (rs1 rfl (qJ rfl)) rfl ?_
  rw [hr]
  rfl
 ·have hr : jd w h ts = true := by
   cases hm : gN w h with
   | false => rw [hm] at c1; simp at c1
   | true =>
    have hb := wh hm
    rw [hm, qaC _ (by omega)] at c1
    simp at c1
    unfold jd
    rw [hm, decide_eq_true (by omega)]
    rfl
  refine zao ?_
  refine zah ?_
  refine zaa 1 rfl ?_
  refine zab ?_
  refine qb ?_
  refine qx (rs1 rfl (qJ rfl)) rfl ?_
  rw [hr]
  rfl
theorem Ay (w h w2 h2 : Int) (ts us : List TL) (hn : ts.length ≤ 5000) : DFun Tryz.prog 44 [shD w h ts, shD w2 h2 us] [] (.val (.bool (decide (w = w2 ∧ h = h2 ∧ ts = us)))) [] := by
 refine zap (N := 44) 0 (by kernel_rfl) Tryz.func44 rfl rfl rfl (by simp only [fr0, qau, qaw]; exact rfl) rfl fun s0 hs0 => ?_
 refine zae ?_
 refine zam 2 ?_
 refine zac ?_
 refine zaj rfl (qG 0 rfl (ev1 rfl) rfl) ?_
 refine zaj rfl (qG 1 rfl (ev1 rfl) rfl) ?_
 refine zaa 1 rfl ?_
 refine zab ?_
 refine zae ?_
 refine zah ?_
 refine za rfl (qa rfl y4 (ev1 rfl)) ?_
 refine za rfl (zaq rfl tb3 (ev1 rfl) rfl rfl) ?_
 refine za rfl (qa rfl y4 (ev1 rfl)) ?_
 refine za rfl (zaq rfl tb3 (ev1 rfl) rfl rfl) ?_
 refine za rfl (ka rfl (ev1 rfl) (ev1 rfl)) ?_
 refine zaa 1 rfl ?_
 refine zak (qm rfl rfl rfl) rfl rfl rfl (qa rfl y5 (ev1 rfl)) ?_
 refine zak (qm rfl rfl rfl) rfl rfl rfl (zaq rfl tb3 (ev2 rfl) rfl rfl) ?_
 refine zak (qm rfl rfl rfl) rfl rfl rfl (qa rfl y5 (ev1 rfl)) ?_
 refine zak (qm rfl rfl rfl) rfl rfl rfl (zaq rfl tb3 (ev2 rfl) rfl rfl) ?_
 refine zak (qm rfl rfl rfl) rfl rfl rfl (ka rfl (ev2 rfl) (ev2 rfl)) ?_
 refine za rfl (kA rfl (ev1 rfl) (ev3 rfl id)) ?_
 refine zaa 1 rfl ?_
 refine zak (qm rfl rfl rfl) rfl rfl rfl (qa rfl yh (ev1 rfl)) ?_
 refine zak (qm rfl rfl rfl) rfl rfl rfl (zaq rfl xz (ev2 rfl) rfl rfl) ?_
 refine zak (qm rfl rfl rfl) rfl rfl rfl (qt rfl w4 (ev2 rfl)) ?_
 refine zak (qm rfl rfl rfl) rfl rfl rfl (qa rfl yh (ev1 rfl)) ?_
 refine zak (qm rfl rfl rfl) rfl rfl rfl (zaq rfl xz (ev2 rfl) rfl rfl) ?_
 refine zak (qm rfl rfl rfl) rfl rfl rfl (qt rfl w4 (ev2 rfl)) ?_
 refine zak (qm rfl rfl rfl) rfl rfl rfl (ka rfl (ev2 rfl) (ev2 rfl)) ?_
 refine za rfl (kA rfl (ev1 rfl) (ev3 rfl id)) ?_
 refine zab ?_
 refine qe rfl (fun c1 => ?_) (fun c1 => ?_)
 ·have hne : ¬ (w = w2 ∧ h = h2 ∧ ts = us) := by
   rintro ⟨rfl, rfl, rfl⟩
   simp at c1
  refine zah ?_
  refine zaa 1 rfl ?_
  refine zab ?_
  refine qb ?_
  refine qx (rs1 rfl (qJ rfl)) rfl ?_
  rw [decide_eq_false hne]
 ·obtain ⟨rfl, rfl, hlen⟩ : w = w2 ∧ h = h2 ∧ ts.length = us.length := by
   simp at c1
   omega
  refine zao ?_
  refine zae ?_
  refine zah ?_
  refine za rfl (qa rfl yh (ev1 rfl)) ?_
  refine za rfl (zaq rfl xz (ev1 rfl) rfl rfl) ?_
  refine za rfl (qt rfl w4 (ev1 rfl)) ?_
  refine zaa 1 rfl ?_
  refine zab ?_
  refine zas ?_
  refine qI ⟨hs0, rfl⟩ (α := Nat) (fun k => [(31, .val (.int .i64 (k : Int)))]) [(3, _), (29, _), (30, _)] (fun k => []) [_, _] (fun k => k ≤ ts.length ∧ ts.take k = us.take k) (fun k => ts.length - k) 0 [0, 1] (by simp) rfl ⟨rfl, rfl, rfl, trivial⟩ ⟨rfl, trivial⟩ ⟨rfl, rfl, trivial⟩ ?_
  intro k hx
  simp only [upd, zad, zaf, qaE, qaH]
  obtain ⟨hk, he⟩ := hx
  refine zah ?_
  refine za rfl (qA rfl (ev1 rfl) (ev1 rfl)) ?_
  refine zab ?_
  refine zae ?_
  refine qe rfl (fun c2 => ?_) (fun c2 => ?_)
  ·try simp only [decide_eq_true_eq, decide_eq_false_iff_not, beq_iff_eq, bne_iff_ne, beq_eq_false_iff_ne, bne_eq_false_iff_eq, qaz, qaA, qav, qaB, qax, ne_eq, Decidable.not_not, qaQ, qaR] at c2
   refine zao ?_
   refine zae ?_
   refine zas ?_
   refine zae ?_
   refine zam 1 ?_
   refine zac ?_
   refine zaa 1 rfl ?_
   refine za rfl (qP (j := k) rfl w4 (ev1 rfl) (ev1 rfl) qy (by decide) (by omega) (by omega)) ?_
   refine za rfl (xI rfl jg (ev1 rfl) (qy _)) ?_
   refine zaj rfl (zan 2 rfl yN rfl) ?_
   refine zaa 1 rfl ?_
   refine zar rfl (qQ rfl jg (ev1 rfl) (ev1 rfl) rfl (qy _) (yj _) ((qy _).trans (qy _).symm)) ?_
   refine zab ?_
   refine zae ?_
   refine qg [([2], []), ([], []), ([1], []), ([], []), ([], []), ([], []), ([], [])] qU (by kernel_rfl) ?_
   refine zag rfl rfl (kv rfl jg (ev1 rfl) rfl (qy _)) ?_
   refine zag rfl rfl (qa rfl yh (ev1 rfl)) ?_
   refine zag rfl rfl (zaq rfl xz (ev1 rfl) rfl rfl) ?_
   refine zag rfl rfl (zal (.inl rfl) (ev1 rfl)) ?_
   refine zag rfl rfl (qP (j := k) rfl w4 (ev1 rfl) (ev1 rfl) qy (by decide) (by omega) (by omega)) ?_
   refine zag rfl rfl (xI rfl jg (ev1 rfl) (qy _)) ?_
   refine zag rfl rfl (HX eq84 rfl gd84 jg (ev1 rfl) (ev1 rfl)) ?_
   refine qp ?_
   refine qe rfl (fun c2 => ?_) (fun c2 => ?_)
   ·have c3 : ts[k] ≠ us[k] := by simpa using c2
    refine zah ?_
    refine zaa 1 rfl ?_
    refine zab ?_
    refine qb ?_
    refine qx (rs1 rfl (qJ rfl)) rfl ?_
    have hne : ¬ (w = w ∧ h = h ∧ ts = us) := by
     rintro ⟨_, _, rfl⟩
     exact c3 rfl
    have hne : ts ≠ us := fun e => hne ⟨rfl, rfl, e⟩
    simp [hne]
   ·have c3 : ts[k] = us[k] := by simpa using c2
    refine zao ?_
    refine zac ?_
    refine za rfl (qh rfl (ev1 rfl) (ev1 rfl) (fun _ => qaC _ (by omega))) ?_
    refine zaa 1 rfl ?_
    refine zab ?_
    refine ⟨k + 1, [0, 1], ⟨by omega, by rw [qa0 (by omega), qa0 (by omega), he, c3]⟩, by simp only []; omega, rfl, ⟨rfl, rfl, rfl, rfl, trivial⟩, ⟨rfl, rfl, trivial⟩⟩
  ·try simp only [decide_eq_true_eq, decide_eq_false_iff_not, beq_iff_eq, bne_iff_ne, beq_eq_false_iff_ne, bne_eq_false_iff_eq, qaz, qaA, qav, qaB, qax, ne_eq, Decidable.not_not, qaQ, qaR] at c2
   refine qr ?_
   refine zah ?_
   refine zaa 1 rfl ?_
   refine zab ?_
   refine qb ?_
   refine qx (rs1 rfl (qJ rfl)) rfl ?_
   have e : ts = us := by
    have h := he
    rw [qaX (by omega), qaX (by omega)] at h
    exact h
   simp [e]
end Go.Proofs.YtofklkbfkoliiaaGreat
namespace Go.Proofs.YtofklkbfkoliiaaGreat
set_option linter.unusedVariables false
set_option linter.unusedSimpArgs false
open Go.RowKit
theorem Hr (t : TL) : ([Value.agg (tc t).toArray].all fun v => v.cells.size == 256) = true := by
 show ((tc t).toArray.size == 256 && true) = true
 rw [List.size_toArray, qy]; rfl
theorem Hs (t : TL) : ([Value.agg (tc t).toArray].flatMap fun v => v.cells.toList) = tc t := by rw [qaL]; exact qbk _
theorem Uc (t : TL) : ([Value.agg (tc t).toArray].flatMap fun v => v.cells.toList).all (·.oneCell') = true := by rw [Hs]; exact yj t
theorem new_d (c : C4) : DFun Tryz.prog 132 [.val (.agg (c4 c).toArray)] [] (tD (nT c)) [] := by
 refine zap (N := 13) 0 (by kernel_rfl) Tryz.func132 rfl rfl rfl (by simp only [fr0, qau, qaw]; exact rfl) rfl fun s0 hs0 => ?_
 refine zae ?_
 refine zam 2 ?_
 refine zac ?_
 refine zaj rfl (gC 0 rfl (ev1 rfl) rfl) ?_
 refine zaj rfl (zan 1 rfl yN rfl) ?_
 refine zab ?_
 refine zae ?_
 refine zam 1 ?_
 refine zac ?_
 refine zaj rfl (zan 2 rfl yN rfl) ?_
 refine zab ?_
 refine zae ?_
 refine zah ?_
 refine zaa 1 rfl ?_
 refine zab ?_
 refine zas ?_
 refine qI ⟨hs0, rfl⟩ (α := Nat) (fun k => [(5, .val (.int .i64 (k : Int)))]) [(1, _), (2, _), (3, _)] (fun k => [(2, .flat 84 (tc (zx c k)))]) [_, _, .hole] (fun k => k ≤ 64) (fun k => 64 - k) 0 [0, 1, 2] (by simp) rfl ⟨rfl, rfl, rfl, trivial⟩ ⟨rfl, trivial⟩ ⟨rfl, rfl, rfl, trivial⟩ ?_
 intro k hx
 simp only [upd, zad, zaf, qaE, qaH]
 have hk := hx
 refine zah ?_
 refine za rfl (qA rfl (ev1 rfl) (ev1 rfl)) ?_
 refine zab ?_
 refine zae ?_
 refine qe rfl (fun c1 => ?_) (fun c1 => ?_)
 ·try simp only [decide_eq_true_eq, decide_eq_false_iff_not, beq_iff_eq, bne_iff_ne, beq_eq_false_iff_ne, bne_eq_false_iff_eq, qaz, qaA, qav, qaB, qax, ne_eq, Decidable.not_not, qaQ, qaR] at c1
  refine zao ?_
  refine zae ?_
  refine zas ?_
  refine zah ?_
  refine zaa 2 rfl ?_
  refine zab ?_
  refine zac ?_
  refine zaa 1 rfl ?_
  refine za rfl (kv rfl vI (ev1 rfl) rfl rfl) ?_
  refine za rfl (yn (j := k) rfl z2 (ev1 rfl) (ev1 rfl) (fun _ => by omega) (fun _ => by omega)) ?_
  refine zar rfl (xM (q := c) rfl vI (ev1 rfl) (ev1 rfl) rfl rfl rfl (fun _ => rfl) (fun _ => by rw [TL.h]; omega)) ?_
  refine zab ?_
  refine zac ?_
  refine za rfl (qh rfl (ev1 rfl) (ev1 rfl) (fun _ => qaC _ (by omega))) ?_
  refine zaa 1 rfl ?_
  refine zab ?_
  refine ⟨k + 1, [0, 1, 2], by omega, by simp only []; omega, rfl, ⟨rfl, rfl, rfl, rfl, trivial⟩, ⟨rfl, rfl, by rw [Vh]; rfl, trivial⟩⟩
 ·try simp only [decide_eq_true_eq, decide_eq_false_iff_not, beq_iff_eq, bne_iff_ne, beq_eq_false_iff_ne, bne_eq_false_iff_eq, qaz, qaA, qav, qaB, qax, ne_eq, Decidable.not_not, qaQ, qaR] at c1
  refine qr ?_
  refine zah ?_
  refine za rfl (kv rfl jg (ev1 rfl) rfl (qy _)) ?_
  refine zar rfl (qQ rfl jg (ev1 rfl) (ev1 rfl) rfl (qy _) (yj _) ((qy _).trans (qy _).symm)) ?_
  refine zab ?_
  refine qb ?_
  refine qx (rs1 rfl (yM jg rfl rfl (qy _))) rfl ?_
  rw [show k = 64 by omega, WU]
def vi (A : List Nat) (ts : List TL) : List D := (A.zip ts).map fun p => .pin p.1 (tc p.2)
theorem KE {A : List Nat} {ts : List TL} (h : A.length = ts.length) : (vi A ts).length = ts.length := by simp [vi, h]
theorem Gr {A : List Nat} {ts : List TL} {q : Nat} {d : D} (hd : (vi A ts)[q]? = some d) : ∃ b t, A[q]? = some b ∧ ts[q]? = some t ∧ d = .pin b (tc t) := by
 unfold vi at hd
 rw [qbb] at hd
 cases e : (A.zip ts)[q]? with
 | none => rw [e] at hd; cases hd
 | some p =>
  rw [e] at hd
  obtain ⟨h1, h2⟩ := List.getElem?_zip_eq_some.1 e
  cases hd
  exact ⟨p.1, p.2, h1, h2, rfl⟩
theorem X4 {l : List D} (h : ∀ d ∈ l, d.nl = true) : D.nlL l = true := by
 induction l with
 | nil => rfl
 | cons d l ih => rw [D.nlL, h d (by simp), ih fun e he => h e (by simp [he])]; rfl
theorem zC {A : List Nat} {ts : List TL} (h : A.length = ts.length) : RowOk (vi A ts) ts := by
 have hm : ∀ d ∈ vi A ts, ∃ b t, d = .pin b (tc t) := fun d hd => by
  obtain ⟨q, hq⟩ := List.getElem?_of_mem hd
  obtain ⟨b, t, _, _, e⟩ := Gr hq
  exact ⟨b, t, e⟩
 refine ⟨KE h, X4 fun d hd => ?_, qaV.2 fun d hd => ?_, fun q d t h1 h2 => ?_⟩
 ·obtain ⟨b, t, rfl⟩ := hm d hd; rfl
 ·obtain ⟨b, t, rfl⟩ := hm d hd; rfl
 ·obtain ⟨b, u, h3, h4, rfl⟩ := Gr h1
  rw [h2] at h4
  cases h4
  exact Wk.pin _ _
theorem Vt {A : List Nat} {ts : List TL} (h : A.length = ts.length) (b : Nat) (t : TL) : vi (A ++ [b]) (ts ++ [t]) = vi A ts ++ [.pin b (tc t)] := by
 unfold vi
 rw [List.zip_append h, List.map_append]
 rfl
theorem KF (A : List Nat) (b : Nat) (t : TL) : vi A (qaJ A.length t) ++ List.flatMap D.cs [.pin b (tc t)] = vi (A ++ [b]) (qaJ (A ++ [b]).length t) := by
 rw [qaD, show A.length + [b].length = A.length + 1 from rfl, List.replicate_succ', Vt (by simp)]
 rfl
def NewCv (I : Nat → Prop) (w h : Int) (ts : List TL) (d : D) : Prop := ∃ A : List Nat, A.length = ts.length ∧ (∀ b ∈ A, ¬ I b) ∧ d = cvD w h (vi A ts)
def Okd (Q : D → Prop) (d : D) : Prop := ∃ e, Q e ∧ d = .tup [e, .val (.int .i64 0)]
theorem Az (w h : Int) (hm : gN w h = false) : DFun Tryz.prog 121 [.val (.int .i64 w), .val (.int .i64 h)] [] (.tup [.val (.pointer none), .val (.int .i64 2)]) [] := by
 refine zap (N := 36) 0 (by kernel_rfl) Tryz.func121 rfl rfl rfl (by simp only [fr0, qau, qaw]; exact rfl) rfl fun s0 hs0 => ?_
 refine zah ?_
 refine zaa 2 rfl ?_
 refine zab ?_
 refine zae ?_
 refine zam 1 ?_
 refine zac ?_
 refine zaa 2 rfl ?_
 refine za rfl (kU (ps := [(0, .tmp 9), (1, .tmp 10)]) rfl WZ KC (vc (ev1 rfl) (vc (ev1 rfl) vn)) rfl rfl) ?_
 refine zaj rfl (zan 0 rfl KC rfl) ?_
 refine zar rfl (qQ rfl zz (ev1 rfl) (ev1 rfl) rfl rfl rfl rfl) ?_
 refine zab ?_
 refine zae ?_
 refine zah ?_
 refine za rfl (kv rfl zz (ev1 rfl) rfl rfl) ?_
 refine za rfl (zai [] [] [] rfl (ev1 rfl) (ec (ev1 rfl) en) rfl rfl (YH _ _) rfl rfl rfl rfl rfl rfl) ?_
 refine za rfl (ko rfl (ev1 rfl)) ?_
 refine zab ?_
 refine qM rfl (by rw [hm]; rfl) ?_
 refine zah ?_
 refine zaa 2 rfl ?_
 refine zab ?_
 refine qb ?_
 refine qx (rs2 rfl (qJ rfl) (qJ rfl)) rfl ?_
 rfl
theorem AA (w h : Int) (n : Nat) (hm : gN w h = true) (hn : w * h = (n : Int)) : DFunI Tryz.prog 121 [.val (.int .i64 w), .val (.int .i64 h)] [] (fun I => Okd (NewCv I w h (qaJ n (nT zC4)))) [] := by
 have hb := wh hm
 refine Yx (N := 36) 0 (by kernel_rfl) Tryz.func121 rfl rfl rfl (by simp only [fr0, qau, qaw]; exact rfl) rfl fun s0 hs0 => ?_
 refine zah ?_
 refine zaa 2 rfl ?_
 refine zab ?_
 refine zae ?_
 refine zam 1 ?_
 refine zac ?_
 refine zaa 2 rfl ?_
 refine za rfl (kU (ps := [(0, .tmp 9), (1, .tmp 10)]) rfl WZ KC (vc (ev1 rfl) (vc (ev1 rfl) vn)) rfl rfl) ?_
 refine zaj rfl (zan 0 rfl KC rfl) ?_
 refine zar rfl (qQ rfl zz (ev1 rfl) (ev1 rfl) rfl rfl rfl rfl) ?_
 refine zab ?_
 refine zae ?_
 refine zah ?_
 refine za rfl (kv rfl zz (ev1 rfl) rfl rfl) ?_
 refine za rfl (zai [] [] [] rfl (ev1 rfl) (ec (ev1 rfl) en) rfl rfl (YH _ _) rfl rfl rfl rfl rfl rfl) ?_
 refine za rfl (ko rfl (ev1 rfl)) ?_
 refine zab ?_
 refine qc rfl (by rw [hm]; rfl) ?_
 refine zao ?_
 refine zae ?_
 refine zam 1 ?_
 refine zac ?_
 refine za rfl (kv rfl zz (ev1 rfl) rfl rfl) ?_
 refine za rfl (kU (ps := [(0, .tmp 15)]) rfl fl210 zr210 (vc (ev1 rfl) vn) rfl rfl) ?_
 refine zaj rfl (gC 1 rfl (ev1 rfl) rfl) ?_
 refine zaa 1 rfl ?_
 refine zab ?_
 refine zae ?_
 refine zae ?_
 refine jf 1 yT rfl rfl (by simp only [qaE, qaH, zad, zaf, List.map]; exact rfl) ?_
 refine vF (l' := [.val (.int .i64 w), .val (.int .i64 h), .arr 2]) 1 2 194 1 rfl rfl rfl rfl (by simp only [qaE, qaH, zad, zaf]; exact rfl) ?_
 refine zac ?_
 refine zaa 2 rfl ?_
 refine za rfl (jp rfl (ev1 rfl) (ev1 rfl) (fun _ => qaC _ (by omega))) ?_
 refine zaa 1 rfl ?_
 refine zab ?_
 refine zas ?_
 refine qI ⟨hs0, rfl⟩ (α := List Nat) (fun A => [(21, .val (.int .i64 (A.length : Int)))]) [(7, _), (20, _)] (fun A => [(2, .arx 194 1 A.length (vi A (qaJ A.length (nT zC4))))]) [_, _, .hole] (fun A => A.length ≤ n ∧ ∀ b ∈ A, ¬ s0.I b) (fun A => n - A.length) [] [0, 1, 2] (⟨qa5 _, fun b hb => by simp at hb⟩) rfl ⟨rfl, rfl, trivial⟩ ⟨rfl, trivial⟩ ⟨rfl, rfl, rfl, trivial⟩ ?_
 intro A hx
 simp only [upd, zad, zaf, qaE, qaH]
 obtain ⟨hA, hAI⟩ := hx
 refine zah ?_
 refine za rfl (qA rfl (ev1 rfl) (ev1 rfl)) ?_
 refine zab ?_
 refine zae ?_
 refine qe rfl (fun c2 => ?_) (fun c2 => ?_)
 ·try simp only [decide_eq_true_eq, decide_eq_false_iff_not, beq_iff_eq, bne_iff_ne, beq_eq_false_iff_ne, bne_eq_false_iff_eq, qaz, qaA, qav, qaB, qax, ne_eq, Decidable.not_not, qaQ, qaR] at c2
  refine zao ?_
  refine zae ?_
  refine zas ?_
  refine zae ?_
  refine zam 1 ?_
  refine zac ?_
  refine za rfl (kW rfl W1 W8) ?_
  refine za rfl (zai [] [] [] rfl (ev1 rfl) (ec (ev1 rfl) en) rfl rfl (new_d zC4) rfl rfl rfl rfl rfl rfl) ?_
  refine zaj rfl (zan 3 rfl yN rfl) ?_
  refine zar rfl (qQ rfl jg (ev1 rfl) (ev1 rfl) rfl (qy _) (yj _) ((qy _).trans (qy _).symm)) ?_
  refine zab ?_
  refine XW 8 rfl rfl (by simp only [zad, zaf]; exact rfl) fun b hb => ?_
  refine zam 1 ?_
  refine zac ?_
  refine zaa 2 rfl ?_
  refine za rfl (qw rfl (ev1 rfl) (fun s v h => by cases h; exact ⟨_, rfl⟩)) ?_
  refine za rfl (qa rfl Qz (ev1 rfl)) ?_
  refine za rfl (zaq rfl Ho (ev1 rfl) rfl rfl) ?_
  refine za rfl (zp (ps := [(0, .tmp 8)]) rfl Hi Hq rfl (ec (ev1 rfl) en) rfl rfl rfl (by rfl) rfl (by decide) (by decide)) ?_
  refine zaj rfl (xO (j := 4) rfl Hi Hq rfl (ev1 rfl) (ev1 rfl) rfl rfl (rfl) (fun _ => ⟨by omega, by omega⟩)) ?_
  refine za rfl (qw rfl (ev1 rfl) (fun s v h => by cases h; exact ⟨_, rfl⟩)) ?_
  refine za rfl (qa rfl Qz (ev1 rfl)) ?_
  refine zar rfl (kL rfl Ho (ev1 rfl) (ev1 rfl) (fun s v h => by cases h <;> exact ⟨rfl, rfl⟩) rfl (by first | decide | exact qaF rfl | simp)) ?_
  refine zab ?_
  refine zac ?_
  refine za rfl (qh rfl (ev1 rfl) (ev1 rfl) (fun _ => qaC _ (by omega))) ?_
  refine zaa 1 rfl ?_
  refine zab ?_
  refine ⟨A ++ [b], [0, 1, 4], ⟨by simp; omega, fun c hc => by
  rcases List.mem_append.1 hc with hc | hc
  ·exact hAI c hc
  ·simp at hc; subst hc; exact hb⟩, by simp; omega, rfl, ⟨by rw [qaD]; rfl, rfl, rfl, trivial⟩, ⟨rfl, rfl, Vg (by rw [KF]; exact (zC (by simp)).nl) (by simp) (KF _ _ _), trivial⟩⟩
 ·try simp only [decide_eq_true_eq, decide_eq_false_iff_not, beq_iff_eq, bne_iff_ne, beq_eq_false_iff_ne, bne_eq_false_iff_eq, qaz, qaA, qav, qaB, qax, ne_eq, Decidable.not_not, qaQ, qaR] at c2
  refine qr ?_
  refine zah ?_
  refine zaa 3 rfl ?_
  refine zab ?_
  refine Ku 1 2 ((zC (by simp)).nl) rfl rfl rfl (by simp only [zad, zaf]; exact rfl) ?_
  refine qb ?_
  refine kendI (post := fun I => Okd (NewCv I w h (qaJ n (nT zC4)))) (I := s0.I) (Mo := []) [] (rs2 rfl (qJ rfl) (qJ rfl)) rfl rfl ?_ trivial
  obtain rfl : A.length = n := by omega
  exact ⟨_, ⟨A, by simp, hAI, rfl⟩, by rw [cvD, KE (by simp), qaS]; rfl⟩
end Go.Proofs.YtofklkbfkoliiaaGreat
namespace Go.Proofs.YtofklkbfkoliiaaGreat
set_option linter.unusedVariables false
set_option linter.unusedSimpArgs false
inductive Tk (α : Type) where
 | ok (a : α) (r : List Int)
 | err (e : Int)
def Tk.bind {α β : Type} (t : Tk α) (f : α → List Int → Tk β) : Tk β := match t with
 | .ok a r => f a r
 | .err e => .err e
abbrev Tkr (α : Type) := List Int → Tk α
def isB (l : List Int) : Prop := ∀ x ∈ l, 0 ≤ x ∧ x ≤ 255
theorem isB_app {a b : List Int} : isB (a ++ b) ↔ isB a ∧ isB b := by
 unfold isB
 constructor
 ·intro h
  exact ⟨fun x hx => h x (List.mem_append_left _ hx), fun x hx => h x (List.mem_append_right _ hx)⟩
 ·rintro ⟨h1, h2⟩ x hx
  rcases List.mem_append.1 hx with h | h
  ·exact h1 x h
  ·exact h2 x h
structure Cd {α : Type} (S : Int) (ok : α → Prop) (lay : α → List Int) (tk : Tkr α) : Prop where
 fwd : ∀ a r, ok a → tk (lay a ++ r) = .ok a r
 bwd : ∀ b a r, isB b → tk b = .ok a r → b = lay a ++ r ∧ ok a
 sh : ∀ a k, ok a → k < (lay a).length → tk ((lay a).take k) = .err S
section
variable {α β : Type} {S : Int} {ok : α → Prop} {lay : α → List Int} {tk : Tkr α} {ok2 : β → Prop} {lay2 : β → List Int} {tk2 : Tkr β}
theorem Cd.seq (c : Cd S ok lay tk) (d : Cd S ok2 lay2 tk2) : Cd S (fun p : α × β => ok p.1 ∧ ok2 p.2) (fun p => lay p.1 ++ lay2 p.2) (fun b => (tk b).bind fun a r => (tk2 r).bind fun x r => .ok (a, x) r) where
 fwd p r h := by
  rw [qa1, c.fwd _ _ h.1]
  show (tk2 _).bind _ = _
  rw [d.fwd _ _ h.2]
  rfl
 bwd b p r hb h := by
  cases h1 : tk b with
  | err e => rw [h1] at h; cases h
  | ok a r1 =>
   rw [h1] at h
   have h : (tk2 r1).bind (fun x r => Tk.ok (a, x) r) = .ok p r := h
   obtain ⟨e1, k1⟩ := c.bwd b a r1 hb h1
   cases h2 : tk2 r1 with
   | err e => rw [h2] at h; cases h
   | ok x r2 =>
    rw [h2] at h
    cases h
    obtain ⟨e2, k2⟩ := d.bwd r1 x r (by rw [e1] at hb; exact (isB_app.1 hb).2) h2
    exact ⟨by rw [e1, e2, qa1], k1, k2⟩
 sh p k h hk := by
  by_cases h1 : k < (lay p.1).length
  ·rw [List.take_append_of_le_length (by omega), c.sh _ _ h.1 h1]
   rfl
  ·rw [qaD] at hk
   rw [List.take_append, qaX (by omega), c.fwd _ _ h.1]
   show (tk2 _).bind _ = _
   rw [d.sh _ _ h.2 (by omega)]
   rfl
theorem Cd.map (f : α → β) (g : β → α) (c : Cd S ok lay tk) (h1 : ∀ a, ok a → g (f a) = a ∧ ok2 (f a)) (h2 : ∀ x, ok2 x → ok (g x) ∧ f (g x) = x) : Cd S ok2 (fun x => lay (g x)) (fun b => (tk b).bind fun a r => .ok (f a) r) where
 fwd x r h := by
  rw [c.fwd _ _ (h2 x h).1]
  show Tk.ok (f (g x)) r = _
  rw [(h2 x h).2]
 bwd b x r hb h := by
  cases e : tk b with
  | err e' => rw [e] at h; cases h
  | ok a r1 =>
   rw [e] at h
   cases h
   obtain ⟨e1, k1⟩ := c.bwd b a r hb e
   exact ⟨by rw [(h1 a k1).1]; exact e1, (h1 a k1).2⟩
 sh x k h hk := by
  rw [c.sh _ _ (h2 x h).1 hk]
  rfl
theorem Cd.need (C : Int) (p : α → Bool) (c : Cd S ok lay tk) : Cd S (fun a => ok a ∧ p a = true) lay (fun b => (tk b).bind fun a r => if p a then .ok a r else .err C) where
 fwd a r h := by
  rw [c.fwd _ _ h.1]
  show (if p a = true then _ else _) = _
  rw [if_pos h.2]
 bwd b a r hb h := by
  cases e : tk b with
  | err e' => rw [e] at h; cases h
  | ok x r1 =>
   rw [e] at h
   have h : (if p x = true then Tk.ok x r1 else .err C) = .ok a r := h
   by_cases hp : p x = true
   ·rw [if_pos hp] at h
    cases h
    obtain ⟨e1, k1⟩ := c.bwd b a r hb e
    exact ⟨e1, k1, hp⟩
   ·rw [if_neg hp] at h
    cases h
 sh a k h hk := by
  rw [c.sh _ _ h.1 hk]
  rfl
def gO (tk : Tkr α) : Nat → Tkr (List α)
 | 0, b => .ok [] b
 | n + 1, b => (tk b).bind fun a r => (gO tk n r).bind fun l r => .ok (a :: l) r
theorem Cd.rep (c : Cd S ok lay tk) : ∀ n, Cd S (fun l : List α => l.length = n ∧ ∀ a ∈ l, ok a) (fun l => l.flatMap lay) (gO tk n)
 | 0 => {
   fwd := fun l r h => by
    cases l with
    | nil => rfl
    | cons a l => cases h.1
   bwd := fun b l r _ h => by
    cases h
    exact ⟨rfl, rfl, fun a h => by cases h⟩
   sh := fun l k h hk => by
    cases l with
    | nil => exact absurd hk (Nat.not_lt_zero _)
    | cons a l => cases h.1 }
 | n + 1 => {
   fwd := fun l r h => by
    cases l with
    | nil => cases h.1
    | cons a l =>
     have := (c.seq (c.rep n)).fwd (a, l) r ⟨h.2 a (qa6 ..), by simpa using h.1, fun x hx => h.2 x (qa9 _ hx)⟩
     show (tk ((lay a ++ l.flatMap lay) ++ r)).bind _ = _
     cases e : tk ((lay a ++ l.flatMap lay) ++ r) with
     | err e' => simp only [e] at this; cases this
     | ok x r1 =>
      simp only [e, Tk.bind] at this ⊢
      cases e2 : gO tk n r1 with
      | err e' => rw [e2] at this; cases this
      | ok y r2 => rw [e2] at this; cases this; rfl
   bwd := fun b l r hb h => by
    have h : (tk b).bind (fun a r => (gO tk n r).bind fun l r => Tk.ok (a :: l) r) = .ok l r := h
    cases e : tk b with
    | err e' => rw [e] at h; cases h
    | ok a r1 =>
     rw [e] at h
     have h : (gO tk n r1).bind (fun l r => Tk.ok (a :: l) r) = .ok l r := h
     obtain ⟨e1, k1⟩ := c.bwd b a r1 hb e
     cases e2 : gO tk n r1 with
     | err e' => rw [e2] at h; cases h
     | ok y r2 =>
      rw [e2] at h
      cases h
      obtain ⟨e3, k3, k4⟩ := (c.rep n).bwd r1 y r (by rw [e1] at hb; exact (isB_app.1 hb).2) e2
      refine ⟨by rw [e1, e3, qaL, qa1], by simp [k3], fun x hx => ?_⟩
      rcases List.mem_cons.1 hx with rfl | hx
      ·exact k1
      ·exact k4 x hx
   sh := fun l k h hk => by
    cases l with
    | nil => cases h.1
    | cons a l =>
     have := (c.seq (c.rep n)).sh (a, l) k ⟨h.2 a (qa6 ..), by simpa using h.1, fun x hx => h.2 x (qa9 _ hx)⟩ (by simpa using hk)
     show (tk ((lay a ++ l.flatMap lay).take k)).bind _ = _
     cases e : tk ((lay a ++ l.flatMap lay).take k) with
     | err e' => simp only [e, Tk.bind] at this ⊢; cases this; rfl
     | ok x r1 =>
      simp only [e, Tk.bind] at this ⊢
      cases e2 : gO tk n r1 with
      | err e' => rw [e2] at this; cases this; rfl
      | ok y r2 => rw [e2] at this; cases this }
end
end Go.Proofs.YtofklkbfkoliiaaGreat
namespace Go.Proofs.YtofklkbfkoliiaaGreat
set_option linter.unusedVariables false
set_option linter.unusedSimpArgs false
open Go.RowKit
def kz : List C4 → List (Nat × C4)
 | [] => []
 | c :: l => match kz l with
  | [] => [(1, c)]
  | (n, d) :: r => if c = d then (n + 1, d) :: r else (1, c) :: (n, d) :: r
def kN (rs : List (Nat × C4)) : List C4 := rs.flatMap fun r => qaJ r.1 r.2
def vR : List (Nat × C4) → Prop
 | [] => True
 | [r] => 1 ≤ r.1
 | r :: q :: rs => 1 ≤ r.1 ∧ r.2 ≠ q.2 ∧ vR (q :: rs)
theorem vJ {r : Nat × C4} {rs : List (Nat × C4)} (h : vR (r :: rs)) : vR rs := by
 cases rs with
 | nil => trivial
 | cons q rs => exact h.2.2
theorem gw : ∀ {rs : List (Nat × C4)}, vR rs → ∀ r ∈ rs, 1 ≤ r.1
 | [], _, r, hr => by simp at hr
 | [a], h, r, hr => by obtain rfl := List.mem_singleton.1 hr; exact h
 | a :: b :: rs, h, r, hr => by
  rcases List.mem_cons.1 hr with rfl | hr
  ·exact h.1
  ·exact gw h.2.2 r hr
theorem jF : ∀ l : List C4, kN (kz l) = l
 | [] => rfl
 | c :: l => by
  have ih := jF l
  rw [kz]
  cases hr : kz l with
  | nil =>
   rw [hr] at ih
   simp only [kN, List.flatMap_nil] at ih
   subst ih
   rfl
  | cons a r =>
   obtain ⟨n, d⟩ := a
   rw [hr] at ih
   simp only
   split
   ·rename_i e
    subst e
    rw [← ih]
    simp only [kN, qaL, List.replicate_succ, qaE]
   ·rw [← ih]
    simp only [kN, qaL, List.replicate_succ, List.replicate_zero, qaE, qaH]
theorem yA : ∀ l : List C4, vR (kz l)
 | [] => trivial
 | c :: l => by
  have ih := yA l
  rw [kz]
  cases hr : kz l with
  | nil => exact qaO 1
  | cons a r =>
   obtain ⟨n, d⟩ := a
   rw [hr] at ih
   simp only
   split
   ·cases r with
    | nil => exact Nat.le_add_left 1 n
    | cons b r => exact ⟨Nat.le_add_left 1 n, ih.2.1, ih.2.2⟩
   ·rename_i e
    exact ⟨qaO 1, e, ih⟩
theorem Gt (c : C4) (rs : List (Nat × C4)) : ∀ n : Nat, vR ((n + 1, c) :: rs) → kz (kN rs) = rs → kz (qaJ (n + 1) c ++ kN rs) = (n + 1, c) :: rs
 | 0, h, hr => by
  rw [List.replicate_succ, List.replicate_zero, qaE, qaH, kz, hr]
  cases rs with
  | nil => rfl
  | cons q rs =>
   obtain ⟨m, d⟩ := q
   simp only
   rw [if_neg h.2.1]
 | n + 1, h, hr => by
  have hg : vR ((n + 1, c) :: rs) := by
   cases rs with
   | nil => exact Nat.le_add_left 1 n
   | cons q rs => exact ⟨Nat.le_add_left 1 n, h.2.1, h.2.2⟩
  rw [List.replicate_succ, qaE, kz, Gt c rs n hg hr]
  exact if_pos rfl
theorem KG : ∀ rs : List (Nat × C4), vR rs → kz (kN rs) = rs
 | [], _ => rfl
 | (n, c) :: rs, h => by
  have hr := KG rs (vJ h)
  have hn : 1 ≤ n := gw h (n, c) (qa6 ..)
  obtain ⟨m, rfl⟩ : ∃ m, n = m + 1 := ⟨n - 1, by omega⟩
  have e : kN ((m + 1, c) :: rs) = qaJ (m + 1) c ++ kN rs := by unfold kN; rw [qaL]
  rw [e]
  exact Gt c rs m h hr
def Gu (r : Nat × C4) : List Int := [(r.1 : Int), r.2.r, r.2.g, r.2.b, r.2.a]
def kZ (rs : List (Nat × C4)) : List Int := rs.flatMap Gu
theorem zD (rs : List (Nat × C4)) : (kZ rs).length = rs.length * 5 := by
 induction rs with
 | nil => rfl
 | cons r rs ih =>
  unfold kZ at *
  rw [qaL, qaD, ih, qaU]
  show 5 + rs.length * 5 = _
  omega
def yc (acc : List C4) (n : Int) (c : C4) : Bool := decide (1 ≤ n) && decide (n ≤ 64 - (acc.length : Int)) && !decide (acc.getLast? = some c)
def rdG : Nat → List C4 → List Int → Option (List C4 × List Int)
 | 0, _, _ => none
 | f + 1, acc, n :: r :: g :: b :: a :: rest => if yc acc n ⟨r, g, b, a⟩ = true then (if acc.length + n.toNat = 64 then some (acc ++ qaJ n.toNat ⟨r, g, b, a⟩, rest) else rdG f (acc ++ qaJ n.toNat ⟨r, g, b, a⟩) rest) else none
 | _ + 1, _, _ => none
theorem QC : ∀ (f : Nat) (acc : List C4) (b : List Int) (l : List C4) (rest : List Int), rdG f acc b = some (l, rest) → acc.length < 64 →
  ∃ rs : List (Nat × C4), rs ≠ [] ∧ l = acc ++ kN rs ∧ b = kZ rs ++ rest ∧ vR rs ∧ l.length = 64 ∧ ∀ r ∈ rs.head?, acc.getLast? ≠ some r.2
 | 0, acc, b, l, rest, h, _ => by cases h
 | f + 1, acc, [], l, rest, h, _ => by cases h
 | f + 1, acc, [_], l, rest, h, _ => by cases h
 | f + 1, acc, [_, _], l, rest, h, _ => by cases h
 | f + 1, acc, [_, _, _], l, rest, h, _ => by cases h
 | f + 1, acc, [_, _, _, _], l, rest, h, _ => by cases h
 | f + 1, acc, n :: r :: g :: b :: a :: bs, l, rest, h, hl => by
  rw [rdG] at h
  by_cases hm : yc acc n ⟨r, g, b, a⟩ = true
  ·rw [if_pos hm] at h
   unfold yc at hm
   simp only [qav, decide_eq_true_eq, qaz, decide_eq_false_iff_not] at hm
   obtain ⟨⟨h1, h2⟩, h3⟩ := hm
   obtain ⟨m, hm⟩ : ∃ m : Nat, n = (m : Int) := ⟨n.toNat, by omega⟩
   subst hm
   rw [qbe] at h
   have he : Gu (m, ⟨r, g, b, a⟩) = [(m : Int), r, g, b, a] := rfl
   by_cases h64 : acc.length + m = 64
   ·rw [if_pos h64] at h
    obtain ⟨e1, e2⟩ := Prod.mk.inj (qay h)
    subst e1 e2
    refine ⟨[(m, ⟨r, g, b, a⟩)], by simp, by simp [kN], rfl, by show 1 ≤ m; omega, by rw [qaD, qaS]; exact h64, fun q hq => ?_⟩
    obtain rfl := qay hq
    exact h3
   ·rw [if_neg h64] at h
    obtain ⟨rs, g0, g1, g2, g3, g4, g5⟩ := QC f _ bs l rest h (by rw [qaD, qaS]; omega)
    refine ⟨(m, ⟨r, g, b, a⟩) :: rs, by simp, ?_, ?_, ?_, g4, fun q hq => ?_⟩
    ·rw [g1, qa1]; simp [kN]
    ·rw [g2]; rfl
    ·cases rs with
     | nil => exact absurd rfl g0
     | cons q rs =>
      refine ⟨by show 1 ≤ m; omega, fun e => ?_, g3⟩
      refine g5 q rfl ?_
      rw [List.getLast?_append, List.getLast?_replicate, if_neg (by omega)]
      simp only [Option.some_or]
      exact congrArg some e
    ·obtain rfl := qay hq
     exact h3
  ·rw [if_neg hm] at h; cases h
theorem Gv : ∀ (rs : List (Nat × C4)) (f : Nat) (acc : List C4) (rest : List Int), rs ≠ [] → vR rs → (acc ++ kN rs).length = 64 → (∀ r ∈ rs.head?, acc.getLast? ≠ some r.2) → rs.length ≤ f → rdG f acc (kZ rs ++ rest) = some (acc ++ kN rs, rest)
 | [], _, _, _, h, _, _, _, _ => absurd rfl h
 | (m, c) :: rs, 0, _, _, _, _, _, _, h => by simp at h
 | (m, c) :: rs, f + 1, acc, rest, _, hg, hl, hh, hf => by
  have h1 : 1 ≤ m := gw hg (m, c) (qa6 ..)
  have efl : kN ((m, c) :: rs) = qaJ m c ++ kN rs := by unfold kN; rw [qaL]
  have eb : kZ ((m, c) :: rs) ++ rest = (m : Int) :: c.r :: c.g :: c.b :: c.a :: (kZ rs ++ rest) := by unfold kZ; rw [qaL]; rfl
  rw [efl, qaD, qaD, qaS] at hl
  rw [eb, rdG, efl]
  have hm : yc acc (m : Int) ⟨c.r, c.g, c.b, c.a⟩ = true := by
   unfold yc
   simp only [qav, decide_eq_true_eq, qaz, decide_eq_false_iff_not]
   exact ⟨⟨by omega, by omega⟩, hh _ rfl⟩
  rw [if_pos hm, qbe]
  cases rs with
  | nil =>
   have e0 : (kN ([] : List (Nat × C4))).length = 0 := rfl
   rw [if_pos (by omega)]
   simp [kN, kZ]
  | cons q rs =>
   have hq : 1 ≤ q.1 := gw (vJ hg) q (qa6 ..)
   have e0 : (kN (q :: rs)).length = q.1 + (kN rs).length := by unfold kN; rw [qaL, qaD, qaS]
   rw [if_neg (by omega), ← qa1]
   refine Gv (q :: rs) f (acc ++ qaJ m c) rest (by simp) (vJ hg) (by rw [qaD, qaD, qaS]; omega) (fun r hr => ?_) (by simpa using hf)
   obtain rfl := qay hr
   rw [List.getLast?_append, List.getLast?_replicate, if_neg (by omega)]
   simp only [Option.some_or]
   exact fun e => hg.2.1 (qay e)
theorem uK : ∀ l : List C4, (kz l).length ≤ l.length
 | [] => qaO 0
 | c :: l => by
  have ih := uK l
  rw [kz]
  cases hr : kz l with
  | nil => exact Nat.le_add_left 1 _
  | cons a r =>
   obtain ⟨n, d⟩ := a
   rw [hr] at ih
   simp only
   split
   ·rw [qaU] at ih ⊢; rw [qaU]; omega
   ·rw [qaU] at ih ⊢; rw [qaU, qaU]; omega
theorem uL {f : Nat} (hf : 64 ≤ f) {b : List Int} {l : List C4} {rest : List Int} : rdG f [] b = some (l, rest) ↔ l.length = 64 ∧ b = kZ (kz l) ++ rest := by
 constructor
 ·intro h
  obtain ⟨rs, _, h1, h2, h3, h4, _⟩ := QC f [] b l rest h (by decide)
  rw [qaH] at h1
  have e : kz l = rs := by rw [h1]; exact KG rs h3
  exact ⟨h4, by rw [e]; exact h2⟩
 ·rintro ⟨h1, h2⟩
  have hl := uK l
  have hne : kz l ≠ [] := fun e => by
   have := jF l
   rw [e] at this
   rw [← this] at h1
   exact absurd h1 (by decide)
  have := Gv (kz l) f [] rest hne (yA l) (by rw [qaH, jF]; exact h1) (fun r _ => by simp) (by omega)
  rw [qaH, jF] at this
  rw [h2]
  exact this
def gy (t : TL) : List Int := kZ (kz t.l)
def rdT (b : List Int) : Option (TL × List Int) := match h : rdG 64 [] b with
 | some x => some (⟨x.1, ((uL (qaO 64)).1 (h.trans (by rfl) : rdG 64 [] b = some (x.1, x.2))).1⟩, x.2)
 | none => none
theorem rdT_iff {b : List Int} {t : TL} {rest : List Int} : rdT b = some (t, rest) ↔ b = gy t ++ rest := by
 unfold rdT gy
 constructor
 ·intro h
  split at h
  ·rename_i x hx
   have hx : rdG 64 [] b = some (x.1, x.2) := hx
   obtain ⟨e1, e2⟩ := Prod.mk.inj (qay h)
   subst e1 e2
   exact ((uL (qaO 64)).1 hx).2
  ·cases h
 ·intro h
  have hx : rdG 64 [] b = some (t.l, rest) := (uL (qaO 64)).2 ⟨t.h, h⟩
  split
  ·rename_i x hy
   rw [hx] at hy
   obtain rfl := qay hy
   rfl
  ·rename_i hy
   rw [hx] at hy
   cases hy
theorem xv (t : TL) : ∃ n : Nat, 1 ≤ n ∧ ∃ bs, gy t = (n : Int) :: bs := by
 unfold gy
 have hg := yA t.l
 cases hr : kz t.l with
 | nil =>
  have := jF t.l
  rw [hr] at this
  have h := t.h
  rw [← this] at h
  exact absurd h (by decide)
 | cons r rs =>
  rw [hr] at hg
  refine ⟨r.1, gw hg r (qa6 ..), [r.2.r, r.2.g, r.2.b, r.2.a] ++ kZ rs, ?_⟩
  unfold kZ
  rw [qaL]
  rfl
def qR (kn : List TL → TL) : List TL → List TL → List Int
 | _, [] => []
 | acc, t :: ts => (if t = kn acc then [0] else gy t) ++ qR kn (acc ++ [t]) ts
def z4 (kn : List TL → TL) : Nat → List TL → List Int → Option (List TL × List Int)
 | 0, acc, b => some (acc, b)
 | n + 1, acc, b => if b.head? = some 0 then z4 kn n (acc ++ [kn acc]) (b.drop 1) else match rdT b with
  | some x => if x.1 = kn acc then none else z4 kn n (acc ++ [x.1]) x.2
  | none => none
theorem xe (kn : List TL → TL) : ∀ (ts acc : List TL) (more : List Int), z4 kn ts.length acc (qR kn acc ts ++ more) = some (acc ++ ts, more)
 | [], acc, more => by rw [qbk]; rfl
 | t :: ts, acc, more => by
  have ih := xe kn ts (acc ++ [t]) more
  rw [qa1] at ih
  rw [qaU, z4, qR, qa1]
  by_cases e : t = kn acc
  ·rw [if_pos e]
   have hz : (([0] : List Int) ++ (qR kn (acc ++ [t]) ts ++ more)).head? = some 0 := rfl
   rw [if_pos hz, ← e]
   exact ih
  ·rw [if_neg e]
   obtain ⟨n, hn, cs, he⟩ := xv t
   have h0 : ¬ (gy t ++ (qR kn (acc ++ [t]) ts ++ more)).head? = some (0 : Int) := by
    rw [he]
    intro h
    have := qay (show some (n : Int) = some (0 : Int) from h)
    omega
   rw [if_neg h0, rdT_iff.2 rfl]
   simp only
   rw [if_neg e]
   exact ih
theorem zE (kn : List TL → TL) : ∀ (n : Nat) (acc : List TL) (b : List Int) (l : List TL) (rest : List Int), z4 kn n acc b = some (l, rest) → ∃ ts : List TL, ts.length = n ∧ l = acc ++ ts ∧ b = qR kn acc ts ++ rest
 | 0, acc, b, l, rest, h => by
  obtain ⟨e1, e2⟩ := Prod.mk.inj (qay h)
  subst e1 e2
  exact ⟨[], rfl, (qbk _).symm, rfl⟩
 | n + 1, acc, b, l, rest, h => by
  rw [z4] at h
  split at h
  ·rename_i h0
   obtain ⟨ts, g1, g2, g3⟩ := zE kn n _ _ l rest h
   refine ⟨kn acc :: ts, by rw [qaU, g1], by rw [g2, qa1]; rfl, ?_⟩
   rw [qR, if_pos rfl, qa1, ← g3]
   cases b with
   | nil => cases h0
   | cons x bs =>
    obtain rfl := qay h0
    rfl
  ·split at h
   ·rename_i x hx
    split at h
    ·cases h
    ·rename_i hne
     obtain ⟨ts, g1, g2, g3⟩ := zE kn n _ _ l rest h
     refine ⟨x.1 :: ts, by rw [qaU, g1], by rw [g2, qa1]; rfl, ?_⟩
     rw [qR, if_neg hne, qa1, ← g3]
     exact rdT_iff.1 (show rdT b = some (x.1, x.2) from hx)
   ·cases h
theorem rdTs_iff {kn : List TL → TL} {n : Nat} {acc l : List TL} {b rest : List Int} : z4 kn n acc b = some (l, rest) ↔ ∃ ts : List TL, ts.length = n ∧ l = acc ++ ts ∧ b = qR kn acc ts ++ rest := by
 constructor
 ·exact zE kn n acc b l rest
 ·rintro ⟨ts, rfl, rfl, rfl⟩
  exact xe kn ts acc rest
def q9 (acc : List TL) : TL := acc.getLastD zT
def kD (w h : Int) (ts : List TL) : List Int := w :: h :: qR q9 [] ts
def yd (rs : List (Nat × C4)) (i : Nat) : Nat := (kN (rs.take i)).length
theorem KH (a b : List (Nat × C4)) : kN (a ++ b) = kN a ++ kN b := by unfold kN; rw [qbg]
theorem Vu (r : Nat × C4) : kN [r] = qaJ r.1 r.2 := by simp [kN]
theorem Vv (rs : List (Nat × C4)) : yd rs 0 = 0 := rfl
theorem Gw {rs : List (Nat × C4)} {i : Nat} (hi : i < rs.length) : yd rs (i + 1) = yd rs i + rs[i].1 := by
 unfold yd
 rw [qa0 hi, KH, qaD, Vu, qaS]
theorem Gx (rs : List (Nat × C4)) : yd rs rs.length = (kN rs).length := by unfold yd; rw [List.take_length]
theorem zF {rs : List (Nat × C4)} {i : Nat} (hi : i < rs.length) : kN rs = kN (rs.take i) ++ (qaJ rs[i].1 rs[i].2 ++ kN (rs.drop (i + 1))) := by
 conv => lhs; rw [← List.take_append_drop i rs, List.drop_eq_getElem_cons hi]
 rw [KH]
 congr 1
theorem QD {rs : List (Nat × C4)} {i : Nat} (hi : i < rs.length) : yd rs i + rs[i].1 ≤ (kN rs).length := by
 have h1 := congrArg List.length (zF hi)
 rw [qaD, qaD, qaS] at h1
 unfold yd
 omega
theorem Gy {rs : List (Nat × C4)} {i m : Nat} (hi : i < rs.length) (hm : m < rs[i].1) : (kN rs)[yd rs i + m]? = some rs[i].2 := by
 rw [zF hi]
 unfold yd
 rw [qaP (by omega), Nat.add_sub_cancel_left, qaN (by rw [qaS]; exact hm), List.getElem?_replicate, if_pos hm]
theorem Vw {rs : List (Nat × C4)} (hg : vR rs) {i : Nat} (hi : i < rs.length) : (kN rs)[yd rs i + rs[i].1]? ≠ some rs[i].2 := by
 rw [← Gw hi]
 by_cases h : i + 1 < rs.length
 ·have hp : 1 ≤ rs[i + 1].1 := gw hg _ (qbf h)
  have := Gy h (m := 0) (by omega)
  rw [Nat.add_zero] at this
  rw [this]
  have key : ∀ (l : List (Nat × C4)) (hl : vR l) (j : Nat) (hj : j + 1 < l.length), l[j].2 ≠ l[j + 1].2 := by
   intro l
   induction l with
   | nil => intro _ j hj; simp at hj
   | cons a l ih =>
    intro hl j hj
    cases j with
    | zero =>
     cases l with
     | nil => simp at hj
     | cons b l => exact hl.2.1
    | succ j => exact ih (vJ hl) j (by simpa using hj)
  exact fun e => key rs hg i h (qay e).symm
 ·have e : i + 1 = rs.length := by omega
  rw [e, Gx, qa4 (qaO _)]
  exact fun h => by cases h
theorem Ud (t : TL) : yd (kz t.l) (kz t.l).length = 64 := by rw [Gx, jF, t.h]
theorem QE {t : TL} {i : Nat} (hi : i < (kz t.l).length) : 1 ≤ (kz t.l)[i].1 ∧ yd (kz t.l) i + (kz t.l)[i].1 ≤ 64 := by
 refine ⟨gw (yA t.l) _ (qbf hi), ?_⟩
 have := QD hi
 rw [jF, t.h] at this
 exact this
theorem QF {t : TL} {i m : Nat} (hi : i < (kz t.l).length) (hm : m < (kz t.l)[i].1) : t.get (yd (kz t.l) i + m) = (kz t.l)[i].2 := by
 have := Gy hi hm
 rw [jF] at this
 unfold TL.get
 rw [qa2, this]
 rfl
theorem Ue {t : TL} {i : Nat} (hi : i < (kz t.l).length) (h64 : yd (kz t.l) i + (kz t.l)[i].1 < 64) : t.get (yd (kz t.l) i + (kz t.l)[i].1) ≠ (kz t.l)[i].2 := by
 have := Vw (yA t.l) hi
 rw [jF] at this
 unfold TL.get
 rw [qa2, qat (by rw [t.h]; exact h64)]
 rw [qat (by rw [t.h]; exact h64)] at this
 exact fun e => this (congrArg some e)
theorem YI : kZ [] = [] := rfl
def Vx (acc : List C4) : List C4 := acc ++ qaJ (64 - acc.length) zC4
def k8 (acc : List C4) : TL := if h : acc.length ≤ 64 then ⟨Vx acc, by unfold Vx; rw [qaD, qaS]; omega⟩ else zT
theorem zG {acc : List C4} (h : acc.length ≤ 64) : (k8 acc).l = Vx acc := by unfold k8; rw [dif_pos h]
theorem Gz : k8 [] = zT := TL.ext (by rw [zG (by decide)]; rfl)
theorem Uf {acc : List C4} {c : C4} (h : acc.length < 64) : (k8 acc).set acc.length c = k8 (acc ++ [c]) := TL.ext (by
 show ((k8 acc).l).set acc.length c = _
 rw [zG (by omega), zG (by simp; omega)]
 unfold Vx
 rw [List.set_append_right _ _ (qaO _), Nat.sub_self, qaD, show 64 - acc.length = (64 - (acc.length + [c].length)) + 1 by simp; omega, List.replicate_succ, zad, qa1]
 rfl)
theorem GA {acc : List C4} {c : C4} {k : Nat} (h : acc.length + k < 64) : (k8 (acc ++ qaJ k c)).set (acc.length + k) c = k8 (acc ++ qaJ (k + 1) c) := by
 have hl : (acc ++ qaJ k c).length = acc.length + k := by simp
 have := Uf (acc := acc ++ qaJ k c) (c := c) (by omega)
 rw [hl] at this
 rw [this, qa1, List.replicate_succ']
theorem Ug {acc : List C4} {c : C4} (h0 : 0 < acc.length) (h : acc.length ≤ 64) : (k8 acc).get (acc.length - 1) = c ↔ acc.getLast? = some c := by
 unfold TL.get
 rw [zG h]
 unfold Vx
 rw [qa2, qaN (by omega), List.getLast?_eq_getElem?, qat (by omega)]
 simp
theorem Vy {l : List C4} (h : l.length = 64) : k8 l = ⟨l, h⟩ := TL.ext (by rw [zG (by omega)]; unfold Vx; rw [h]; simp)
def bAt (B : List Int) (p : Nat) : Int := B.getD p 0
theorem AB {B : List Int} {p : Nat} (h : p < B.length) : bAt B p = B[p] := by unfold bAt; rw [qa2, qat h]; rfl
theorem wj {B : List Int} (hB : isB B) (p : Nat) : 0 ≤ bAt B p ∧ bAt B p ≤ 255 := by
 unfold bAt
 rw [qa2]
 cases h : B[p]? with
 | none => decide
 | some z => exact hB z (qbc h)
def kw (B : List Int) (p : Nat) : Int × C4 := (bAt B p, ⟨bAt B (p + 1), bAt B (p + 2), bAt B (p + 3), bAt B (p + 4)⟩)
theorem je {B : List Int} {p : Nat} (h : p < B.length) : B.drop p = bAt B p :: B.drop (p + 1) := by
 rw [List.drop_eq_getElem_cons h, AB h]
theorem mayG_iff {acc : List C4} {n : Int} {c : C4} : yc acc n c = true ↔ (1 ≤ n ∧ n ≤ 64 - (acc.length : Int)) ∧ acc.getLast? ≠ some c := by
 unfold yc
 simp [and_assoc]
def rdP (B : List Int) : Nat → List C4 → Nat → Option (List C4 × Nat)
 | 0, _, _ => none
 | f + 1, acc, p => if p + 5 ≤ B.length then (if yc acc (kw B p).1 (kw B p).2 = true then (if acc.length + (kw B p).1.toNat = 64 then some (acc ++ qaJ (kw B p).1.toNat (kw B p).2, p + 5) else rdP B f (acc ++ qaJ (kw B p).1.toNat (kw B p).2) (p + 5)) else none) else none
theorem Vz {f : Nat} {acc : List C4} : ∀ {b : List Int}, b.length < 5 → rdG (f + 1) acc b = none
 | [], _ => rfl
 | [_], _ => rfl
 | [_, _], _ => rfl
 | [_, _, _], _ => rfl
 | [_, _, _, _], _ => rfl
 | _ :: _ :: _ :: _ :: _ :: _, h => by simp at h; omega
theorem Uh (B : List Int) : ∀ (f : Nat) (acc : List C4) (p : Nat), p ≤ B.length → rdG f acc (B.drop p) = (rdP B f acc p).map fun x => (x.1, B.drop x.2)
 | 0, _, _, _ => rfl
 | f + 1, acc, p, h => by
  rw [rdP]
  by_cases h5 : p + 5 ≤ B.length
  ·rw [if_pos h5, je (by omega), je (p := p + 1) (by omega), je (p := p + 1 + 1) (by omega), je (p := p + 1 + 1 + 1) (by omega), je (p := p + 1 + 1 + 1 + 1) (by omega), rdG]
   show (if yc acc (kw B p).1 (kw B p).2 = true then (if acc.length + (kw B p).1.toNat = 64 then some (acc ++ qaJ (kw B p).1.toNat (kw B p).2, B.drop (p + 5)) else rdG f (acc ++ qaJ (kw B p).1.toNat (kw B p).2) (B.drop (p + 5))) else none) = _
   by_cases hm : yc acc (kw B p).1 (kw B p).2 = true
   ·rw [if_pos hm, if_pos hm]
    by_cases h6 : acc.length + (kw B p).1.toNat = 64
    ·rw [if_pos h6, if_pos h6]; rfl
    ·rw [if_neg h6, if_neg h6]; exact Uh B f _ (p + 5) h5
   ·rw [if_neg hm, if_neg hm]; rfl
  ·rw [if_neg h5, Vz (by rw [qaZ]; omega)]; rfl
theorem GB {B : List Int} {f : Nat} {acc l : List C4} {p q : Nat} (h : rdP B f acc p = some (l, q)) : p + 5 ≤ B.length ∧ yc acc (kw B p).1 (kw B p).2 = true ∧
  (acc.length + (kw B p).1.toNat = 64 → l = acc ++ qaJ (kw B p).1.toNat (kw B p).2 ∧ q = p + 5) ∧ (acc.length + (kw B p).1.toNat ≠ 64 → rdP B (f - 1) (acc ++ qaJ (kw B p).1.toNat (kw B p).2) (p + 5) = some (l, q)) := by
 cases f with
 | zero => cases h
 | succ f =>
  rw [rdP] at h
  split at h
  ·rename_i h5
   split at h
   ·rename_i hm
    split at h
    ·rename_i h6
     cases h
     exact ⟨h5, hm, fun _ => ⟨rfl, rfl⟩, fun h => absurd h6 h⟩
    ·rename_i h6
     exact ⟨h5, hm, fun h => absurd h h6, fun _ => h⟩
   ·cases h
  ·cases h
theorem Ui {B : List Int} {f : Nat} {acc : List C4} {p : Nat} (hf : 64 ≤ f + acc.length) (ha : acc.length < 64) (h : rdP B f acc p = none) (h5 : p + 5 ≤ B.length) (hm : yc acc (kw B p).1 (kw B p).2 = true) :
  acc.length + (kw B p).1.toNat < 64 ∧ 64 ≤ f - 1 + (acc.length + (kw B p).1.toNat) ∧ rdP B (f - 1) (acc ++ qaJ (kw B p).1.toNat (kw B p).2) (p + 5) = none := by
 cases f with
 | zero => omega
 | succ f =>
  rw [rdP, if_pos h5, if_pos hm] at h
  have h1 := (mayG_iff.1 hm).1
  split at h
  ·cases h
  ·rename_i h6
   exact ⟨by omega, by omega, h⟩
theorem YJ {B : List Int} : ∀ {f : Nat} {acc l : List C4} {p q : Nat}, rdP B f acc p = some (l, q) → q ≤ B.length ∧ p ≤ q ∧ l.length = 64
 | 0, _, _, _, _, h => by cases h
 | f + 1, acc, l, p, q, h => by
  obtain ⟨h5, hm, h1, h2⟩ := GB h
  by_cases h6 : acc.length + (kw B p).1.toNat = 64
  ·obtain ⟨rfl, rfl⟩ := h1 h6
   exact ⟨h5, by omega, by rw [qaD, qaS]; exact h6⟩
  ·obtain ⟨g1, g2, g3⟩ := YJ (h2 h6)
   exact ⟨g1, by omega, g3⟩
def rdN (B : List Int) (p : Nat) : Option (List C4 × Nat) := rdP B 64 [] p
theorem rdN_T {B : List Int} {p : Nat} (h : p ≤ B.length) : rdT (B.drop p) = (rdN B p).map fun x => (k8 x.1, B.drop x.2) := by
 have e := Uh B 64 [] p h
 unfold rdN
 cases hp : rdP B 64 [] p with
 | none =>
  rw [hp] at e
  cases ht : rdT (B.drop p) with
  | none => rfl
  | some x =>
   obtain ⟨t, rest⟩ := x
   have hb := rdT_iff.1 ht
   have := (uL (qaO 64)).2 ⟨t.h, hb⟩
   rw [this] at e
   cases e
 | some x =>
  obtain ⟨l, q⟩ := x
  rw [hp] at e
  obtain ⟨_, _, hl⟩ := YJ hp
  obtain ⟨_, hb⟩ := (uL (qaO 64)).1 e
  have : rdT (B.drop p) = some (⟨l, hl⟩, B.drop q) := rdT_iff.2 hb
  rw [this]
  show _ = some (k8 l, B.drop q)
  rw [Vy hl]
theorem YK {acc : List C4} {n : Int} {c : C4} (ha : acc.length < 64) : ((decide (n < 1) || decide (64 - (acc.length : Int) < n)) || (decide ((0 : Int) < (acc.length : Int)) && decide ((k8 acc).get (acc.length - 1) = c))) = !(yc acc n c) := by
 rw [Bool.eq_iff_iff, qaz, ← Bool.not_eq_true, mayG_iff]
 simp only [qaB, qav, decide_eq_true_eq]
 by_cases h0 : 0 < acc.length
 ·rw [Ug h0 (by omega)]
  constructor
  ·rintro ((h | h) | ⟨_, h⟩) ⟨g1, g2⟩
   ·omega
   ·omega
   ·exact g2 h
  ·intro h
   by_cases g : 1 ≤ n ∧ n ≤ 64 - (acc.length : Int)
   ·refine .inr ⟨by omega, Classical.byContradiction fun e => h ⟨g, e⟩⟩
   ·exact .inl (by omega)
 ·have e : acc = [] := qaW (by omega)
  subst e
  constructor
  ·rintro ((h | h) | ⟨h, _⟩) ⟨g1, _⟩
   ·omega
   ·omega
   ·simp at h
  ·intro h
   refine .inl ?_
   by_cases g : 1 ≤ n ∧ n ≤ 64 - (([] : List C4).length : Int)
   ·exact absurd ⟨g, by simp⟩ h
   ·omega
end Go.Proofs.YtofklkbfkoliiaaGreat
namespace Go.Proofs.YtofklkbfkoliiaaGreat
set_option linter.unusedVariables false
set_option linter.unusedSimpArgs false
open Go.RowKit
attribute [local irreducible] kz kZ yd
theorem X5 (t : TL) : DFun Tryz.prog 127 [.loc 0 0] [.flat 84 (tc t)] (.fn (.func 135) [] [.loc 1 0]) [.flat 84 (tc t), .mix 194 [.loc 0 0]] := by
 refine zap (N := 4) 1 (by kernel_rfl) Tryz.func127 rfl rfl rfl (by simp only [fr0, qau, qaw]; exact rfl) rfl fun s0 hs0 => ?_
 refine zae ?_
 refine zam 1 ?_
 refine zac ?_
 refine zaj rfl (ga 1 rfl (ev1 rfl) (fun s v h => by cases h <;> rfl) rfl) ?_
 refine zaa 1 rfl ?_
 refine zab ?_
 refine zah ?_
 refine za rfl (qV rfl en (ec (ev1 rfl) en)) ?_
 refine zaa 1 rfl ?_
 refine zab ?_
 refine qb ?_
 refine qY [0, 1] (rs1 rfl (qJ rfl)) rfl rfl ?_ ⟨rfl, rfl, trivial⟩
 rfl
abbrev Uj (l : List Int) : Mem := .arr 5 1 l.length (l.flatMap uc8)
def fmB (k : Nat) (l : List Int) : List Mem := qaJ k .gone ++ [Uj l]
theorem Uk (k : Nat) (l : List Int) : (fmB k l)[k]? = some (Uj l) := by
 unfold fmB
 rw [qaP (by simp)]
 simp
theorem X6 (k : Nat) (l : List Int) : (fmB k l).length = k + 1 := by simp [fmB]
theorem X7 (k : Nat) (l b : List Int) (n : Nat) (L : List Value) (hn : n = l.length + b.length) (hL : L = l.flatMap uc8 ++ b.flatMap uc8) : (fmB k l).set k .gone ++ [Mem.arr 5 1 n L] = fmB (k + 1) (l ++ b) := by
 subst hn hL
 unfold fmB
 rw [List.set_append_right _ _ (by simp), qaS, Nat.sub_self, List.replicate_succ']
 simp [Uj, qbg]
abbrev runV (r : Nat × C4) : List Value := .int .i64 (r.1 : Int) :: c4 r.2
theorem GC {rs : List (Nat × C4)} {i : Nat} (hi : i < rs.length) : kZ (rs.take (i + 1)) = kZ (rs.take i) ++ Gu rs[i] := by
 unfold kZ
 rw [qa0 hi, qbg]
 simp
noncomputable def trnA : Code := rfA (pth [1, 1, 0, 1, 0] (y1 Tryz.f111))
noncomputable def trnB : Code := rfB (pth [1, 1, 0, 1, 0] (y1 Tryz.f111))
theorem AC (r : Nat × C4) (hr : 1 ≤ r.1 ∧ r.1 ≤ 64) (k : Nat) (l : List Int) (hl : l.length ≤ 5000) : DRound Tryz.prog 0 [.val (.agg (runV r).toArray)] [.lp none 26 [(3, .loc 1 0)] #[6] trnA trnB .ready none, .mix 30 [.farr 2 (k)], .fam (fmB (k) (l))] true [.lp none 26 [(3, .loc 1 0)] #[6] trnA trnB .ready none, .mix 30 [.farr 2 (k + 1)], .fam (fmB (k + 1) (l ++ Gu r))] := by
 refine gb 3 rfl rfl (by simp) rfl rfl fun s0 hs0 => ?_
 refine zam 1 ?_
 refine zac ?_
 refine zaj rfl (zan 3 rfl wI rfl) ?_
 refine zar rfl (qQ rfl KB (ev1 rfl) (ev1 rfl) rfl rfl rfl rfl) ?_
 refine zab ?_
 refine ⟨rfl, ?_⟩
 simp only [zad, zaf]
 refine zas ?_
 refine zam 2 ?_
 refine zac ?_
 refine za rfl (zaq rfl kC (ev1 rfl) rfl rfl) ?_
 refine za rfl (qa rfl gI (ev1 rfl)) ?_
 refine za rfl (qi rfl tb3 (ev1 rfl) rfl rfl) ?_
 refine za rfl (jZ ty3 kn5 rfl (ev1 rfl) (fun _ => IntWalk.u8_in _ (by omega))) ?_
 refine za rfl (qa rfl g8 (ev1 rfl)) ?_
 refine za rfl (qa rfl Aq (ev1 rfl)) ?_
 refine za rfl (qi rfl tb5 (ev1 rfl) rfl rfl) ?_
 refine za rfl (qa rfl g8 (ev1 rfl)) ?_
 refine za rfl (qa rfl Ar (ev1 rfl)) ?_
 refine za rfl (qi rfl tb5 (ev1 rfl) rfl rfl) ?_
 refine za rfl (qa rfl g8 (ev1 rfl)) ?_
 refine za rfl (qa rfl As (ev1 rfl)) ?_
 refine za rfl (qi rfl tb5 (ev1 rfl) rfl rfl) ?_
 refine za rfl (qa rfl g8 (ev1 rfl)) ?_
 refine za rfl (qa rfl At (ev1 rfl)) ?_
 refine za rfl (qi rfl tb5 (ev1 rfl) rfl rfl) ?_
 refine za rfl (xo (ps := [(0, .tmp 10), (1, .tmp 13), (2, .tmp 16), (3, .tmp 19), (4, .tmp 22)]) rfl qu zr5 rfl (vc (ev1 rfl) (vc (ev1 rfl) (vc (ev1 rfl) (vc (ev1 rfl) (vc (ev1 rfl) vn))))) rfl (by decide) (by decide)) ?_
 refine zaj rfl (Qq (j1 := 4) (j2 := 5) rfl rfl qu zr5 rfl (ev1 rfl) (ev1 rfl) rfl (Uk k l) rfl rfl rfl (fun _ => rfl) (fun _ => ⟨by omega, by omega⟩)) ?_
 refine zar rfl (kL rfl kC (ev1 rfl) (ev1 rfl) (fun s v h => by cases h <;> exact ⟨rfl, rfl⟩) rfl (by first | decide | exact qaF rfl | simp)) ?_
 refine zab ?_
 refine ⟨by first | rfl | assumption | simp_all, rfl, [0, 1, 2], rfl, ⟨rfl, by rw [X6]; rfl, congrArg (fun B => some (Blk.fam B)) (X7 k l (Gu r) _ _ rfl rfl), trivial⟩⟩
theorem YL (t : TL) : DFun Tryz.prog 135 [.yld 0, .loc 4 0] [.lp none 26 [(3, .loc 1 0)] #[6] trnA trnB .ready none, .mix 30 [.farr 2 (0)], .fam (fmB (0) ([])), .flat 84 (tc t), .mix 194 [.loc 3 0]] (.tup []) [.lp none 26 [(3, .loc 1 0)] #[6] trnA trnB .ready none, .mix 30 [.farr 2 ((kz t.l).length)], .fam (fmB ((kz t.l).length) (gy t)), .flat 84 (tc t), .mix 194 [.loc 3 0]] := by
 refine zap (N := 35) 5 (by kernel_rfl) Tryz.func135 rfl rfl rfl (by simp only [fr0, qau, qaw]; exact rfl) rfl fun s0 hs0 => ?_
 refine zah ?_
 refine zaa 1 rfl ?_
 refine zab ?_
 refine zas ?_
 refine qI ⟨hs0, rfl⟩ (α := Nat) (fun i => [(3, .val (.int .i64 (yd (kz t.l) i : Int)))]) [(0, _), (1, _)] (fun i => [(1, .mix 30 [.farr 2 (i)]), (2, .fam (fmB (i) (kZ ((kz t.l).take i))))]) [_, .hole, .hole, _, _] (fun i => i ≤ (kz t.l).length) (fun i => (kz t.l).length - i) 0 [0, 1, 2, 3, 4] (qa5 _) rfl ⟨rfl, rfl, trivial⟩ ⟨by rw [Vv]; rfl, trivial⟩ ⟨rfl, rfl, by rw [List.take_zero, YI]; rfl, rfl, rfl, trivial⟩ ?_
 intro i hx
 simp only [upd, zad, zaf, qaE, qaH]
 have hi0 := hx
 have hbl : (kZ ((kz t.l).take i)).length ≤ 5000 := by
  have h1 := uK t.l
  have h2 := t.h
  rw [zD, qaT]; omega
 refine zae ?_
 refine zah ?_
 refine zaa 1 rfl ?_
 refine za rfl (qA rfl (ev1 rfl) (ev1 rfl)) ?_
 refine zab ?_
 refine qe rfl (fun c1 => ?_) (fun c1 => ?_)
 ·try simp only [decide_eq_true_eq, decide_eq_false_iff_not, beq_iff_eq, bne_iff_ne, beq_eq_false_iff_ne, bne_eq_false_iff_eq, qaz, qaA, qav, qaB, qax, ne_eq, Decidable.not_not, qaQ, qaR] at c1
  have hi : i < (kz t.l).length := by
   rcases Nat.lt_or_ge i (kz t.l).length with h | h
   ·exact h
   ·obtain rfl : i = (kz t.l).length := by omega
    rw [Ud] at c1
    omega
  obtain ⟨hn1, hn2⟩ := QE hi
  refine zao ?_
  refine zas ?_
  refine zae ?_
  refine zam 1 ?_
  refine zac ?_
  refine za rfl (zaq rfl Hm (ev1 rfl) rfl rfl) ?_
  refine zaa 1 rfl ?_
  refine za rfl (qw rfl (ev1 rfl) (fun s v h => by cases h; exact ⟨_, rfl⟩)) ?_
  refine za rfl (yn (j := yd (kz t.l) i) rfl z2 (ev1 rfl) (ev1 rfl) (fun _ => by omega) (fun _ => by omega)) ?_
  refine za rfl (uC (zC4) rfl vI (ev1 rfl) rfl (fun _ => rfl) (fun _ => by rw [TL.h]; omega)) ?_
  refine za rfl (kU (ps := [(1, .tmp 11)]) rfl Gm wI (vc (ev1 rfl) vn) rfl rfl) ?_
  refine zaj rfl (zan 5 rfl wI rfl) ?_
  refine zar rfl (qQ rfl KB (ev1 rfl) (ev1 rfl) rfl rfl rfl rfl) ?_
  refine zab ?_
  refine zae ?_
  refine zas ?_
  refine qI ⟨hs0, rfl⟩ (α := Nat) (fun m => [(3, .val (.int .i64 ((yd (kz t.l) i + m : Nat) : Int)))]) [(0, _), (1, _), (4, _)] (fun m => [(5, .flat 196 (runV (m, (kz t.l)[i].2)))]) [_, _, _, _, _, .hole] (fun m => m ≤ (kz t.l)[i].1) (fun m => (kz t.l)[i].1 - m) 0 [0, 1, 2, 3, 4, 5] (qa5 _) rfl ⟨rfl, rfl, rfl, trivial⟩ ⟨rfl, trivial⟩ ⟨rfl, rfl, rfl, rfl, rfl, by rw [← QF hi (m := 0) (by omega)]; rfl, trivial⟩ ?_
  intro m hx
  simp only [upd, zad, zaf, qaE, qaH]
  have hm0 := hx
  refine zae ?_
  refine zae ?_
  refine qg [([], []), ([], []), ([], []), ([4], []), ([], []), ([], []), ([], []), ([3], []), ([], []), ([5], []), ([], []), ([], [])] qU (by kernel_rfl) ?_
  refine zag rfl rfl (zal (.inl rfl) (ev1 rfl)) ?_
  refine zag rfl rfl (qA rfl (ev1 rfl) (ev1 rfl)) ?_
  refine zag rfl rfl (zal (.inl rfl) (ev1 rfl)) ?_
  refine qf (qz rfl rfl rfl) rfl rfl (zaq rfl Hm (ev1 rfl) rfl rfl) ?_
  refine qf (qz rfl rfl rfl) rfl rfl (zal (.inl rfl) (ev1 rfl)) ?_
  refine qf (qz rfl rfl rfl) rfl rfl (qw rfl (ev2 rfl) (fun s v h => by cases h; exact ⟨_, rfl⟩)) ?_
  refine qf (qz rfl rfl rfl) rfl rfl (yn (j := yd (kz t.l) i + m) rfl z2 (ev2 rfl) (ev2 rfl) (fun hp => by first | omega | (simp at hp; omega)) (fun hp => by first | omega | (simp at hp; omega))) ?_
  refine qf (qz rfl rfl rfl) rfl rfl (uC (zC4) rfl vI (ev2 rfl) rfl (fun _ => rfl) (fun hp => by rw [TL.h]; simp at hp; omega)) ?_
  refine qf (qz rfl rfl rfl) rfl rfl (qa rfl g8 (ev1 rfl)) ?_
  refine qf (qz rfl rfl rfl) rfl rfl (v7 rfl vI (ev2 rfl) rfl rfl rfl) ?_
  refine qf (qz rfl rfl rfl) rfl rfl (vv eq82 rfl gd82 vI (ev2 rfl) (ev2 rfl)) ?_
  refine zag rfl rfl (q0 rfl (ev1 rfl) (ev3 rfl id)) ?_
  refine qp ?_
  refine qe rfl (fun c3 => ?_) (fun c3 => ?_)
  ·have hmlt : m < (kz t.l)[i].1 := by
    rcases Nat.lt_or_ge m (kz t.l)[i].1 with h | h
    ·exact h
    ·obtain rfl : m = (kz t.l)[i].1 := by omega
     simp at c3
     exact absurd c3.2 (Ue hi (by omega))
   refine zao ?_
   refine zas ?_
   refine zah ?_
   refine za rfl (qa rfl gI (ev1 rfl)) ?_
   refine za rfl (qi rfl tb3 (ev1 rfl) rfl rfl) ?_
   refine za rfl (qh rfl (ev1 rfl) (ev1 rfl) (fun _ => qaC _ (by omega))) ?_
   refine za rfl (qa rfl gI (ev1 rfl)) ?_
   refine zar rfl (Yl rfl tb3 (ev1 rfl) (ev1 rfl) rfl (qaF rfl) rfl) ?_
   refine zab ?_
   refine zac ?_
   refine zaa 1 rfl ?_
   refine za rfl (qh rfl (ev1 rfl) (ev1 rfl) (fun _ => qaC _ (by omega))) ?_
   refine zaa 1 rfl ?_
   refine zab ?_
   refine ⟨m + 1, [0, 1, 2, 3, 4, 5], by omega, by simp only []; omega, rfl, ⟨rfl, rfl, rfl, rfl, trivial⟩, ⟨rfl, rfl, rfl, rfl, rfl, rfl, trivial⟩⟩
  ·have hmge : ¬ m < (kz t.l)[i].1 := fun h => by
    have h2 := QF hi h
    simp at c3
    exact c3 (by omega) h2
   refine qr ?_
   refine zah ?_
   refine zaa 1 rfl ?_
   refine za rfl (kv rfl KB (ev1 rfl) rfl rfl) ?_
   refine zaj rfl (u6 (i := 0) [0, 1, 2] [] [] rfl (ev1 rfl) (ec (ev1 rfl) en) rfl rfl rfl (AC (m, (kz t.l)[i].2) ⟨by omega, by omega⟩ i _ hbl) rfl rfl rfl rfl rfl) ?_
   refine za rfl (ko rfl (ev1 rfl)) ?_
   refine zab ?_
   refine qc rfl (rfl) ?_
   refine zao ?_
   have hmn : m = (kz t.l)[i].1 := by omega
   refine ⟨i + 1, [0, 1, 2, 3, 4], by omega, by simp only []; omega, rfl, ⟨by rw [Gw hi, hmn]; rfl, rfl, rfl, trivial⟩, ⟨rfl, rfl, by rw [GC hi, show Gu (kz t.l)[i] = Gu (m, (kz t.l)[i].2) by rw [hmn]]; rfl, rfl, rfl, trivial⟩⟩
 ·try simp only [decide_eq_true_eq, decide_eq_false_iff_not, beq_iff_eq, bne_iff_ne, beq_eq_false_iff_ne, bne_eq_false_iff_eq, qaz, qaA, qav, qaB, qax, ne_eq, Decidable.not_not, qaQ, qaR] at c1
  have hie : i = (kz t.l).length := by
   rcases Nat.lt_or_ge i (kz t.l).length with h | h
   ·have := QE h
    omega
   ·omega
  refine qr ?_
  subst hie
  refine qY [0, 1, 2, 3, 4] (qF rfl) rfl rfl ?_ ⟨?_, ?_, ?_, ?_, ?_, trivial⟩
  rfl
  all_goals first | exact rfl | exact (by rw [List.take_length]; rfl)
end Go.Proofs.YtofklkbfkoliiaaGreat
