/- Variables that stay, named by their addresses; contracts that give one of several things; what is fresh; How many entries a map has; rows of elements whose cells are all one; A struct whose fields are rows, stored into a part of a variable; Variables that hold a row of one's own that was nil; data told otherwise in a block; Rows cut with three bounds, in the middle: of memory that stays, and of one's own; Rounds of a range over a function that end by a panic; iterators that panic; Maps from numbers to ones: which keys are there, how many; what types are; numbers of sites: which may be; octet: widths, and what has one; octet: rows one behind the other; octet: numbers laid behind bytes; octet: numbers read from bytes; sizes; tiles, and canvases as they show; canvases shown, and new; What is laid and taken: a small theory of codes that can be joined; runs of equals, and their bytes; a tile . No condition. -/
import Derived.Test.YtofklkbfkoliiaaQ3
import Derived.Test.YtofklkbfkoliiaaRows
import Derived.Maps.RangeRun
import Derived.ArgAppend
set_option maxRecDepth 4000
set_option maxHeartbeats 1000000
open List renaming getElem?_eq_some_iff → qaj, getElem?_eq_getElem → qak, length_append → qap, cons_append → qas, getElem?_set_ne → qav, nil_append → qaw, replicate → qax, getElem?_set_self → qaz, getElem?_append_left → qaC, flatMap_cons → qaD, length_replicate → qaG, getElem?_append_right → qaH, length_cons → qaI, getD_eq_getElem?_getD → qaJ, take_of_length_le → qaK, eq_nil_of_length_eq_zero → qaL, all_eq_true → qaM, length_take → qaN, append_assoc → qaQ, length_drop → qaR, getElem?_eq_none → qaT, take_succ_eq_append_getElem → qaU, mem_cons_self → qaW, mem_cons_of_mem → qaX, mem_of_getElem? → qa0, getElem?_drop → qa2, range → qa3, length_nil → qa4, getElem?_map → qa5, append_nil → qa6, getElem_mem → qa7, ext_getElem? → qa9
open Nat renaming zero_add → qal, reduceAdd → qam, le_of_ble_eq_true → qaq, le_refl → qaE, le_trans → qaF, zero_le → qaZ, blt → qbb
open Bool renaming and_eq_true → qan, or_eq_false_iff → qar, not_eq_true' → qau, not_eq_false' → qay, or_eq_true → qaA
open Option.some renaming inj → qao
open Go.IntWalk renaming i64_in → qat
open Int renaming not_lt → qaO, not_le → qaP, toNat_natCast → qaV
open Array renaming replicate → qaY
namespace Go.Proofs.Ytofklkbfkoliiaa
set_option linter.unusedVariables false
set_option linter.unusedSimpArgs false
open Go.RowKit
section
variable {P : Program} {s0 : St} {n : Cx}
def DCallsI (P : Program) (f : FuncId) (args : List D) (Min : List Blk) (post : (Nat → Prop) → D → List Blk → Prop) : Prop :=
 yE P f = true ∧ ∀ (s : St) (vs : List Value), Ok s → s.M = Min → Reps s args vs → Calls P f vs.toArray s.w fun e w' =>
  ∃ s', s'.w = w' ∧ Tr s s' ∧ ∃ d v, e = .returned v ∧ Rep s' d v ∧ post s.I d s'.M
def DFunI (P : Program) (f : FuncId) (args : List D) (Min : List Blk) (post : (Nat → Prop) → D → Prop) (Mout : List Blk) : Prop :=
 DCallsI P f args Min fun I d M => post I d ∧ M = Mout
theorem Yq {f : FuncId} {fn : Func} {c : Code} {args : List D} {F0 : Fr} {Min : List Blk} {post : (Nat → Prop) → D → List Blk → Prop} {N : Nat} (m : Nat) (hcb : yE P f = true) (hf : P.funcs[f]? = some fn) (hc : fn.body = some c) (hn : fn.ntmps = N) (hle : Nat.ble args.length N = true) (hF : fr0 0 args = F0) (hm : Min.length = m)
  (h : ∀ s0 : St, s0.M.length ≤ m → dwp P s0 ⟨N, none, m, [], true⟩ c F0 Min (Kret P fn m [] (post s0.I) fun _ _ => False)) : DCallsI P f args Min post := by
 subst hF hm
 refine ⟨hcb, ?_⟩
 intro s vs ho hM hr
 obtain ⟨hl, hr⟩ := hr
 have hle := qaq hle
 have hslot : ∀ t d, lk (fr0 0 args) t = some d → Rep s d (jf { tmps := vs.toArray ++ qaY (fn.ntmps - vs.toArray.size) undef, defers := [] } t) := by
  intro t d hd
  obtain ⟨_, h2⟩ := uT args 0 t d hd
  simp only [Nat.sub_zero] at h2
  have hlt : t < args.length := (qaj.1 h2).1
  have hv : vs[t]? = some vs[t] := qak (by omega)
  have : jf { tmps := vs.toArray ++ qaY (fn.ntmps - vs.toArray.size) undef, defers := [] } t = vs[t] := by
   unfold jf
   simp only [Array.getD_eq_getD_getElem?]
   rw [Array.getElem?_append_left (by simp; omega)]
   simp [show t < vs.length by omega]
  rw [this]
  exact hr t d _ h2 hv
 have hs : s.M.length ≤ Min.length := by rw [hM]; exact qaE _
 have hb : zb P s ⟨N, none, Min.length, [], true⟩ fn Min.length (post s.I) (fun _ _ => False) c (fr0 0 args) Min := qE rfl hs (h s hs)
 have hcalls := callsIn_wide.1 (callsIn_of_wp_marks (F := Fence.wide) (n := 0) hf hc trivial (hb _ _ ⟨ho, s, hM, rfl, Tr.refl ho, hslot, by simp; omega, .nil⟩))
 refine Calls.mono hcalls ?_
 rintro e w' ⟨s', h1, h2, (⟨d, v, h3, h4, h5⟩ | ⟨_, _, _, _, h5⟩)⟩
 ·exact ⟨s', h1, h2, d, v, h3, h4, h5⟩
 ·exact h5.elim
theorem DFunI.fun {f : FuncId} {args : List D} {Min Mout : List Blk} {post : (Nat → Prop) → D → Prop} {d0 : D} (h : DFunI P f args Min post Mout) (hd : ∀ I d, post I d → Wk d d0) : DFun P f args Min d0 Mout := by
 refine ⟨h.1, fun s vs ho hM hr => Calls.mono (h.2 s vs ho hM hr) ?_⟩
 rintro e w' ⟨s', h1, h2, d, v, h3, h4, h5, h6⟩
 exact ⟨s', h1, h2, .inl ⟨d0, v, h3, hd _ _ h5 s' v h4, rfl, h6⟩⟩
theorem DFunI.of {f : FuncId} {args : List D} {Min Mout : List Blk} {post post' : (Nat → Prop) → D → Prop} (h : DFunI P f args Min post Mout) (hd : ∀ I d, post I d → post' I d) : DFunI P f args Min post' Mout := by
 refine ⟨h.1, fun s vs ho hM hr => Calls.mono (h.2 s vs ho hM hr) ?_⟩
 rintro e w' ⟨s', h1, h2, d, v, h3, h4, h5, h6⟩
 exact ⟨s', h1, h2, d, v, h3, h4, hd _ _ h5, h6⟩
theorem kendI {fn : Func} {F : Fr} {M Mo : List Blk} {d d' : D} {m : Nat} {post : (Nat → Prop) → D → Prop} {I : Nat → Prop} {pan : D → List Blk → Prop} (σ : List Nat) (hr : ResD P fn F M d) (hσ : okσ m σ = true) (hv : vw σ jw M d = some d') (h : post I d') (hM : MFits σ jw M σ Mo) : DEnd P fn m ((fun I d M => post I d ∧ M = Mo) I) pan [] none F M := .ret hr hσ hv hM ⟨h, rfl⟩
end
section
variable {P : Program} {pc : Bool} {o : Oper} {F : Fr} {M : List Blk}
end
theorem WY {s : St} (ho : Ok s) {j : Nat} {k : Blk} {h : Value} (hM : s.M[j]? = some k) (hl : k.live = true) (hh : s.β[j]? = some h) : Tr s ⟨s.β, fun b => s.I b ∨ jd k h b, s.M.set j .gone, s.w⟩ := by
 have hnd : ∀ (i : Nat) h, s.β[i]? = some h → h ≠ .nilFunc → s.β[i]? = some h := fun _ _ h _ => h
 have old : ∀ (i : Nat) k', (s.M.set j .gone)[i]? = some k' → k'.live = true → i ≠ j ∧ s.M[i]? = some k' := by
  intro i k' h1 h2
  by_cases e : i = j
  ·subst e
   rw [qaz (by have := (qaj.1 hM).1; exact this)] at h1
   cases h1; cases h2
  ·rw [qav (Ne.symm e)] at h1
   exact ⟨e, h1⟩
 have ne : ∀ (i : Nat) k' h' b, i ≠ j → s.M[i]? = some k' → k'.live = true → s.β[i]? = some h' → jd k' h' b → ¬ jd k h b := by
  intro i k' h' b e h1 h2 h3 h4 e2
  exact e (ho.inj i j k' k h' h b h1 h2 h3 h4 hM hl hh e2)
 have lv : ∀ b, Live ⟨s.β, fun b => s.I b ∨ jd k h b, s.M.set j .gone, s.w⟩ b → Live s b ∧ ¬ jd k h b := by
  rintro b ⟨i, k', h', h1, h2, h3, h4⟩
  obtain ⟨e, a⟩ := old i k' h1 h2
  exact ⟨ql a h2 h3 h4, ne i k' h' b e a h2 h3 h4⟩
 refine ⟨⟨by simp [ho.len], fun i k' h' h1 h2 => ?_, fun b hb => ?_, ?_, fun b hI => ?_⟩, jC hnd, fun _ h => .inl h, fun b h => ?_, fun b hb hn => rfl, fun b h => .inr (lv b h).1, rfl, rfl, rfl, qaE _⟩
 ·cases hk : k'.live with
  | false =>
   cases k' with
   | gone => trivial
   | hole =>
    by_cases e : i = j
    ·subst e
     rw [qaz (by have := (qaj.1 hM).1; exact this)] at h1
     cases h1
    ·rw [qav (Ne.symm e)] at h1
     exact ho.blk i _ h' h1 h2
   | _ => cases hk
  | true =>
   obtain ⟨e, a⟩ := old i k' h1 hk
   exact BlkOk.mono (s := s) (s' := ⟨s.β, fun b => s.I b ∨ jd k h b, s.M.set j .gone, s.w⟩) hnd (fun _ h => .inl h) (fun _ _ => rfl) (ho.blk i k' h' a h2) fun b hl' hb' => rfl
 ·obtain ⟨h1, h2⟩ := lv b hb
  exact ⟨(ho.lt b h1).1, fun hI => hI.elim (ho.lt b h1).2 h2⟩
 ·intro i i2 k1 k2 x x2 b a1 a2 a3 a4 c1 c2 c3 c4
  obtain ⟨_, a1⟩ := old i k1 a1 a2
  obtain ⟨_, c1⟩ := old i2 k2 c1 c2
  exact ho.inj i i2 k1 k2 x x2 b a1 a2 a3 a4 c1 c2 c3 c4
 ·rcases hI with hI | hI
  ·exact ho.il b hI
  ·exact (ho.lt b (ql hM hl hh hI)).1
 ·rcases h with h | h
  ·exact .inl h
  ·exact .inr (.inr (ql hM hl hh h))
section
variable {P : Program} {s0 : St} {n : Cx}
theorem Tr.live_new {s s' : St} (ho : Ok s) (t : Tr s s') {b : Nat} (h : Live s' b) : ¬ s.I b := fun hI => (t.lv b h).elim (fun e => absurd (ho.il b hI) (Nat.not_lt.2 e)) fun e => (ho.lt b e).2 hI
theorem XZ {F : Fr} {M : List Blk} {a : Act} {w : World} {t j : Nat} {T : TypeId} {L : List Value} (h : Inv s0 n F M a w) (ht : lk F t = some (.loc j 0)) (hj : M[j]? = some (.flat T L)) : ∃ b, ¬ s0.I b ∧ Inv s0 n ((t, .pin b L) :: F) (M.set j .gone) a w := by
 obtain ⟨h0, s, rfl, rfl, h3, h4, h5, h6⟩ := h
 have hjl := (qaj.1 hj).1
 obtain ⟨y, hy⟩ : ∃ y, s.β[j]? = some y := ⟨_, qak (by rw [h3.ok.len]; exact hjl)⟩
 obtain ⟨b, rfl, hc⟩ := h3.ok.blk j _ y hj hy
 have tt := WY h3.ok hj rfl hy
 have hlv : Live s b := ql hj rfl hy rfl
 refine ⟨b, h3.live_new h0 hlv, h0, ⟨s.β, fun c => s.I c ∨ jd (.flat T L) (.pointer (some ⟨b, 0, none⟩)) c, s.M.set j .gone, s.w⟩, rfl, rfl, h3.trans tt, fun z d hd => ?_, h5, h6.mono h3.ok tt⟩
 rw [jI] at hd
 split at hd
 ·rename_i e'
  subst e'
  obtain rfl := qao hd
  have hr := h4 t _ ht
  generalize hv : jf a t = v at hr
  cases hr with
  | @loc _ _ b' hβ =>
   rw [hy] at hβ
   cases hβ
   exact .pin (.inr rfl) (by simpa using qh hc 0) hc
 ·exact (h4 z d hd).mono h3.ok tt
theorem X0 {c : Code} {F : Fr} {M M' : List Blk} {K : Cont} (t : Nat) {j : Nat} {T : TypeId} {L : List Value} (ht : lk F t = some (.loc j 0)) (hj : M[j]? = some (.flat T L)) (hM' : M.set j .gone = M') (h : ∀ b, ¬ s0.I b → dwp P s0 n c ((t, .pin b L) :: F) M' K) : dwp P s0 n c F M K := by
 subst hM'
 intro a w hi
 obtain ⟨b, hb, hi'⟩ := XZ hi ht hj
 exact h b hb a w hi'
end
section
variable {P : Program} {pc : Bool} {o : Oper} {F : Fr} {M : List Blk}
theorem Vo {σ : List Nat} {V : Nat → Bool} {M : List Blk} {T : TypeId} {sz n n' : Nat} {l l' : List D} (hnl : D.nlL l = true) (hn : n = n') (hl : l = l') : (vwL σ V M l).map (Blk.arx T sz n) = some (Blk.arx T sz n' l') := by
 subst hn hl
 rw [wR σ V M l hnl]; rfl
theorem Wk.pin (b : Nat) (L : List Value) : Wk (.pin b L) (.dpf L) := fun s v hr => by cases hr with | pin hI h ho => exact .dpf hI h
theorem Wk.dpm {l l' : List D} (hw : WkL l l') (hn : D.nlL l' = true) : Wk (.dpm l) (.dpm l') := fun s v hr => by
 cases hr with
 | dpm hnl hI hc hl h => exact .dpm hn hI hc (by rw [← hw.1]; exact hl) (hw.rep h)
theorem Wk.slm {sz n : Nat} {l l' : List D} (hw : WkL l l') (hn : D.nlL l' = true) : Wk (.slm sz n l) (.slm sz n l') := fun s v hr => by
 cases hr with
 | slm hnl hl hn' hc ha hv h hm => exact .slm hn (by rw [← hw.1]; exact hl) hn' hc ha (by rw [← hw.1]; exact hv) (hw.rep h) (hm.imp (fun e => by subst e; exact qaL hw.1.symm) id)
end
end Go.Proofs.Ytofklkbfkoliiaa
namespace Go.Proofs.Ytofklkbfkoliiaa
set_option linter.unusedVariables false
set_option linter.unusedSimpArgs false
open Go.RowKit
theorem xv {Z : Array Value} {z0 : Value} (hZ : ∀ v ∈ Z, v = z0) (h0 : 0 < Z.size) (n : Nat) : (madeCells Z n).toList = qax n z0 := by
 rw [List.eq_replicate_iff]
 refine ⟨by rw [Array.length_toList, size_madeCells], fun b hb => ?_⟩
 unfold madeCells at hb
 rw [Array.toList_map, List.mem_map] at hb
 obtain ⟨i, _, rfl⟩ := hb
 have hi : i % Z.size < Z.size := Nat.mod_lt _ h0
 rw [getElem!_pos Z (i % Z.size) hi]
 exact hZ _ (Array.getElem_mem hi)
theorem Yr {P : Program} {pc : Bool} {o : Oper} {F : Fr} {M : List Blk} {T e : TypeId} {x y : Operand} {by' sz : Nat} (j n : Nat) {k k' : IntKind} {z z' : Int} (z0 : Value) {Z : List Value} (ho : o.op = .makeSlice T x y) (hT : slE P T = some (e, sz, by')) (hZ : zrC P e = some Z) (hz0 : Z = qax sz z0) (hsz : 0 < sz) (hx : Ev pc F x (.val (.int k z))) (hy : Ev pc F y (.val (.int k' z'))) (hz : pc = true → z = (n : Int)) (hz' : pc = true → z' = (n : Int)) (hj : M[j]? = some .hole) (hb : pc = true → by' * n ≤ 281474976710656 ∧ n ≤ 9223372036854775807) :
  DOp P pc o F M [j] (.arr j) [(j, .arr e sz n (qax (n * sz) z0))] := by
 intro hp a s hok hops hfp
 obtain ⟨e1, ti, e2, e3, e4⟩ := kU hT
 obtain ⟨ti', zv, q1, q2, q3⟩ := jD hZ
 rw [e2] at q1
 obtain rfl := qao q1
 have h1 := (qo hp hx (by simp [ho, Op.operands]) hops).val_eq
 have h2 := (qo hp hy (by simp [ho, Op.operands]) hops).val_eq
 rw [hz hp] at h1
 rw [hz' hp] at h2
 obtain ⟨b1, b2⟩ := hb hp
 have hj' : s.M[j]? = some .hole := by rw [hfp j (by simp)]; exact hj
 have hjl : j < s.β.length := by rw [hok.len]; exact (qaj.1 hj').1
 have hb3 : (ti.bytes : Int) * (n : Int) ≤ 281474976710656 := by
  have h : ((ti.bytes * n : Nat) : Int) ≤ 281474976710656 := by rw [e4]; omega
  rwa [Int.natCast_mul] at h
 have hrun := run_make (P := P) s.w T e ti zv e1 e2 q2 k k' n n (by omega) (Int.le_refl _) hb3 (by omega)
 simp only [qaV] at hrun
 have hc : ∀ v ∈ zv.cells, v = z0 := fun v hv => by
  have h : v ∈ Z := by rw [← q3]; exact Array.mem_toList_iff.2 hv
  rw [hz0] at h
  exact List.eq_of_mem_replicate h
 have hs0 : 0 < zv.cells.size := by
  have := congrArg List.length q3
  rw [Array.length_toList, hz0, qaG] at this
  omega
 have hrow := World.ownsRow_lit (base := 0) (e := e) (size := ti.size) s.w (madeCells zv.cells (n * ti.size)) n (qaZ _) (by unfold maxLen; omega) (size_madeCells _ _)
 rw [xv hc hs0, e3] at hrow
 rw [e3] at hrun
 refine k6 (s' := ⟨s.β.set j (.slice (some ⟨s.w.heap.size, 0, none⟩) n n), s.I, s.M.set j (.arr e sz n (qax (n * sz) z0)), _⟩) (v := .slice (some ⟨s.w.heap.size, 0, none⟩) n n) ?_ (gX hok hj' _ _ _ (by simp) (fun b hb => by cases hb; rfl) (fun b h => Below.heap_alloc _ _ _ h) (fun b hb => by cases hb; simp) (by simp) rfl rfl rfl hrow) rfl (.arr (by simp [hjl]))
 unfold execOp
 simp only [ho, h1, h2]
 exact kE hrun
end Go.Proofs.Ytofklkbfkoliiaa
namespace Go.Proofs.Ytofklkbfkoliiaa
set_option linter.unusedVariables false
set_option linter.unusedSimpArgs false
open Go.RowKit
section
variable {P : Program} {pc : Bool} {o : Oper} {F : Fr} {M : List Blk}
theorem yg {T T' : TypeId} {x y : Operand} {i p k : Nat} {rw' : Bool} {ds l R : List D} (ho : o.op = .store T x y) (hT : tyB P T = some (rw', k)) (hx : Ev pc F x (.loc i p)) (hy : Ev pc F y (.agg ds)) (hM : M[i]? = some (.mix T' l)) (hk : ds.length = k) (hfit : Nat.ble (p + k) l.length = true) (h1 : ds.all D.oc = true) (hR : l.take p ++ ds ++ l.drop (p + k) = R) : DOp P pc o F M [i] .junk [(i, .mix T' R)] := by
 have hfit' := qaq hfit
 subst hR
 intro hp a s hok hops hfp
 have hr := qo hp hx (by simp [ho, Op.operands]) hops
 have hry := qo hp hy (by simp [ho, Op.operands]) hops
 have hM' : s.M[i]? = some (.mix T' l) := by rw [hfp i (by simp)]; exact hM
 generalize hv : a.eval x = vx at hr
 generalize hvy : a.eval y = vy at hry
 cases hr with
 | @loc _ _ b h =>
  cases hry with
  | @agg _ vs hvl hd =>
   obtain ⟨b', L, e1, e2, e3, e4⟩ := hok.blk i _ _ hM' h
   cases e1
   have hcell := qh e2 0
   have hoc : ∀ u ∈ vs, u.oneCell' = true := fun u hu => by
    obtain ⟨j, hj, rfl⟩ := List.getElem_of_mem hu
    have hj2 : j < ds.length := by omega
    exact Yk (hd j _ _ (qak hj2) (qak hj)) (qaM.1 h1 _ (qa7 hj2))
   have hrun := ym (P := P) (w := s.w) (C := vs) ho hT hv hvy rfl (by omega) (fun j hj => by
     have hp' : p + j < L.length := by omega
     have := hcell (p + j) L[p + j] (by simp [hp'])
     rw [qal] at this
     rw [this]; rfl) (fun j hj => by simp [World.frozen?, e2]) hoc
   have hβ : s.β.set i (.pointer (some ⟨b, 0, none⟩)) = s.β := by
    apply qa9
    intro k
    by_cases e : i = k
    ·subst e; rw [qaz (qaj.1 h).1, h]
    ·rw [qav e]
   refine y9 (s' := ⟨s.β.set i (.pointer (some ⟨b, 0, none⟩)), s.I, s.M.set i (.mix T' (l.take p ++ ds ++ l.drop (p + k))), s.w.setCells b p vs⟩) hrun (yx hok hM' rfl h rfl p _ ?_) rfl
   have hlen : (l.take p ++ ds ++ l.drop (p + k)).length = l.length := by
    simp only [qap, qaN, qaR]
    omega
   refine ⟨b, jL L p vs, rfl, kV b vs p s.w L T' e2, by rw [gS, hlen, e3], fun j e v hj hv' => ?_⟩
   have lift : ∀ {e : D} {v : Value}, Rep s e v → Rep ⟨s.β.set i (.pointer (some ⟨b, 0, none⟩)), s.I, s.M.set i (.mix T' (l.take p ++ ds ++ l.drop (p + k))), s.w.setCells b p vs⟩ e v := by
    intro e v hr
    refine Rep.mono' (s := s) (s' := ⟨s.β.set i (.pointer (some ⟨b, 0, none⟩)), s.I, s.M.set i (.mix T' (l.take p ++ ds ++ l.drop (p + k))), s.w.setCells b p vs⟩) (fun k x hk _ => by show (s.β.set i _)[k]? = _; rw [hβ]; exact hk) (fun _ h => h) (fun b' hI => ja b _ p s.w b' fun e => ?_) hr
    subst e
    exact (hok.lt b' (ql hM' rfl h rfl)).2 hI
   rw [gm vs L p (by omega)] at hv'
   by_cases h1 : j < p
   ·rw [qaQ, qaC (by simp; omega), List.getElem?_take_of_lt h1] at hj hv'
    exact lift (e4 j e v hj hv')
   ·rw [qaQ, qaH (by simp; omega)] at hj hv'
    rw [qaN, Nat.min_eq_left (by omega)] at hj hv'
    by_cases h2 : j - p < k
    ·rw [qaC (by omega)] at hj hv'
     exact lift (hd _ e v hj hv')
    ·rw [qaH (by omega), qa2] at hj hv'
     rw [hvl, hk] at hv'
     rw [hk, show p + k + (j - p - k) = j by omega] at hj
     rw [show p + k + (j - p - k) = j by omega] at hv'
     exact lift (e4 j e v hj hv')
end
end Go.Proofs.Ytofklkbfkoliiaa
namespace Go.Proofs.Ytofklkbfkoliiaa
set_option linter.unusedVariables false
set_option linter.unusedSimpArgs false
open Go.RowKit
theorem Jj {e : TypeId} {sz : Nat} : ∀ s h, BlkOk s h (.arx e sz 0 []) → BlkOk s h (.arr e sz 0 []) := fun s h hk => by
 obtain ⟨vs, h1, h2, _⟩ := hk
 obtain rfl : vs = [] := qaL (by simpa using h2)
 exact h1
theorem Jk {T : TypeId} {l l' : List D} (h : WkL l l') : ∀ s hd, BlkOk s hd (.mix T l) → BlkOk s hd (.mix T l') := fun s hd hk => by
 obtain ⟨b, vs, e1, e2, e3, e4⟩ := hk
 exact ⟨b, vs, e1, e2, by rw [e3, h.1], h.rep e4⟩
theorem WkL.app {a b c d : List D} (h : WkL a b) (k : WkL c d) : WkL (a ++ c) (b ++ d) := by
 refine ⟨by rw [qap, qap, h.1, k.1], fun j x y h1 h2 => ?_⟩
 by_cases hj : j < a.length
 ·rw [qaC hj] at h1
  rw [qaC (by rw [← h.1]; exact hj)] at h2
  exact h.2 j x y h1 h2
 ·rw [qaH (by omega)] at h1
  rw [qaH (by rw [← h.1]; omega), ← h.1] at h2
  exact k.2 _ x y h1 h2
section
variable {P : Program} {s0 : St} {n : Cx}
theorem Ys {F : Fr} {M : List Blk} {a : Act} {w : World} {T e : TypeId} {p q i sz m : Nat} {l : List D} {L : List Value} (h : Inv s0 n F M a w) (hM : M[p]? = some (.mix T l)) (hq : l[q]? = some (.arr i)) (hi : M[i]? = some (.arr e sz m L)) : Inv s0 n F ((M.set i .gone).set p (.mix T (l.set q (.slf sz m L)))) a w := by
 obtain ⟨h0, s, rfl, rfl, h3, h4, h5, h6⟩ := h
 have hpl : p < s.M.length := (qaj.1 hM).1
 have hil : i < s.M.length := (qaj.1 hi).1
 have hpi : p ≠ i := fun e => by subst e; rw [hM] at hi; cases hi
 have hpl' : p < s.β.length := by rw [h3.ok.len]; exact hpl
 have hil' : i < s.β.length := by rw [h3.ok.len]; exact hil
 have hβi : s.β[i]? = some s.β[i] := qak (by rw [h3.ok.len]; exact hil)
 have hβp : s.β[p]? = some s.β[p] := qak (by rw [h3.ok.len]; exact hpl)
 obtain ⟨b, vs, e1, e2, e3, e4⟩ := h3.ok.blk p _ _ hM hβp
 have hql : q < l.length := (qaj.1 hq).1
 have hcell : vs[q]? = some s.β[i] := by
  have hv : vs[q]? = some vs[q] := qak (by omega)
  have := e4 q _ _ hq hv
  rw [hv]
  generalize vs[q] = x at this
  cases this with
  | arr h => exact h.symm.trans hβi
 obtain ⟨I', tt, hrep⟩ := Ge h3.ok hi (e4 q _ _ hq hcell)
 have hM2 : (s.M.set i .gone)[p]? = some (.mix T l) := by rw [qav (Ne.symm hpi)]; exact hM
 have hset : s.β.set p s.β[p] = s.β := List.set_getElem_self ..
 have t2 : Tr ⟨s.β, I', s.M.set i .gone, s.w⟩ ⟨s.β, I', (s.M.set i .gone).set p (.mix T (l.set q (.slf sz m L))), s.w⟩ := by
  have hst := kT tt.ok p (s.M.set i .gone) s.β[p] (.mix T (l.set q (.slf sz m L))) s.w rfl (fun i k h => .inl h) (by simpa using hpl) (.inr (.inl hβp)) (by rw [e1]; simp) ?_ (fun b' hb' j kj hj hne h1 h2 h3' h4' => ?_) (fun b' hb' => .inr (ql hM2 rfl hβp hb')) (fun b' hb' => (tt.ok.lt b' (ql hM2 rfl hβp hb')).1) (fun _ => False) (fun _ h => h.elim) (fun b' hlt hne _ => rfl) rfl rfl rfl (qaE _)
  ·have hst' := hst
   simp only [hset] at hst'
   exact hst'
  ·refine ⟨b, vs, e1, e2, by simp [e3], fun j d v g1 g2 => ?_⟩
   have lift : ∀ {d v}, Rep s d v → Rep ⟨s.β.set p s.β[p], I', (s.M.set i .gone).set p (.mix T (l.set q (.slf sz m L))), s.w⟩ d v := fun hr => by
    rw [hset]
    exact Rep.mono' (s := ⟨s.β, I', s.M.set i .gone, s.w⟩) (s' := ⟨s.β, I', (s.M.set i .gone).set p (.mix T (l.set q (.slf sz m L))), s.w⟩) (fun _ _ h _ => h) (fun _ h => h) (fun _ _ => rfl) (hr.mono h3.ok tt)
   by_cases e : q = j
   ·subst e
    rw [qaz hql] at g1
    cases g1
    rw [hcell] at g2
    cases g2
    rw [hset]
    exact Rep.mono' (s := ⟨s.β, I', s.M.set i .gone, s.w⟩) (s' := ⟨s.β, I', (s.M.set i .gone).set p (.mix T (l.set q (.slf sz m L))), s.w⟩) (fun _ _ h _ => h) (fun _ h => h) (fun _ _ => rfl) hrep
   ·rw [qav e] at g1
    exact lift (e4 j d v g1 g2)
  ·exact hne (tt.ok.inj j p kj _ hj _ b' h1 h2 h3' h4' hM2 rfl hβp hb')
 exact ⟨h0, ⟨s.β, I', (s.M.set i .gone).set p (.mix T (l.set q (.slf sz m L))), s.w⟩, rfl, rfl, (h3.trans tt).trans t2, fun x d hd => ((h4 x d hd).mono h3.ok tt).mono tt.ok t2, h5, (h6.mono h3.ok tt).mono tt.ok t2⟩
theorem Yt {c : Code} {F : Fr} {M M' : List Blk} {K : Cont} (p q : Nat) {T e : TypeId} {i sz m : Nat} {l : List D} {L : List Value} (hM : M[p]? = some (.mix T l)) (hq : l[q]? = some (.arr i)) (hi : M[i]? = some (.arr e sz m L)) (hM' : (M.set i .gone).set p (.mix T (l.set q (.slf sz m L))) = M') (h : dwp P s0 n c F M' K) : dwp P s0 n c F M K := by
 subst hM'
 exact fun a w hj => h a w (Ys hj hM hq hi)
end
theorem Qo {s : St} (h : Ok s) : Tr s ⟨s.β, s.I, s.M.map fun _ => Blk.gone, s.w⟩ := by
 have hg : ∀ (i : Nat) k, (s.M.map fun _ => Blk.gone)[i]? = some k → k = .gone := fun i k hk => by
  rw [qa5] at hk
  cases hm : s.M[i]? with
  | none => rw [hm] at hk; cases hk
  | some x => rw [hm] at hk; exact (qao hk).symm
 have nl : ∀ b, ¬ Live ⟨s.β, s.I, s.M.map fun _ => Blk.gone, s.w⟩ b := by
  rintro b ⟨i, k, hd, h1, h2, h3, h4⟩
  rw [hg i k h1] at h2
  cases h2
 refine ⟨⟨by simp [h.len], fun i k hd h1 h2 => ?_, fun b hb => (nl b hb).elim, fun i j k k' hd hd' b a1 a2 _ _ _ _ _ _ => ?_, h.il⟩, hkeep.refl _, fun _ h => h, fun _ h => .inl h, fun _ _ _ => rfl, fun b hb => (nl b hb).elim, rfl, rfl, rfl, qaE _⟩
 ·rw [hg i k h1]
  trivial
 ·rw [hg i k a1] at a2
  cases a2
abbrev DPanL (P : Program) (f : FuncId) (args : List D) (Min : List Blk) (d : D) : Prop :=
 DCalls P f args Min (fun _ _ => False) (fun d' M' => d' = d ∧ M'.length = Min.length)
theorem DPanL.dead {P : Program} {f : FuncId} {args : List D} {Min : List Blk} {d : D} (h : DPanL P f args Min d) : DPan P f args Min d (Min.map fun _ => Blk.gone) := by
 refine ⟨h.1, fun s vs hok hM hr => (h.2 s vs hok hM hr).mono ?_⟩
 rintro e w' ⟨s', rfl, ht, hor⟩
 rcases hor with ⟨d0, v, _, _, hf⟩ | ⟨d0, v, rfl, hrep, rfl, hMo⟩
 ·exact hf.elim
 ·refine ⟨⟨s'.β, s'.I, s'.M.map fun _ => Blk.gone, s'.w⟩, rfl, ht.trans (Qo ht.ok), .inr ⟨d0, v, rfl, Rep.mono' (s := s') (s' := ⟨s'.β, s'.I, s'.M.map fun _ => Blk.gone, s'.w⟩) (fun _ _ h _ => h) (fun _ h => h) (fun _ _ => rfl) hrep, rfl, ?_⟩⟩
  show (s'.M.map fun _ => Blk.gone) = Min.map fun _ => Blk.gone
  rw [List.map_const', List.map_const', hMo]
theorem yW {P : Program} {fn : Func} {F : Fr} {M : List Blk} {d d' dr : D} {m k : Nat} {Mo : List Blk} {post : D → List Blk → Prop} (σ : List Nat) (hσ : okσ m σ = true) (hv : vw σ jw M d = some d') (h : d' = dr) (hM : MFits σ jw M σ Mo) (hl : Mo.length = k) : DEnd P fn m post (fun d M => d = dr ∧ M.length = k) [] (some d) F M := .pan hσ hv hM ⟨h, hl⟩
end Go.Proofs.Ytofklkbfkoliiaa
namespace Go.Proofs.Ytofklkbfkoliiaa
set_option linter.unusedVariables false
set_option linter.unusedSimpArgs false
open Go.RowKit
section
variable {P : Program} {pc : Bool} {o : Oper} {F : Fr} {M : List Blk}
theorem wT {α : Type} {en : α → List Value} {sz : Nat} (hen : ∀ a, (en a).length = sz) : ∀ (r : List α) (m : Nat), (r.take m).flatMap en = (r.flatMap en).take (m * sz)
 | r, 0 => by simp
 | [], m + 1 => by simp
 | x :: r, m + 1 => by
  have e : (en x).take (sz + m * sz) = en x := qaK (by rw [hen]; omega)
  rw [List.take_succ_cons, qaD, qaD, wT hen r m, Nat.add_mul, Nat.one_mul, Nat.add_comm, List.take_append, e, hen, Nat.add_sub_cancel_left]
theorem xN {α : Type} {en : α → List Value} {r : List α} {T e : TypeId} {sz by' : Nat} {x lo hi mx : Operand} {k k' k'' : IntKind} {h h' h'' : Int} {i j : Nat} (ho : o.op = .slice T x (some lo) (some hi) (some mx)) (hT : slE P T = some (e, sz, by')) (hx : Ev pc F x (.slf sz r.length (r.flatMap en))) (hlo : Ev pc F lo (.val (.int k'' h''))) (hhi : Ev pc F hi (.val (.int k h))) (hmx : Ev pc F mx (.val (.int k' h')))
  (hl : pc = true → h'' = (i : Int)) (hh : pc = true → h = (j : Int)) (hm : pc = true → h' = (j : Int)) (hi : pc = true → i ≤ j ∧ j ≤ r.length) (hen : ∀ a, (en a).length = sz) : DOp P pc o F M [] (.slf sz ((r.drop i).take (j - i)).length (((r.drop i).take (j - i)).flatMap en)) [] := by
 intro hp a s hok hops _
 have hr := qo hp hx (by simp [ho, Op.operands]) hops
 have e0 := (qo hp hlo (by simp [ho, Op.operands]) hops).val_eq
 have e1 := (qo hp hhi (by simp [ho, Op.operands]) hops).val_eq
 have e2 := (qo hp hmx (by simp [ho, Op.operands]) hops).val_eq
 rw [hl hp] at e0
 rw [hh hp] at e1
 rw [hm hp] at e2
 obtain ⟨hij, hjr⟩ := hi hp
 obtain ⟨q1, ti, q2, q3, q4⟩ := kU hT
 have hlen : ((r.drop i).take (j - i)).length = j - i := by rw [qaN, qaR]; omega
 generalize hv : a.eval x = vx at hr
 cases hr with
 | @slf _ _ cap ad _ hl hn hc ha hL =>
  have hjc : j ≤ cap := by omega
  have hic : i ≤ cap := by omega
  have hrun : (execOp a.eval o).run P s.w = .ok (.value (.slice (if j - i = 0 then ad else ad.map (·.add (i * sz))) (j - i) (j - i))) s.w := by
   unfold execOp
   simp only [ho, hv, Option.map_some, e0, e1, e2]
   refine kE ?_
   simp [Instr.sliceAt, Instr.slice, run_underlying q1, Sem.run_bind, Instr.sliceBounds, Instr.sliceBound, asIntOf, hjc, hij, hic, sizeOf, typeInfo, q2, q3]
   congr 1
   exact propext ⟨fun h => by omega, fun h => by omega⟩
  refine qN hok hrun ?_
  rw [hlen]
  refine .slf (by rw [jN hen, hlen]) (qaE _) (by omega) (fun e => ?_) ?_
  ·split at e
   ·assumption
   ·rw [Option.map_eq_none_iff] at e
    have := ha e; omega
  ·rcases hL with hL | ⟨b, q, e, hI, hcl⟩
   ·left
    rw [wT hen, wP hen, hL]; simp
   ·by_cases hz : j - i = 0
    ·left
     rw [qaL (hlen.trans hz)]; rfl
    ·right
     refine ⟨b, q + i * sz, by rw [if_neg hz, e, Option.map_some, Addr.add_mid], hI, ?_⟩
     rw [wT hen, wP hen]
     exact qM hcl (i * sz) ((j - i) * sz)
end
end Go.Proofs.Ytofklkbfkoliiaa
namespace Go.Proofs.Ytofklkbfkoliiaa
set_option linter.unusedVariables false
set_option linter.unusedSimpArgs false
open Go.RowKit
section
variable {P : Program}
theorem u6 {F : Fence} {k : Nat} {P : Program} {l : Nat} {f : FuncId} {fn : Func} {tmps : Array Value} {assign body : Code} {w : World} {R : Ending → World → Prop} (hF : F.fn f) (hf : P.funcs[f]? = some fn)
  (h : assign.wpIn (F.inRound l) k P (Exit.then (fun a₁ w₁ => ∃ w₂, (Instr.beginRound l).run P w₁ = .ok () w₂ ∧ body.wpIn (F.inRound l) k P (fun e a w => ∃ ch, e = .panic ch ∧ a.defers = [] ∧ R (.panicked ch) w) a₁ w₂) (fun _ _ _ => False))
   { tmps := tmps, defers := [] } w) :
  RoundIn F k P l f tmps assign body w R := by
 refine ⟨hF, fun c cs hr => ?_⟩
 let b : Frame := { (default : Frame) with fn := f, kind := .normal, roundOf := some l }
 have hb0 : Frame.round l f tmps assign body .normal = b.atR { tmps := tmps, defers := [] } [.code assign, .beginRound, .code body] := by
  simp [Frame.round, Frame.atR, b]
 have hr' : (F.inRound l).room ((c :: cs).length + 1 + k) := hr
 have hF' : (F.inRound l).fn b.fn := hF
 obtain ⟨e, a₁, w₁, hq, harr⟩ := h b [.beginRound, .code body] (c :: cs) rfl hF' hr'
 rw [← hb0] at harr
 cases e with
 | normal =>
  obtain ⟨w₂, hbr, hbody⟩ := hq
  have s1 : StepsIn (Machine.fenced P (F.inRound l)) P (lone (b.atR a₁ [.beginRound, .code body]) (c :: cs) w₁) (lone (b.atR a₁ [.code body]) (c :: cs) w₂) :=
   .one (fenced_calm (fr := b.atR a₁ [.beginRound, .code body]) hF' hr' rfl) (stepR_beginRound rfl hbr)
  obtain ⟨e₂, a₂, w₃, ⟨ch, rfl, hd, hR⟩, harr₂⟩ := hbody b [] (c :: cs) rfl hF' hr'
  obtain ⟨todo, hs⟩ := harr₂
  exact ⟨.panicked ch, w₃, hR, (StepsIn.trans harr s1).trans (StepsIn.trans hs (.one (fenced_calm hF' hr' (by simp [Frame.about, Frame.atR, hd])) (step_leave_panicked ⟨rfl, hd, fn, hf⟩)))⟩
 | exit id => exact hq.elim
 | goto t => exact hq.elim
 | ret => exact hq.elim
 | panic chain => exact hq.elim
 | outgrown => exact hq.elim
theorem Gh {s0 s : St} {ds : List Deferred} (h : DfOk s0 s false [] ds) : ds = [] := by
 cases h with
 | nil => rfl
 | mark hmk => cases hmk
def DRoundP (P : Program) (i : Nat) (args : List D) (Min : List Blk) (d : D) (Mout : List Blk) : Prop :=
 ∀ (s : St) (vs : List Value) (l : Nat), Ok s → s.M = Min → s.β[i]? = some (.pointer (some ⟨l, 0, none⟩)) → Reps s args vs →
  ∃ f tmps asg body, (Instr.yield l vs.toArray).run P s.w = .ok (.round l f tmps asg body) s.w ∧
   RoundIn Fence.wide 0 P l f tmps asg body s.w fun e w' => ∃ s' v, e = .panicked [{ v := v, recovered := false }] ∧ s'.w = w' ∧ Tr s s' ∧ s'.M = Mout ∧ Rep s' d v
def KrndP (m : Nat) (d : D) : Cont
 | .panic d0, _, M => ∃ σ Mo, okσ m σ = true ∧ vw σ jw M d0 = some d ∧ MFits σ jw M σ Mo ∧ Mo.length = m
 | _, _, _ => False
theorem Yu {d : D} {fk : FuncId} {gk : Func} {i N : Nat} {F F1 : Fr} {ps : Array Tmp} {asg body : Code} {args : List D} {Min : List Blk} (m : Nat) (hfn : P.funcs[fk]? = some gk) (hMi : Min[i]? = some (.lp (some fk) N F ps asg body .ready none)) (hps : ps.size = args.length) (hpN : ps.all (fun p => qbb p N) = true) (hF : Vb ps.toList args F = F1) (hm : Min.length = m)
  (h : ∀ s0 : St, s0.M.length ≤ m → dwp P s0 ⟨N, some i, m, [], false⟩ asg F1 Min (Kseq (fun F2 M2 => M2[i]? = some (.lp (some fk) N F ps asg body .ready none) ∧ dwp P s0 ⟨N, some i, m, [], false⟩ body F2 (M2.set i (.lp (some fk) N F ps asg body .busy none)) (KrndP m d)) (fun _ _ _ => False))) :
  DRoundP P i args Min d (Min.map fun _ => Blk.gone) := by
 subst hm hF
 intro s vs l hok hM hβ hr
 subst hM
 obtain ⟨l', fn, tmps, Df, e1, e2, e3, e4⟩ := hok.blk i _ _ hMi hβ
 cases e1
 replace e2 : s.w.heap[l]? = some (gL fk tmps Df ps asg body .ready none) := e2
 have hrun := run_yield (P := P) (args := vs.toArray) e2 (by simp [hr.1, hps])
 refine ⟨fk, _, asg, body, hrun, u6 trivial hfn ?_⟩
 have hρ : (Cx.mk N (some i) s.M.length [] false).ρ s = some l := by simp [Cx.ρ, hβ]
 have hs := h s (qaE _)
 have hset := Je (s := s) ps.toList args vs F { tmps, defers := [] } hr (by simpa using hps) (fun p hp => by
  have := Array.all_eq_true_iff_forall_mem.1 hpN p (by simpa using hp)
  rw [e3]; exact Nat.blt_eq.mp this) e4
 have hz : (ps.zip vs.toArray).foldl (fun t (p, v) => t.setIfInBounds p v) tmps = (ps.toList.zip vs).foldl (fun t (p, v) => t.setIfInBounds p v) tmps := by
  rw [← Array.foldl_toList]; simp
 rw [hz]
 have hinv : Inv s ⟨N, some i, s.M.length, [], false⟩ (Vb ps.toList args F) s.M { tmps := (ps.toList.zip vs).foldl (fun t (p, v) => t.setIfInBounds p v) tmps, defers := [] } s.w :=
  ⟨hok, s, rfl, rfl, Tr.refl hok, hset.1, hset.2.trans e3, .nil⟩
 have h1 := hs _ _ hinv
 rw [hρ] at h1
 refine wpIn_mono h1 ?_
 intro e a w hp
 cases e with
 | normal =>
  obtain ⟨F2, M2, ⟨h0, s1, q1, q2, q3, q4, q5, q6⟩, hM2, hbody⟩ := hp
  subst q2
  have hβ1 := q3.hnd.1 i _ hβ (by simp) (by simp)
  have hM1 : s1.M[i]? = some (.lp (some fk) N F ps asg body .ready none) := by rw [q1]; exact hM2
  obtain ⟨l1, fn1, tmps1, Df1, g1, g2, g3, g4⟩ := q3.ok.blk i _ _ hM1 hβ1
  cases g1
  have ht := Jd q3.ok .busy none hM1 hβ1 g2 g3 g4
  refine ⟨_, run_beginRound g2 rfl, ?_⟩
  have hb := hbody a _ ⟨h0, ⟨s1.β, s1.I, s1.M.set i (.lp (some fk) N F ps asg body .busy none), s1.w.putObj l (gL ((some fk).getD fn1) tmps1 Df1 ps asg body .busy none)⟩, by rw [q1], rfl, q3.trans ht, q4.mono q3.ok ht, q5, q6.mono q3.ok ht⟩
  rw [hρ] at hb
  refine wpIn_mono hb ?_
  intro e a w hp
  cases e with
  | normal => obtain ⟨_, _, _, hk⟩ := hp; exact hk.elim
  | ret => obtain ⟨_, _, _, hk⟩ := hp; exact hk.elim
  | exit id => obtain ⟨_, _, _, hk⟩ := hp; exact hk.elim
  | goto id => obtain ⟨_, _, _, hk⟩ := hp; exact hk.elim
  | panic ch =>
   obtain ⟨F3, M3, d3, ⟨h03, s3, v3, r0, r1, r2, r3, r4, r5, r6⟩, σ, Mo, hσ, hv, hMo, hlo⟩ := hp
   subst r0 r1
   obtain ⟨rfl, r7⟩ := r6
   have tv := vJ hok r2 (jx σ Mo hMo) (qaE _) hσ
   have hr := j3 (M' := Mo) r2.ok r7 d hv
   refine ⟨_, rfl, Gh r5, ⟨(vst s3 σ jw Mo).β, (vst s3 σ jw Mo).I, (vst s3 σ jw Mo).M.map fun _ => Blk.gone, (vst s3 σ jw Mo).w⟩, v3, rfl, rfl, tv.trans (Qo tv.ok), ?_, Rep.mono' (s := vst s3 σ jw Mo) (s' := ⟨(vst s3 σ jw Mo).β, (vst s3 σ jw Mo).I, (vst s3 σ jw Mo).M.map fun _ => Blk.gone, (vst s3 σ jw Mo).w⟩) (fun _ _ h _ => h) (fun _ h => h) (fun _ _ => rfl) hr⟩
   show (Mo.map fun _ => Blk.gone) = s.M.map fun _ => Blk.gone
   rw [List.map_const', List.map_const', hlo]
  | outgrown => exact hp.elim
 | ret => obtain ⟨_, _, _, hk⟩ := hp; exact hk
 | exit id => obtain ⟨_, _, _, hk⟩ := hp; exact hk
 | goto id => obtain ⟨_, _, _, hk⟩ := hp; exact hk
 | panic ch => obtain ⟨_, _, _, _, hk⟩ := hp; exact hk
 | outgrown => exact hp
theorem op_yP {pc : Bool} {o : Oper} {F : Fr} {M Min Mout : List Blk} {x : Operand} {asx : List Operand} {tys : Array TypeId} {ds cargs : List D} {i j : Nat} {d0 d : D} {wr : List (Nat × Blk)} (σ V ν : List Nat)
  (ho : o.op = .call { callee := .value x, args := asx.toArray, argTypes := tys }) (hx : Ev pc F x (.yld j)) (hds : EvL pc F asx ds) (hij : σ[i]? = some j)
  (hc : vwL σ (fun i => V.contains i) M ds = some cargs) (hMin : gA σ (fun i => V.contains i) M σ = some Min) (hy : DRoundP P i cargs Min d0 Mout)
  (hlive : Min.all (·.live) = true) (hn : decide (σ ++ ν).Nodup = true) (hν : ν.all (fun i => match M[i]? with | some .hole => true | _ => false) = true)
  (hwr : yv (σ ++ ν) (σ ++ ν) Mout = some wr) (hd : sb (σ ++ ν) d0 = some d) (hfl : (V.isEmpty || (d0.fl && Mout.all (·.fl))) = true) : DOpP P pc o F M (σ ++ V ++ ν) d wr := by
 intro hp a s hok hops hfp
 have hVM : ∀ i, V.contains i = true → M[i]? = s.M[i]? := fun i hi => (hfp i (by simp at hi; simp [hi])).symm
 rw [jT hVM] at hc
 rw [y7 hVM σ (fun i hi => (hfp i (by simp [hi])).symm)] at hMin
 have hopx : x ∈ o.op.operands ∧ ∀ y ∈ asx, y ∈ o.op.operands := by rw [ho]; simp [Op.operands, Call.operands]; intro y hy; exact .inr hy
 obtain ⟨dx, ex1, ex2⟩ := hx
 have hrx := ex2 s _ hp (hops x hopx.1 dx ex1)
 generalize hvx : a.eval x = vx at hrx
 cases hrx with
 | @yld _ l hβ =>
  have hn' : (σ ++ ν).Nodup := of_decide_eq_true hn
  have hreps := gh (a := a) (s := s) hp asx ds hds (fun y hy => hops y (hopx.2 y hy))
  have hreps' := Jc (Min := Min) hok hreps hc
  obtain ⟨f, tmps, asg, body, e1, e2⟩ := hy (vst s σ (fun i => V.contains i) Min) (asx.map a.eval) l (vI hok hMin (List.nodup_append.1 hn').1) rfl (k5 hij hβ) hreps'
  rw [Kt ho hvx]
  have e1' : Sem.run P (Instr.yield l (asx.map a.eval).toArray) s.w = .ok (.round l f tmps asg body) s.w := e1
  rw [e1']
  refine ⟨rfl, RoundIn.mono e2 ?_⟩
  rintro e w'' ⟨s2, v, rfl, rfl, ht2, hM2, hrd⟩
  have hν' : ∀ i ∈ ν, s.M[i]? = some .hole := fun i hi => by
   have h1 := qaM.1 hν i hi
   rw [hfp i (by simp [hi])]
   split at h1
   ·rename_i h2; exact h2
   ·cases h1
  obtain ⟨q1, q2⟩ := gG (M3 := upd s.M wr) hok hMin hlive hn' hν' ht2 hM2 hwr rfl (fun h => (flV hfl h).2)
  exact ⟨back s s2 σ (fun i => V.contains i) ν (upd s.M wr), v, rfl, rfl, q1, rfl, q2 d0 v d hrd (fun h => (flV hfl h).1) hd⟩
section
variable {s0 : St} {n : Cx} {ops : Array Oper}
def uA (P : Program) (f : FuncId) (s0 : St) (n : Cx) (c : Code) (F : Fr) (M : List Blk) (K : Cont) : Prop :=
 ∀ a w, Inv s0 n F M a w → ∀ (b : Frame) (k : List Item) (cs : List Frame), b.roundOf = (wd (n.ρ s0)).round → b.fn = f →
  ∃ e a' w', PostK s0 n K e a' w' ∧ ArrivesIn (Machine.fenced P (wd (n.ρ s0))) P (lone (b.atR a (.code c :: k)) cs w) b k cs e a' w'
theorem gr {f : FuncId} {c : Code} {F : Fr} {M : List Blk} {K : Cont} (h : dwp P s0 n c F M K) : uA P f s0 n c F M K :=
 fun a w hi b k cs hro _ => h a w hi b k cs hro trivial (gM _ _)
theorem jE {f : FuncId} {x y : Code} {F : Fr} {M : List Blk} {K : Cont} (h : uA P f s0 n x F M (Kseq (fun F M => uA P f s0 n y F M K) K)) : uA P f s0 n (.seq x y) F M K := by
 intro a w hi b k cs hro hb
 have h0 : (lone (b.atR a (.code (.seq x y) :: k)) cs w).fenced P (wd (n.ρ s0)) := jp
 obtain ⟨e, a₁, w₁, hq, harr⟩ := h a w hi b (.code y :: k) cs hro hb
 cases e with
 | normal =>
  obtain ⟨F', M', hi', hk⟩ := hq
  obtain ⟨e₂, a₂, w₂, hq₂, harr₂⟩ := hk a₁ w₁ hi' b k cs hro hb
  exact ⟨e₂, a₂, w₂, hq₂, .of_steps (.head h0 stepR_seq harr) harr₂⟩
 | exit id => exact ⟨.exit id, a₁, w₁, hq, .of_steps (.one h0 stepR_seq) (.pass (x := .code y) rfl (fun _ _ => .inl (by simp)) harr)⟩
 | goto l => exact ⟨.goto l, a₁, w₁, hq, .of_steps (.one h0 stepR_seq) (.pass (x := .code y) rfl (fun _ _ => .inl (by simp)) harr)⟩
 | ret => exact ⟨.ret, a₁, w₁, hq, .of_steps (.one h0 stepR_seq) (.pass (x := .code y) rfl (fun _ _ => .inl (by simp)) harr)⟩
 | panic ch => exact ⟨.panic ch, a₁, w₁, hq, .of_steps (.one h0 stepR_seq) (.pass (x := .code y) rfl (fun _ _ => .inl (by simp)) harr)⟩
 | outgrown => exact hq.elim
theorem zz {f : FuncId} {id : Nat} {c : Code} {F : Fr} {M : List Blk} {K : Cont} (h : uA P f s0 n c F M (Kblk id K)) : uA P f s0 n (.block id c) F M K := by
 intro a w hi b k cs hro hb
 have h0 : (lone (b.atR a (.code (.block id c) :: k)) cs w).fenced P (wd (n.ρ s0)) := jp
 obtain ⟨e, a₁, w₁, hq, harr⟩ := h a w hi b (.inBlock id :: k) cs hro hb
 cases e with
 | normal => exact ⟨.normal, a₁, w₁, hq, .head h0 stepR_block (StepsIn.trans harr (.one jp stepR_inBlock))⟩
 | exit id' =>
  by_cases hid : id' = id
  ·obtain ⟨F', M', h1, h2⟩ := hq
   simp only [Kblk, hid, if_true] at h2
   exact ⟨.normal, a₁, w₁, ⟨F', M', h1, h2⟩, .head h0 stepR_block (harr.1 k (by simp [exitTo, hid]))⟩
  ·obtain ⟨F', M', h1, h2⟩ := hq
   simp only [Kblk, hid, if_false] at h2
   have this : (id == id') = false := by simp; exact fun h => hid h.symm
   have hx : exitTo id' (.inBlock id :: k) = exitTo id' k := by simp [exitTo, this]
   exact ⟨.exit id', a₁, w₁, ⟨F', M', h1, h2⟩, fun k' hk => .head h0 stepR_block (harr.1 k' (by rw [hx]; exact hk)),
    fun hr' hk => let ⟨k₁, h1, h2⟩ := harr.2 hr' (by rw [hx]; exact hk); ⟨k₁, h1, .head h0 stepR_block h2⟩⟩
 | goto l =>
  have hx : gotoIn l (.inBlock id :: k) = gotoIn l k := by simp [gotoIn]
  exact ⟨.goto l, a₁, w₁, hq, fun k' hk => .head h0 stepR_block (harr.1 k' (by rw [hx]; exact hk)),
   fun hr' hk => let ⟨k₁, h1, h2⟩ := harr.2 hr' (by rw [hx]; exact hk); ⟨k₁, h1, .head h0 stepR_block h2⟩⟩
 | ret => exact ⟨.ret, a₁, w₁, hq, .of_steps (.one h0 stepR_block) harr⟩
 | panic ch => exact ⟨.panic ch, a₁, w₁, hq, .of_steps (.one h0 stepR_block) harr⟩
 | outgrown => exact hq.elim
theorem Qp {fk : FuncId} {g : Operand} {ps : Array Tmp} {asg body : Code} {F FL : Fr} {M M1 Min : List Blk} {K : Cont} {f : FuncId} {first caps cargs : List D} {post pan : D → List Blk → Prop} (σ V ν : List Nat) (j : Nat)
  (hr : n.r = none) (hmk : n.mks = true) (hg : Ev true F g (.fn (.func f) first caps)) (hj : M[j]? = some .hole) (hFL : ∀ t d, lk FL t = some d → lk F t = some d) (hM1 : M.set j (.lp (some fk) n.n FL ps asg body .ready none) = M1)
  (hc : vwL σ (fun i => V.contains i) M1 (first ++ [.yld j] ++ caps) = some cargs) (hMin : gA σ (fun i => V.contains i) M1 σ = some Min) (hf : DCalls P f cargs Min post pan)
  (hlive : Min.all (·.live) = true) (hn : decide (σ ++ ν).Nodup = true) (hν : ν.all (fun i => match M1[i]? with | some .hole => true | _ => false) = true)
  (hpost : ∀ d Mout, post d Mout → ∃ wr M2 st pe, yv (σ ++ ν) (σ ++ ν) Mout = some wr ∧ (V.isEmpty || Mout.all (·.fl)) = true ∧ upd M1 wr = M2 ∧ M2[j]? = some (.lp (some fk) n.n FL ps asg body st pe) ∧ st ≠ .busy ∧
   (pe = none → K .normal F (M2.set j .gone)) ∧ (∀ c, pe = some c → dwp P s0 n c F (M2.set j .gone) K))
  (hpan : ∀ d Mout, pan d Mout → ∃ wr M2 d1, yv (σ ++ ν) (σ ++ ν) Mout = some wr ∧ (V.isEmpty || (d.fl && Mout.all (·.fl))) = true ∧ upd M1 wr = M2 ∧ sb (σ ++ ν) d = some d1 ∧ K (.panic d1) F M2) :
  uA P fk s0 n (.rangeFunc g ps asg body) F M K := by
 intro a w hi b k cs hro hbf
 have hρ : n.ρ s0 = none := by unfold Cx.ρ; rw [hr]
 rw [hρ] at hro ⊢
 have hb : (wd none).fn b.fn := trivial
 obtain ⟨l, mark, w₁, d, w₁', f, args, w₂, he, hres, hlead, hinv, hn1, hF, hcall⟩ := Y2 (fn := b.fn) (by rw [hbf]; rfl) σ V ν j hr hmk hg hj hFL hM1 hc hMin hf hlive hn hν hpost hpan a w hi
 rw [← hro] at he
 have h0 : (lone (b.atR a (.code (.rangeFunc g ps asg body) :: k)) cs w).fenced P (wd none) := jp
 have henter := stepR_rangeFunc (P := P) (b := b) (a := a) (k := k) (cs := cs) (w := w) he hres hinv
 obtain ⟨e, w₃, fr, hR, hsteps, hfn, hleave⟩ := hcall (b.atR { a with defers := mark ++ a.defers } (.inRangeFunc l :: k) :: cs) (gM _ _)
 cases e with
 | outgrown =>
  obtain ⟨a₀, w₀, hq⟩ := hR
  exact hq.elim
 | returned v =>
  have hl : (lone fr (b.atR { a with defers := mark ++ a.defers } (.inRangeFunc l :: k) :: cs) w₃).fenced P (wd none) := jp
  obtain ⟨jump, w₄, hend, hj⟩ := hR
  have sback : StepsIn (Machine.fenced P (wd none)) P (lone (b.atR a (.code (.rangeFunc g ps asg body) :: k)) cs w) (lone (b.atR { a with defers := mark ++ a.defers } ((jump.map Item.code).toList ++ k)) cs w₄) := by
   refine .head h0 henter (StepsIn.trans hsteps (.head hl ?_ (.one jp (stepR_endRangeFunc hend))))
   rw [← finish_atR_inRangeFunc l v]; exact step_leave_returned hleave
  cases jump with
  | none => exact ⟨.normal, _, w₄, hj, sback⟩
  | some c =>
   obtain ⟨e', a'', w₅, hq, harr⟩ := hj b k cs hro hb (gM _ _)
   exact ⟨e', a'', w₅, hq, .of_steps sback harr⟩
 | panicked chain =>
  have hl : (lone fr (b.atR { a with defers := mark ++ a.defers } (.inRangeFunc l :: k) :: cs) w₃).fenced P (wd none) := jp
  refine ⟨.panic chain, _, w₃, hR, .inRangeFunc l :: k, .head h0 henter (StepsIn.trans hsteps (.one hl ?_))⟩
  rw [← Frame.raise_atR]; exact step_leave_panicked hleave
theorem zA {f : FuncId} {c : Code} {F : Fr} {M : List Blk} {K : Cont} (h : uA P f s0 n c F M (Kng K)) : uA P f s0 n (.scope c) F M K := by
 intro a w hi b k cs hro hb
 obtain ⟨e, a₁, w₁, hq, harr⟩ := h a w hi b (.inScope c :: k) cs hro hb
 have f : ∀ (m : Machine), m.fenced P (wd (n.ρ s0)) := fun _ => jp
 cases e with
 | normal => exact ⟨.normal, a₁, w₁, hq, .head (f _) kO (StepsIn.trans harr (.one (f _) vS))⟩
 | exit id => exact ⟨.exit id, a₁, w₁, hq, fun k' hk => .head (f _) kO (harr.1 k' (by simp [exitTo, hk])), fun h1 h2 => by
   obtain ⟨k1, h3, h4⟩ := harr.2 h1 (by simp [exitTo, h2])
   exact ⟨k1, h3, .head (f _) kO h4⟩⟩
 | goto l => obtain ⟨_, _, _, hk⟩ := hq; exact hk.elim
 | ret => exact ⟨.ret, a₁, w₁, hq, .of_steps (.one (f _) kO) harr⟩
 | panic ch => exact ⟨.panic ch, a₁, w₁, hq, .of_steps (.one (f _) kO) harr⟩
 | outgrown => exact hq.elim
theorem KD {f : FuncId} {c : Code} {F : Fr} {M : List Blk} {K : Cont} (h : uA P f s0 n c F (M ++ [.hole]) K) : uA P f s0 n c F M K := fun a w hi => h a w (zd hi)
theorem WZ {fk : FuncId} {g : Operand} {ps : Array Tmp} {asg body : Code} {F FL : Fr} {M M1 M2 Min Mout : List Blk} {K : Cont} {f : FuncId} {first caps cargs : List D} {d0 : D} {wr : List (Nat × Blk)} {st : LoopState} {pe : Option Code} (σ V ν : List Nat) (j : Nat)
  (hr : n.r = none) (hmk : n.mks = true) (hg : Ev true F g (.fn (.func f) first caps)) (hj : M[j]? = some .hole) (hFL : ∀ t d, lk FL t = some d → lk F t = some d) (hM1 : M.set j (.lp (some fk) n.n FL ps asg body .ready none) = M1)
  (hc : vwL σ (fun i => V.contains i) M1 (first ++ [.yld j] ++ caps) = some cargs) (hMin : gA σ (fun i => V.contains i) M1 σ = some Min) (hf : DFun P f cargs Min d0 Mout)
  (hlive : Min.all (·.live) = true) (hn : decide (σ ++ ν).Nodup = true) (hν : ν.all (fun i => match M1[i]? with | some .hole => true | _ => false) = true)
  (hwr : yv (σ ++ ν) (σ ++ ν) Mout = some wr) (hfl : (V.isEmpty || Mout.all (·.fl)) = true) (hM2 : upd M1 wr = M2) (hj2 : M2[j]? = some (.lp (some fk) n.n FL ps asg body st pe)) (hst : st ≠ .busy)
  (hk0 : pe = none → K .normal F (M2.set j .gone)) (hk1 : ∀ c, pe = some c → dwp P s0 n c F (M2.set j .gone) K) : uA P fk s0 n (.rangeFunc g ps asg body) F M K :=
 Qp σ V ν j hr hmk hg hj hFL hM1 hc hMin hf hlive hn hν (by rintro d Mo ⟨rfl, rfl⟩; exact ⟨wr, M2, st, pe, hwr, hfl, hM2, hj2, hst, hk0, hk1⟩) (fun _ _ h => h.elim)
theorem W0 {fk : FuncId} {g : Operand} {ps : Array Tmp} {asg body : Code} {F FL : Fr} {M M1 M2 Min Mout : List Blk} {K : Cont} {f : FuncId} {first caps cargs : List D} {d0 d1 : D} {wr : List (Nat × Blk)} (σ V ν : List Nat) (j : Nat)
  (hr : n.r = none) (hmk : n.mks = true) (hg : Ev true F g (.fn (.func f) first caps)) (hj : M[j]? = some .hole) (hFL : ∀ t d, lk FL t = some d → lk F t = some d) (hM1 : M.set j (.lp (some fk) n.n FL ps asg body .ready none) = M1)
  (hc : vwL σ (fun i => V.contains i) M1 (first ++ [.yld j] ++ caps) = some cargs) (hMin : gA σ (fun i => V.contains i) M1 σ = some Min) (hf : DPan P f cargs Min d0 Mout)
  (hlive : Min.all (·.live) = true) (hn : decide (σ ++ ν).Nodup = true) (hν : ν.all (fun i => match M1[i]? with | some .hole => true | _ => false) = true)
  (hwr : yv (σ ++ ν) (σ ++ ν) Mout = some wr) (hfl : (V.isEmpty || (d0.fl && Mout.all (·.fl))) = true) (hM2 : upd M1 wr = M2) (hd : sb (σ ++ ν) d0 = some d1) (hk : K (.panic d1) F M2) : uA P fk s0 n (.rangeFunc g ps asg body) F M K :=
 Qp σ V ν j hr hmk hg hj hFL hM1 hc hMin hf hlive hn hν (fun _ _ h => h.elim) (by rintro d Mo ⟨rfl, rfl⟩; exact ⟨wr, M2, d1, hwr, hfl, hM2, hd, hk⟩)
end
section
variable {s0 : St} {n : Cx}
theorem Ah {F : Fr} {M : List Blk} {a : Act} {w : World} {t j : Nat} {e : TypeId} {sz m : Nat} {L : List Value} (h : Inv s0 n F M a w) (ht : lk F t = some (.arr j)) (hj : M[j]? = some (.arr e sz m L)) : Inv s0 n ((t, .arr M.length) :: F) (M.set j .gone ++ [.arr e sz m L]) a w := by
 obtain ⟨h0, s, rfl, rfl, h3, h4, h5, h6⟩ := h
 have t1 := yR h3.ok
 have hlen := h3.ok.len
 have hjl := (qaj.1 hj).1
 obtain ⟨y, hy⟩ : ∃ y, s.β[j]? = some y := ⟨_, qak (by omega)⟩
 have hb := h3.ok.blk j _ y hj hy
 have hsl : ∃ ad n' c, y = .slice ad n' c := by
  have hr := h4 t _ ht
  generalize hv : jf a t = v at hr
  cases hr with
  | @arr _ ad n' c hβ => rw [hy] at hβ; exact ⟨ad, n', c, qao hβ⟩
 obtain ⟨ad, n', c, rfl⟩ := hsl
 have hy1 : (s.β ++ [Value.nilFunc])[j]? = some (.slice ad n' c) := by rw [qaC (by omega)]; exact hy
 have hj1 : (s.M ++ [Blk.hole])[j]? = some (.arr e sz m L) := by rw [qaC hjl]; exact hj
 have eM : ((s.M ++ [Blk.hole]).set j .gone).set s.M.length (.arr e sz m L) = s.M.set j .gone ++ [.arr e sz m L] := by
  rw [List.set_append_left _ _ hjl, List.set_append_right _ _ (by simp)]
  simp
 have eβ : (s.β ++ [Value.nilFunc]).set s.M.length (.slice ad n' c) = s.β ++ [.slice ad n' c] := by
  rw [← hlen, List.set_append_right _ _ (qaE _)]
  simp
 have t2 := kT t1.ok s.M.length ((s.M ++ [Blk.hole]).set j .gone) (.slice ad n' c) (.arr e sz m L) s.w (by simp) (fun i k hk => by
   by_cases e' : j = i
   ·subst e'; rw [qaz (by simp; omega)] at hk; exact .inr (qao hk).symm
   ·rw [qav e'] at hk; exact .inl hk) (by simp) (.inl (by simp [hlen])) (by simp) hb
  (fun b hb' i k h hne hk hl hh ho => by
   by_cases e' : j = i
   ·subst e'; rw [qaz (by simp; omega)] at hk; obtain rfl := qao hk; cases hl
   ·rw [qav e'] at hk
    exact e' (t1.ok.inj j i _ k _ h b hj1 rfl hy1 hb' hk hl hh ho))
  (fun b hb' => .inr (ql hj1 rfl hy1 hb')) (fun b hb' => (t1.ok.lt b (ql hj1 rfl hy1 hb')).1) (fun _ => False) (fun _ h => h.elim) (fun _ _ _ _ => rfl) rfl rfl rfl (qaE _)
 have tt := t1.trans t2
 simp only [eM, eβ] at tt
 refine ⟨h0, ⟨s.β ++ [.slice ad n' c], s.I, s.M.set j .gone ++ [.arr e sz m L], s.w⟩, rfl, rfl, h3.trans tt, fun z d hd => ?_, h5, h6.mono h3.ok tt⟩
 rw [jI] at hd
 split at hd
 ·rename_i e'
  subst e'
  obtain rfl := qao hd
  have hr := h4 t _ ht
  generalize hv : jf a t = v at hr
  cases hr with
  | @arr _ ad2 n2 c2 hβ =>
   rw [hy] at hβ
   obtain ⟨rfl, rfl, rfl⟩ := Value.slice.inj (qao hβ)
   exact .arr (by show (s.β ++ [_])[s.M.length]? = _; rw [← hlen]; simp)
 ·exact (h4 z d hd).mono h3.ok tt
theorem Ai {c : Code} {F : Fr} {M M' : List Blk} {K : Cont} (t : Nat) {m' j : Nat} {e : TypeId} {sz m : Nat} {L : List Value} (ht : lk F t = some (.arr j)) (hj : M[j]? = some (.arr e sz m L)) (hm : M.length = m') (hM' : M.set j .gone ++ [.arr e sz m L] = M') (h : dwp P s0 n c ((t, .arr m') :: F) M' K) : dwp P s0 n c F M K := by
 subst hM' hm
 exact fun a w hi => h a w (Ah hi ht hj)
end
theorem zB {f : FuncId} {fn : Func} {c : Code} {args : List D} {F0 : Fr} {Min : List Blk} {post pan : D → List Blk → Prop} {N : Nat} (m : Nat) (hcb : yE P f = true) (hf : P.funcs[f]? = some fn) (hc : fn.body = some c) (hn : fn.ntmps = N) (hle : Nat.ble args.length N = true) (hF : fr0 0 args = F0) (hm : Min.length = m)
  (h : ∀ s0 : St, s0.M.length ≤ m → uA P f s0 ⟨N, none, m, [], true⟩ c F0 Min (Kret P fn m [] post pan)) : DCalls P f args Min post pan := by
 subst hF hm
 refine ⟨hcb, ?_⟩
 intro s vs ho hM hr
 obtain ⟨hl, hr⟩ := hr
 have hle := qaq hle
 have hslot : ∀ t d, lk (fr0 0 args) t = some d → Rep s d (jf { tmps := vs.toArray ++ qaY (fn.ntmps - vs.toArray.size) undef, defers := [] } t) := by
  intro t d hd
  obtain ⟨_, h2⟩ := uT args 0 t d hd
  simp only [Nat.sub_zero] at h2
  have hlt : t < args.length := (qaj.1 h2).1
  have hv : vs[t]? = some vs[t] := qak (by omega)
  have : jf { tmps := vs.toArray ++ qaY (fn.ntmps - vs.toArray.size) undef, defers := [] } t = vs[t] := by
   unfold jf
   simp only [Array.getD_eq_getD_getElem?]
   rw [Array.getElem?_append_left (by simp; omega)]
   simp [show t < vs.length by omega]
  rw [this]
  exact hr t d _ h2 hv
 refine (callsIn_wide (n := 0)).1 ⟨trivial, fun cs hrm => ?_⟩
 let b : Frame := { (default : Frame) with fn := f, kind := .normal, roundOf := none }
 have henter : Frame.enter P f vs.toArray .normal =
   b.atR { tmps := vs.toArray ++ qaY (fn.ntmps - vs.toArray.size) undef, defers := [] } [.code c] := by
  simp [Frame.enter, Frame.atR, hf, hc, b]
 obtain ⟨e, a', w', hq0, harr⟩ := h s (by rw [hM]; exact qaE _) _ _ ⟨ho, s, hM, rfl, Tr.refl ho, hslot, by simp; omega, .nil⟩ b [] cs rfl rfl
 have hq : bodyPostM Fence.wide 0 P fn (Lv s post pan) e a' w' := by
  cases e with
  | normal => obtain ⟨F, M, ⟨h0, s1, q1, q2, q3, q4, q5, q6⟩, hk⟩ := hq0; subst q1 q2; exact y6 h0 (by rw [hM]; exact qaE _) a' _ _ none _ _ _ q6 q3 q4 rfl hk
  | ret => obtain ⟨F, M, ⟨h0, s1, q1, q2, q3, q4, q5, q6⟩, hk⟩ := hq0; subst q1 q2; exact y6 h0 (by rw [hM]; exact qaE _) a' _ _ none _ _ _ q6 q3 q4 rfl hk
  | exit id => obtain ⟨_, _, _, hk⟩ := hq0; exact hk
  | goto l => obtain ⟨_, _, _, hk⟩ := hq0; exact hk
  | panic ch => obtain ⟨F, M, d, ⟨h0, s1, v, q1, q2, q3, q4, q5, q6, q7, q8⟩, hk⟩ := hq0; subst q1 q2 q7; exact y6 h0 (by rw [hM]; exact qaE _) a' _ _ (some d) _ _ _ q6 q3 q4 ⟨v, rfl, q8⟩ hk
  | outgrown => exact hq0.elim
 rw [← henter] at harr
 have hF : (Fence.wide).fn f := trivial
 cases e with
 | normal =>
  obtain ⟨e', w'', fr', hR, hs, hfn, hl⟩ := leaves_stepsInM a'.defers .returning w' { b.atR a' [] with mode := .returning } cs rfl rfl rfl hf rfl hF hrm hq
  exact ⟨e', w'', fr', hR, ComesIn.of_steps (StepsIn.trans harr (.one (fenced_calm (fr := b.atR a' []) hF hrm rfl) (stepR_end rfl))) hs, hfn, hl⟩
 | ret =>
  obtain ⟨todo, hs₀⟩ := harr.1 rfl
  obtain ⟨e', w'', fr', hR, hs, hfn, hl⟩ := leaves_stepsInM a'.defers .returning w' { b.atR a' todo with mode := .returning } cs rfl rfl rfl hf rfl hF hrm hq
  exact ⟨e', w'', fr', hR, ComesIn.of_steps hs₀ hs, hfn, hl⟩
 | panic chain =>
  obtain ⟨todo, hs₀⟩ := harr
  obtain ⟨e', w'', fr', hR, hs, hfn, hl⟩ := leaves_stepsInM a'.defers (.panicking chain) w' { b.atR a' todo with mode := .panicking chain } cs rfl rfl rfl hf rfl hF hrm hq
  exact ⟨e', w'', fr', hR, ComesIn.of_steps hs₀ hs, hfn, hl⟩
 | exit id => exact hq.elim
 | goto l => exact hq.elim
 | outgrown => exact hq0.elim
end
end Go.Proofs.Ytofklkbfkoliiaa
namespace Go.Proofs.Ytofklkbfkoliiaa
set_option linter.unusedVariables false
set_option linter.unusedSimpArgs false
open Go.RowKit
abbrev Jl (ks : List Int) : List D := ks.flatMap fun _ => [D.val (.int .i64 1)]
theorem Qq : ∀ (ks : List Int) (j : Nat), j < ks.length → (Jl ks)[j]? = some (D.val (.int .i64 1))
 | [], j, h => by simp at h
 | k :: r, 0, _ => rfl
 | k :: r, j + 1, h => by
  rw [Jl, qaD]
  exact Qq r j (by simpa using h)
section
variable {P : Program} {pc : Bool} {o : Oper} {F : Fr} {M : List Blk} {K E T : TypeId} {x y : Operand}
theorem xO {i : Nat} {k : Int} {ks : List Int} {kd : IntKind} (hT : mpT P T = some (K, E)) (hK : Gf P K = some kd) (hE : zrV P E = some (.int .i64 0)) (ho : o.op = .lookup T x y false) (hx : Ev pc F x (.hnd i)) (hy : Ev pc F y (.val (.int .i64 k))) (hM : M[i]? = some (.mpd ks (Jl ks))) (hn : pc = true → ks.Nodup) : DOp P pc o F M [i] (.val (.int .i64 (if k ∈ ks then 1 else 0))) [] := by
 by_cases hk : k ∈ ks
 ·rw [if_pos hk]
  obtain ⟨j, hj, he⟩ := List.getElem_of_mem hk
  exact XY (j := j) hT hK ho hx hy hM hn (fun _ => by rw [qak hj, he]) (Qq ks j hj)
 ·rw [if_neg hk]
  exact XX hT hK hE ho hx hy hM (fun _ => hk)
theorem KE : ∀ (ks : List Int) (vs : List Value) (o : Nat), vs.length = ks.length → (gg o ks vs).length = ks.length
 | [], [], _, _ => rfl
 | [], _ :: _, _, h => by simp at h
 | _ :: _, [], _, h => by simp at h
 | k :: r, v :: s, o, h => by
  rw [gg, qaI, qaI, KE r s _ (by simpa using h)]
theorem zC {i : Nat} {ks : List Int} {l : List D} (ho : o.op = .call { callee := .builtin .len, args := #[x], argTypes := #[T] }) (hT : mpT P T = some (K, E)) (hx : Ev pc F x (.hnd i)) (hM : M[i]? = some (.mpd ks l)) : DOp P pc o F M [i] (.val (.int .i64 ks.length)) [] := by
 intro hp a s hok hops hfp
 have hM' : s.M[i]? = some (.mpd ks l) := by rw [hfp i (by simp)]; exact hM
 obtain ⟨b, vs, hv, hβ, hob, hl, hr⟩ := Ji hok hM' (qo hp hx (by simp [ho, Op.operands, Call.operands]) hops)
 refine qN hok (k9 ho (fun cs => rfl) ?_) (.val (.int .i64 ks.length))
 simp [Builtin.len_, hv, run_underlying (uw hT), getObj, Sem.run, hob, Result.andThen, Sem.run_bind, KE ks vs 0 (by omega), goInt]
end
end Go.Proofs.Ytofklkbfkoliiaa
namespace Go.Proofs.Ytofklkbfkoliiaa
set_option linter.unusedVariables false
set_option linter.unusedSimpArgs false
open Go.RowKit
theorem qW : Try.prog.follows .mixedOrders = true := by kernel_rfl
structure C4 where
 r : Int
 g : Int
 b : Int
 a : Int
deriving DecidableEq
def c4 (c : C4) : List Value := [.int .u8 c.r, .int .u8 c.g, .int .u8 c.b, .int .u8 c.a]
def zC4 : C4 := ⟨0, 0, 0, 0⟩
structure P2 where
 x : Int
 y : Int
deriving DecidableEq
def p2 (p : P2) : List Value := [.int .i64 p.x, .int .i64 p.y]
structure TL where
 l : List C4
 h : l.length = 64
theorem TL.ext {t u : TL} (h : t.l = u.l) : t = u := by cases t; cases u; cases h; rfl
instance : DecidableEq TL := fun t u => if h : t.l = u.l then isTrue (TL.ext h) else isFalse fun e => h (by rw [e])
abbrev tc (t : TL) : List Value := t.l.flatMap c4
abbrev tD (t : TL) : D := .val (.agg (tc t).toArray)
theorem W1 (c : C4) : (c4 c).length = 4 := rfl
theorem qw (t : TL) : (tc t).length = 256 := by rw [jN W1, t.h]
theorem ya (t : TL) : (tc t).all (·.oneCell') = true := yd (fun _ => rfl) t.l
def nT (c : C4) : TL := ⟨qax 64 c, by simp⟩
def zT : TL := nT zC4
def TL.get (t : TL) (i : Nat) : C4 := t.l.getD i zC4
def TL.set (t : TL) (i : Nat) (c : C4) : TL := ⟨t.l.set i c, by rw [List.length_set, t.h]⟩
def vV (b : Bool) (n : Int) : Int := match b with | true => 0 | false => n
theorem W2 (t : TL) (i : Nat) (c : C4) : (t.l.set i c).flatMap c4 = tc (t.set i c) := rfl
theorem Qr {α : Type} {f : List Value → List Value → Option Bool} {en : α → List Value} {sz : Nat} [DecidableEq α] (hen : ∀ a, (en a).length = sz) (hf : ∀ a b, f (en a) (en b) = some (decide (a = b))) :
  ∀ (l r : List α), l.length = r.length → eqA f sz l.length (l.flatMap en) (r.flatMap en) = some (decide (l = r))
 | [], [], _ => by simp [eqA]
 | a :: l, b :: r, h => by
  have e1 : ((a :: l).flatMap en).take sz = en a := by rw [qaD, ← hen a, List.take_left]
  have e2 : ((b :: r).flatMap en).take sz = en b := by rw [qaD, ← hen b, List.take_left]
  have e3 : ((a :: l).flatMap en).drop sz = l.flatMap en := by rw [qaD, ← hen a, List.drop_left]
  have e4 : ((b :: r).flatMap en).drop sz = r.flatMap en := by rw [qaD, ← hen b, List.drop_left]
  rw [qaI, eqA, e1, e2, e3, e4, hf, Qr hen hf l r (by simpa using h)]
  simp only [Option.some.injEq]
  rw [Bool.eq_iff_iff]
  simp
 | [], _ :: _, h => by simp at h
 | _ :: _, [], h => by simp at h
def eqC (a b : C4) : Bool := (a.r == b.r) && ((a.g == b.g) && ((a.b == b.b) && ((a.a == b.a) && true)))
theorem Qs {u v : C4} : eqC u v = decide (u = v) := by
 obtain ⟨r, g, b, a⟩ := u
 obtain ⟨r', g', b', a'⟩ := v
 rw [Bool.eq_iff_iff]
 simp [eqC]
def zD (c : C4) : Nat → TL
 | 0 => zT
 | k + 1 => (zD c k).set k c
theorem Vp (c : C4) (k : Nat) : zD c (k + 1) = (zD c k).set k c := rfl
theorem Hb (c : C4) {i : Nat} (h : i < 64) : (nT c).l[i]? = some c := by
 show (qax 64 c)[i]? = _
 rw [List.getElem?_replicate, if_pos h]
theorem Qt (c : C4) : ∀ (k i : Nat), i < 64 → (zD c k).l[i]? = some (if i < k then c else zC4)
 | 0, i, h => by rw [zD, zT, Hb _ h]; simp
 | k + 1, i, h => by
  rw [zD]
  show ((zD c k).l.set k c)[i]? = _
  rw [List.getElem?_set]
  by_cases e : k = i
  ·subst e; simp [(zD c k).h, h]
  ·rw [if_neg e, Qt c k i h]
   by_cases g : i < k
   ·rw [if_pos g, if_pos (by omega)]
   ·rw [if_neg g, if_neg (by omega)]
theorem W3 (c : C4) : zD c 64 = nT c := by
 apply TL.ext
 apply qa9
 intro i
 by_cases h : i < 64
 ·rw [Qt c 64 i h, if_pos h, Hb c h]
 ·rw [qaT (by rw [(zD c 64).h]; omega), qaT (by rw [(nT c).h]; omega)]
theorem bn_t {b : Bool} (h : (!b) = true) : b = false := by cases b <;> simp_all
theorem bn_f {b : Bool} (h : (!b) = false) : b = true := by cases b <;> simp_all
structure Dt where
 x : Int
 y : Int
 c : C4
deriving DecidableEq
def gB (w h : Int) : Bool := decide (1 ≤ w) && decide (w ≤ 4) && decide (1 ≤ h) && decide (h ≤ 4)
theorem Jm {w h : Int} (hm : gB w h = true) : (1 ≤ w ∧ w ≤ 4) ∧ (1 ≤ h ∧ h ≤ 4) := by
 unfold gB at hm
 simp at hm
 omega
def onS (w h x y : Int) : Bool := decide (0 ≤ x) && decide (x < w * 8) && decide (0 ≤ y) && decide (y < h * 8)
def plN (w x y : Int) : Nat := (y / 8 * w + x / 8).toNat
def pxN (x y : Int) : Nat := (y % 8 * 8 + x % 8).toNat
def putC (w h : Int) (ts : List TL) (d : Dt) : List TL := if onS w h d.x d.y = true then ts.set (plN w d.x d.y) ((ts.getD (plN w d.x d.y) zT).set (pxN d.x d.y) d.c) else ts
theorem W4 (w h : Int) (ts : List TL) (d : Dt) : (putC w h ts d).length = ts.length := by unfold putC; split <;> simp
abbrev cvD (w h : Int) (ds : List D) : D := .dpm [.val (.int .i64 w), .val (.int .i64 h), .slm 1 ds.length ds]
abbrev shD (w h : Int) (ts : List TL) : D := .agg [.val (.int .i64 w), .val (.int .i64 h), .slf 256 ts.length (ts.flatMap tc)]
structure RowOk (ds : List D) (ts : List TL) : Prop where
 len : ds.length = ts.length
 nl : D.nlL ds = true
 oc : ds.all D.oc2 = true
 wk : ∀ (q : Nat) d t, ds[q]? = some d → ts[q]? = some t → Wk d (.dpf (tc t))
structure CvOk (w h : Int) (ts : List TL) : Prop where
 may : gB w h = true
 len : (ts.length : Int) = w * h
theorem CvOk.le {w h : Int} {ts : List TL} (hc : CvOk w h ts) : ts.length ≤ 16 ∧ 1 ≤ ts.length := by
 have hb := Jm hc.may
 have h1 : w * h ≤ 4 * 4 := Int.mul_le_mul hb.1.2 hb.2.2 (by omega) (by omega)
 have h2 : 1 * 1 ≤ w * h := Int.mul_le_mul hb.1.1 hb.2.1 (by omega) (by omega)
 have := hc.len
 omega
abbrev dpR (ts : List TL) : List D := ts.map fun t => .dpf (tc t)
theorem Aj (ts : List TL) : RowOk (dpR ts) ts := by
 refine ⟨by simp, ?_, by simp [D.oc2], fun q d t h1 h2 => ?_⟩
 ·induction ts with
  | nil => rfl
  | cons t ts ih => rw [dpR, List.map_cons, D.nlL]; exact ih
 ·rw [qa5, h2] at h1
  cases h1
  exact Wk.refl _
theorem RowOk.at {ds : List D} {ts : List TL} (h : RowOk ds ts) {q : Nat} (hq : q < ts.length) : ∃ d, ds[q]? = some d ∧ d ∈ ds ∧ d.nl = true ∧ d.oc2 = true ∧ Wk d (.dpf (tc (ts.getD q zT))) := by
 have hq2 : q < ds.length := by rw [h.len]; exact hq
 refine ⟨ds[q], qak hq2, qa7 hq2, jh h.nl (qak hq2), qaM.1 h.oc _ (qa7 hq2), ?_⟩
 refine h.wk q _ _ (qak hq2) ?_
 rw [qaJ, qak hq]
 rfl
theorem RowOk.wkd {ds : List D} {ts : List TL} (h : RowOk ds ts) (w hh : Int) : Wk (cvD w hh ds) (cvD w hh (dpR ts)) := by
 have hl : WkL ds (dpR ts) := ⟨by simp [h.len], fun j d d' h1 h2 => by
  rw [qa5] at h2
  cases e : ts[j]? with
  | none => rw [e] at h2; cases h2
  | some t => rw [e] at h2; cases h2; exact h.wk j d t h1 e⟩
 have hn : D.nlL (dpR ts) = true := (Aj ts).nl
 have e : (dpR ts).length = ds.length := by simp [h.len]
 rw [cvD, cvD, e]
 exact Wk.dpm (.cons (.refl _) (.cons (.refl _) (.cons (Wk.slm hl hn) .nil))) (by simp [D.nlL, D.nl])
def jb (w h : Int) (ts : List TL) : Bool := gB w h && decide ((ts.length : Int) = w * h)
theorem CvOk.right {w h : Int} {ts : List TL} (hc : CvOk w h ts) : jb w h ts = true := by
 unfold jb
 rw [hc.may, decide_eq_true hc.len]
 rfl
theorem vW {w h : Int} (hm : gB w h = true) : 1 ≤ w * h ∧ w * h ≤ 16 := by
 have hb := Jm hm
 have h1 : w * h ≤ 4 * 4 := Int.mul_le_mul hb.1.2 hb.2.2 (by omega) (by omega)
 have h2 : 1 * 1 ≤ w * h := Int.mul_le_mul hb.1.1 hb.2.1 (by omega) (by omega)
 omega
theorem CvOk.put {w h : Int} {ts : List TL} (hc : CvOk w h ts) (d : Dt) : CvOk w h (putC w h ts d) := ⟨hc.may, by rw [W4]; exact hc.len⟩
structure I3 where
 t : Int
 s : Int
 q : Int
deriving DecidableEq
def W5 (n : Int) : Bool := decide (1 ≤ n) && decide (n ≤ 4611686018427387904)
def isSt (n : Int) : Bool := decide (1 ≤ n) && decide (n ≤ 8)
def uB (i : I3) : Bool := W5 i.t && (isSt i.s && W5 i.q)
def lessR (a b : I3) : Bool := if a.t ≠ b.t then decide (a.t < b.t) else if a.s ≠ b.s then decide (a.s < b.s) else decide (a.q < b.q)
def inI (n : Int) : List Value := [.int .i64 n]
def zI3 : I3 := ⟨0, 0, 0⟩
structure OpM where
 id : I3
 kd : Int
 x : Int
 y : Int
 x2 : Int
 y2 : Int
 sz : Int
 co : C4
 sw : Int
 sh : Int
 px : List C4
 tg : I3
deriving DecidableEq
abbrev pxD (l : List C4) : D := .slf 4 l.length (l.flatMap c4)
def opD (o : OpM) : List D := [.val (.int .u64 o.id.t), .val (.int .i64 o.id.s), .val (.int .u64 o.id.q), .val (.int .i64 o.kd), .val (.int .i64 o.x), .val (.int .i64 o.y), .val (.int .i64 o.x2), .val (.int .i64 o.y2), .val (.int .i64 o.sz),
 .val (.int .u8 o.co.r), .val (.int .u8 o.co.g), .val (.int .u8 o.co.b), .val (.int .u8 o.co.a), .val (.int .i64 o.sw), .val (.int .i64 o.sh), pxD o.px, .val (.int .u64 o.tg.t), .val (.int .i64 o.tg.s), .val (.int .u64 o.tg.q)]
def drB (n : Int) : Bool := decide (-64 ≤ n) && decide (n ≤ 127)
def siD (n : Int) : Bool := decide (1 ≤ n) && decide (n ≤ 8)
def stB (w h : Int) (l : List C4) : Bool := siD w && siD h && decide ((l.length : Int) = w * h)
def mostK (k : Int) : Int := if k = 5 then 1020 else if k = 1 ∨ k = 2 then 15 else 0
def opB (o : OpM) : Bool :=
 (decide (1 ≤ o.kd) && decide (o.kd ≤ 8)) && uB o.id
 && (if o.kd ≤ 6 then drB o.x && drB o.y else decide (o.x = 0) && decide (o.y = 0))
 && (if o.kd ≤ 4 then drB o.x2 && drB o.y2 else decide (o.x2 = 0) && decide (o.y2 = 0))
 && (if o.kd = 1 ∨ o.kd = 2 ∨ o.kd = 5 then decide (0 ≤ o.sz) && decide (o.sz ≤ mostK o.kd) else decide (o.sz = 0))
 && (decide (o.kd ≤ 5) || decide (o.co = zC4))
 && (if o.kd = 6 then stB o.sw o.sh o.px else decide (o.sw = 0) && decide (o.sh = 0) && decide (o.px = []))
 && (if 7 ≤ o.kd then uB o.tg && lessR o.tg o.id else decide (o.tg = zI3))
abbrev Vec := Nat → Nat
def c9 (v : Vec) : List Value := [.int .u64 (v 0), .int .u64 (v 1), .int .u64 (v 2), .int .u64 (v 3), .int .u64 (v 4), .int .u64 (v 5), .int .u64 (v 6), .int .u64 (v 7), .int .u64 (v 8)]
def upV {α : Type} (v : Nat → α) (j : Nat) (x : α) : Nat → α := fun i => if i = j then x else v i
theorem lt9 {P : Nat → Prop} (h0 : P 0) (h1 : P 1) (h2 : P 2) (h3 : P 3) (h4 : P 4) (h5 : P 5) (h6 : P 6) (h7 : P 7) (h8 : P 8) : ∀ j, j < 9 → P j
 | 0, _ => h0 | 1, _ => h1 | 2, _ => h2 | 3, _ => h3 | 4, _ => h4 | 5, _ => h5 | 6, _ => h6 | 7, _ => h7 | 8, _ => h8
 | n + 9, h => absurd h (by omega)
theorem W6 (v : Vec) : (c9 v).length = 9 := rfl
theorem c9_at (v : Vec) : ∀ j, j < 9 → (c9 v)[j]? = some (.int .u64 (v j)) := lt9 rfl rfl rfl rfl rfl rfl rfl rfl rfl
theorem Ak (v : Vec) (x : Nat) : ∀ j, j < 9 → (c9 v).set j (.int .u64 x) = c9 (upV v j x) := lt9 rfl rfl rfl rfl rfl rfl rfl rfl rfl
def z9 : Vec := fun _ => 0
structure Pl where
 inn : Bool
 fl : Nat
 fs : Nat
 has : Vec
structure FrM where
 fo : Nat
 bv : Vec
 pr : Nat
 st : Nat → Pl
def FrM.sw (f : FrM) (j : Nat) (p : Pl) : FrM := { f with st := upV f.st j p }
def eqV (v w : Vec) : Bool := (qa3 9).all fun i => v i == w i
theorem all9 {P : Nat → Bool} : (qa3 9).all P = true ↔ ∀ i, i < 9 → P i = true := by
 simp
abbrev LAST : Nat := 4611686018427387904
def vB (v : Vec) : Bool := decide (v 0 = 0) && (qa3 9).all fun i => decide (v i ≤ LAST)
theorem vB_iff {v : Vec} : vB v = true ↔ v 0 = 0 ∧ ∀ i, i < 9 → v i ≤ LAST := by
 unfold vB
 rw [qan, all9]
 simp
def flL (n : Nat) (l : List Pl) : Nat := l.foldl (fun m q => max m q.fl) n
def Gi (v : Vec) (i : Nat) : Prop := v i ≤ 4611686018427387904 ∧ (i = 0 → v i = 0)
theorem vB_all {v : Vec} : vB v = true ↔ ∀ i, i < 9 → Gi v i := by
 rw [vB_iff]
 constructor
 ·intro h i hi
  exact ⟨h.2 i hi, fun e => by rw [e]; exact h.1⟩
 ·intro h
  exact ⟨(h 0 (by omega)).2 rfl, fun i hi => (h i hi).1⟩
theorem vB_no {v : Vec} {i : Nat} (hi : i < 9) (h : ¬ Gi v i) : vB v = false := by
 rw [← Bool.not_eq_true, vB_all]
 exact fun e => h (e i hi)
theorem Vq {v : Vec} {k : Nat} (h : ∀ i, i < k → Gi v i) (hk : Gi v k) : ∀ i, i < k + 1 → Gi v i := fun i hi => by
 by_cases e : i = k
 ·rw [e]; exact hk
 ·exact h i (by omega)
theorem Al {v : Vec} (h : ∀ i, i < 9 → v i = 0) : vB v = true := vB_all.2 fun i hi => ⟨by rw [h i hi]; omega, fun _ => h i hi⟩
theorem Qu {v : Vec} {x p j : Nat} (hp : p = j) (hj : j < 9) : (c9 v).set p (.int .u64 x) = c9 (upV v j x) := by rw [hp]; exact Ak v x j hj
def eqn (a b : Nat) : Bool := (a : Int) == (b : Int)
theorem Am (a b : Nat) : eqn a b = (a == b) := by
 unfold eqn
 rw [Bool.eq_iff_iff]
 simp
 omega
def eqVx (v w : Vec) : Bool := eqn (v 0) (w 0) && (eqn (v 1) (w 1) && (eqn (v 2) (w 2) && (eqn (v 3) (w 3) && (eqn (v 4) (w 4) && (eqn (v 5) (w 5) && (eqn (v 6) (w 6) && (eqn (v 7) (w 7) && (eqn (v 8) (w 8) && true))))))))
theorem X1 (v w : Vec) : eqVx v w = eqV v w := by
 unfold eqVx eqV
 simp only [Am, qa3, List.range.loop, List.all_cons, List.all_nil]
theorem An {v : Vec} (h : eqV v z9 = true) : vB v = true := Al fun i hi => by
 unfold eqV at h
 rw [all9] at h
 simpa [z9] using h i hi
def uc8 (n : Int) : List Value := [.int .u8 n]
def ic (n : Int) : List Value := [.int .i64 n]
def uc (n : Int) : List Value := [.int .u64 n]
def isW (n : Int) : Bool := decide (1 ≤ n) && decide (n ≤ 8)
def KF (w : Nat) (n : Int) : Bool := decide (w = 8) || decide (n / 2 ^ (8 * w) = 0)
def Vr (n : Int) : Nat → List Int
 | 0 => qax 8 0
 | k + 1 => (Vr n k).set (7 - k) (IntKind.u8.wrap (n / 2 ^ (8 * k)))
theorem uC (n : Int) : ∀ k, (Vr n k).length = 8
 | 0 => rfl
 | k + 1 => by rw [Vr, List.length_set, uC n k]
def vk (w : Nat) (n : Int) : List Int := (Vr n 8).drop (8 - w)
theorem Yv {w : Nat} {n : Int} (h : w ≤ 8) : (vk w n).length = w := by rw [vk, qaR, uC]; omega
theorem Jn {n : Int} : isW n = true ↔ 1 ≤ n ∧ n ≤ 8 := by simp [isW]
theorem X2 (n : Int) : (uc8 n).length = 1 := rfl
theorem fl8 (l : List Int) : (l.flatMap uc8).length = l.length := by rw [jN X2, Nat.mul_one]
theorem Qv {A B : List Value} {z : Value} {p m r : Nat} (hp : p = A.length) (hm : B.length = m) : jL (A ++ qax (m + r) z) p B = A ++ B ++ qax r z := by
 subst hp hm
 rw [gm _ _ _ (by simp), List.take_left, List.drop_append]
 congr 1
 rw [List.drop_of_length_le (by omega), qaw, List.drop_replicate]
 congr 1
 omega
theorem beh2 (l1 l2 : List Int) {z : Value} (p0 p1 k1 k2 : Nat) (h0 : p0 = 0) (h1 : k1 = l1.length) (h2 : p1 = l1.length) (h3 : k2 = l2.length) :
  jL (jL (qax (l1.length + l2.length) z) p0 ((l1.flatMap uc8).take k1)) p1 ((l2.flatMap uc8).take k2) = (l1 ++ l2).flatMap uc8 := by
 rw [qaK (by rw [fl8]; omega), qaK (by rw [fl8]; omega)]
 have e1 := Qv (A := []) (B := l1.flatMap uc8) (z := z) (p := p0) (m := l1.length) (r := l2.length) h0 (fl8 _)
 rw [qaw, qaw] at e1
 rw [e1]
 have e2 := Qv (A := l1.flatMap uc8) (B := l2.flatMap uc8) (z := z) (p := p1) (m := l2.length) (r := 0) (by rw [fl8]; exact h2) (fl8 _)
 rw [Nat.add_zero] at e2
 rw [e2, List.flatMap_append]
 simp
def Vs (acc b : Int) : Int := orZ .u64 (IntKind.u64.wrap (acc * 2 ^ 8)) (IntKind.u64.wrap b)
def ky (w : Nat) (l : List Int) : Int := (l.take w).foldl Vs 0
theorem Vt {k : Nat} {l : List Int} (h : k < l.length) : ky (k + 1) l = Vs (ky k l) l[k] := by
 rw [ky, qaU h, List.foldl_append]; rfl
theorem W7 {w : Nat} {l : List Int} (h : l.length ≤ w) : ky w l = ky l.length l := by
 rw [ky, ky, qaK h, List.take_length]
def Yw (n : Int) : Nat → List Int
 | 0 => []
 | k + 1 => IntKind.u8.wrap (n / 256 ^ k % 256) :: Yw n k
theorem Vu (a w : Nat) : Yw (a : Int) (w + 1) = ((a / 256 ^ w % 256 : Nat) : Int) :: Yw (a : Int) w := by
 rw [Yw]
 congr 1
 have e : ((a : Int) / 256 ^ w % 256) = ((a / 256 ^ w % 256 : Nat) : Int) := by
  rw [Int.natCast_emod, Int.natCast_ediv, Int.natCast_pow]; rfl
 rw [e]
 exact IntWalk.u8_in _ (by omega)
theorem Vv (n : Int) : ∀ w : Nat, 1 ≤ w ∧ w ≤ 8 → vk w n = Yw n w := by
 intro w hw
 have wr : ∀ x : Int, IntKind.u8.wrap x = IntKind.u8.wrap (x % 256) := fun x => by rw [IntKind.wrap_u8, IntKind.wrap_u8]; omega
 have : w = 1 ∨ w = 2 ∨ w = 3 ∨ w = 4 ∨ w = 5 ∨ w = 6 ∨ w = 7 ∨ w = 8 := by omega
 rcases this with rfl | rfl | rfl | rfl | rfl | rfl | rfl | rfl <;> simp [vk, Vr, Yw, ← wr]
theorem wC : arE Try.prog 132 = some (64, 4) := by kernel_rfl
theorem Hc : arE Try.prog 139 = some (8, 1) := by kernel_rfl
theorem ar52 : arE Try.prog 52 = some (9, 1) := by kernel_rfl
theorem aw52 : arW Try.prog 52 = some 9 := by kernel_rfl
theorem Qw {a b : C4} : eqT Try.prog 9 106 (c4 a) (c4 b) = some (decide (a = b)) := by
 rw [← Qs]
 exact (show eqT Try.prog 9 106 [.int .u8 a.r, .int .u8 a.g, .int .u8 a.b, .int .u8 a.a] [.int .u8 b.r, .int .u8 b.g, .int .u8 b.b, .int .u8 b.a] = some (eqC a b) by kernel_rfl)
theorem Qx {t u : TL} : eqT Try.prog 9 132 (tc t) (tc u) = some (decide (t = u)) := by
 have h : ∀ a b : C4, eqT Try.prog 8 106 (c4 a) (c4 b) = some (decide (a = b)) := fun a b => by
  rw [← Qs]
  exact (show eqT Try.prog 8 106 [.int .u8 a.r, .int .u8 a.g, .int .u8 a.b, .int .u8 a.a] [.int .u8 b.r, .int .u8 b.g, .int .u8 b.b, .int .u8 b.a] = some (eqC a b) by kernel_rfl)
 have h2 := Qr (en := c4) W1 h t.l u.l (by rw [t.h, u.h])
 rw [t.h] at h2
 have h3 : eqT Try.prog 9 132 (tc t) (tc u) = eqA (eqT Try.prog 8 106) 4 64 (tc t) (tc u) := by
  have e1 : Try.prog.underlying 132 = some (.array 64 106) := by kernel_rfl
  obtain ⟨_, i, _, e3, _, e4⟩ := j7 (show tyB Try.prog 106 = some (true, 4) by kernel_rfl)
  unfold eqT
  simp only [e1, e3, e4]
 refine h3.trans (h2.trans ?_)
 congr 1
 rw [Bool.eq_iff_iff]
 simp only [decide_eq_true_eq]
 exact ⟨TL.ext, fun e => by rw [e]⟩
theorem eq52 {v w : Vec} : eqT Try.prog 9 52 (c9 v) (c9 w) = some (eqV v w) := by
 rw [← X1]; kernel_rfl
theorem fl100 : fdL Try.prog 100 = some [(0, 1)] := by kernel_rfl
theorem Gj : fdL Try.prog 106 = some [(0, 1), (1, 1), (2, 1), (3, 1)] := by kernel_rfl
theorem W8 : fdL Try.prog 121 = some [(0, 1), (1, 1)] := by kernel_rfl
theorem Qy : fdL Try.prog 129 = some [(0, 3), (3, 1), (4, 1)] := by kernel_rfl
theorem W9 : fdL Try.prog 134 = some [(0, 1), (1, 1)] := by kernel_rfl
theorem Hd : fdL Try.prog 150 = some [(0, 1), (1, 19)] := by kernel_rfl
theorem Gk : fdL Try.prog 153 = some [] := by kernel_rfl
theorem Gl : fdL Try.prog 166 = some [(0, 1), (1, 4)] := by kernel_rfl
theorem fl172 : fdL Try.prog 172 = some [(0, 1)] := by kernel_rfl
theorem fl175 : fdL Try.prog 175 = some [(0, 2)] := by kernel_rfl
theorem fl179 : fdL Try.prog 179 = some [(0, 2), (2, 1)] := by kernel_rfl
theorem fl50 : fdL Try.prog 50 = some [(0, 1), (1, 1), (2, 1)] := by kernel_rfl
theorem X3 : fdO Try.prog 100 0 = some 0 := by kernel_rfl
theorem X4 : fdO Try.prog 106 0 = some 0 := by kernel_rfl
theorem X5 : fdO Try.prog 106 1 = some 1 := by kernel_rfl
theorem X6 : fdO Try.prog 106 2 = some 2 := by kernel_rfl
theorem X7 : fdO Try.prog 106 3 = some 3 := by kernel_rfl
theorem Jo : fdO Try.prog 113 1 = some 19 := by kernel_rfl
theorem wm : fdO Try.prog 121 0 = some 0 := by kernel_rfl
theorem yh : fdO Try.prog 121 1 = some 1 := by kernel_rfl
theorem k7 : fdO Try.prog 129 0 = some 0 := by kernel_rfl
theorem jJ : fdO Try.prog 129 1 = some 3 := by kernel_rfl
theorem kR : fdO Try.prog 129 2 = some 4 := by kernel_rfl
theorem Jp : fdO Try.prog 134 0 = some 0 := by kernel_rfl
theorem Jq : fdO Try.prog 134 1 = some 1 := by kernel_rfl
theorem vl : fdO Try.prog 150 0 = some 0 := by kernel_rfl
theorem gt : fdO Try.prog 166 0 = some 0 := by kernel_rfl
theorem gP : fdO Try.prog 166 1 = some 1 := by kernel_rfl
theorem X8 : fdO Try.prog 172 0 = some 0 := by kernel_rfl
theorem gb : fdO Try.prog 175 0 = some 0 := by kernel_rfl
theorem Qz : fdO Try.prog 179 1 = some 2 := by kernel_rfl
theorem yM : fdO Try.prog 50 0 = some 0 := by kernel_rfl
theorem yN : fdO Try.prog 50 1 = some 1 := by kernel_rfl
theorem gY : fdO Try.prog 50 2 = some 2 := by kernel_rfl
theorem QA : Try.prog.eqGuardType Try.prog.depth 106 = false := by kernel_rfl
theorem QB : Try.prog.eqGuardType Try.prog.depth 132 = false := by kernel_rfl
theorem gd52 : Try.prog.eqGuardType Try.prog.depth 52 = false := by kernel_rfl
theorem kn22 : knd Try.prog 22 = some .u64 := by kernel_rfl
theorem kn3 : knd Try.prog 3 = some .i64 := by kernel_rfl
theorem kn5 : knd Try.prog 5 = some .u8 := by kernel_rfl
theorem Ua : niF Try.prog 100 = true := by kernel_rfl
theorem zE : niF Try.prog 153 = true := by kernel_rfl
theorem Ub : niF Try.prog 172 = true := by kernel_rfl
theorem QC : ptT Try.prog 146 = some 175 := by kernel_rfl
theorem He : slE Try.prog 177 = some (164, 1, 8) := by kernel_rfl
theorem qK : slE Try.prog 23 = some (5, 1, 1) := by kernel_rfl
theorem vm : slE Try.prog 24 = some (3, 1, 8) := by kernel_rfl
theorem gu : slE Try.prog 30 = some (23, 1, 24) := by kernel_rfl
theorem wU : slE Try.prog 48 = some (132, 256, 256) := by kernel_rfl
theorem Vw : slE Try.prog 97 = some (22, 1, 8) := by kernel_rfl
theorem Hf : tyB Try.prog 100 = some (true, 1) := by kernel_rfl
theorem gv : tyB Try.prog 106 = some (true, 4) := by kernel_rfl
theorem tb117 : tyB Try.prog 117 = some (false, 1) := by kernel_rfl
theorem Hg : tyB Try.prog 119 = some (false, 1) := by kernel_rfl
theorem QD : tyB Try.prog 129 = some (true, 5) := by kernel_rfl
theorem kv : tyB Try.prog 132 = some (true, 256) := by kernel_rfl
theorem zF : tyB Try.prog 134 = some (true, 2) := by kernel_rfl
theorem tb145 : tyB Try.prog 145 = some (false, 1) := by kernel_rfl
theorem j8 : tyB Try.prog 146 = some (false, 1) := by kernel_rfl
theorem Hh : tyB Try.prog 153 = some (true, 0) := by kernel_rfl
theorem Uc : tyB Try.prog 155 = some (false, 1) := by kernel_rfl
theorem Hi : tyB Try.prog 164 = some (false, 1) := by kernel_rfl
theorem KG : tyB Try.prog 166 = some (true, 5) := by kernel_rfl
theorem Hj : tyB Try.prog 172 = some (true, 1) := by kernel_rfl
theorem Hk : tyB Try.prog 177 = some (false, 1) := by kernel_rfl
theorem kz : tyB Try.prog 22 = some (false, 1) := by kernel_rfl
theorem kS : tyB Try.prog 23 = some (false, 1) := by kernel_rfl
theorem qU : tyB Try.prog 27 = some (false, 1) := by kernel_rfl
theorem tb3 : tyB Try.prog 3 = some (false, 1) := by kernel_rfl
theorem xw : tyB Try.prog 48 = some (false, 1) := by kernel_rfl
theorem tb5 : tyB Try.prog 5 = some (false, 1) := by kernel_rfl
theorem vA : tyB Try.prog 50 = some (true, 3) := by kernel_rfl
theorem gw : tyB Try.prog 52 = some (true, 9) := by kernel_rfl
theorem ty22 : (tyB Try.prog 22).isSome = true := by kernel_rfl
theorem ty3 : (tyB Try.prog 3).isSome = true := by kernel_rfl
theorem ty5 : (tyB Try.prog 5).isSome = true := by kernel_rfl
theorem Ud : zrC Try.prog 100 = some [.int .i64 0] := by kernel_rfl
theorem Gm : zrC Try.prog 106 = some [.int .u8 0, .int .u8 0, .int .u8 0, .int .u8 0] := by kernel_rfl
theorem zr113 : zrC Try.prog 113 = some [.int .u64 0, .int .i64 0, .int .u64 0, .int .i64 0, .int .i64 0, .int .i64 0, .int .i64 0, .int .i64 0, .int .i64 0, .int .u8 0, .int .u8 0, .int .u8 0, .int .u8 0, .int .i64 0, .int .i64 0, .slice none 0 0, .int .u64 0, .int .i64 0, .int .u64 0, .slice none 0 0] := by kernel_rfl
theorem Gn : zrC Try.prog 121 = some [.slice none 0 0, .int .i64 0] := by kernel_rfl
theorem xn : zrC Try.prog 129 = some [.int .i64 0, .int .i64 0, .slice none 0 0, .slice none 0 0, .int .i64 0] := by kernel_rfl
theorem jZ : zrC Try.prog 132 = some (tc zT) := by kernel_rfl
theorem KH : zrC Try.prog 134 = some [.int .i64 0, .int .i64 0] := by kernel_rfl
theorem zr139 : zrC Try.prog 139 = some [.int .u8 0, .int .u8 0, .int .u8 0, .int .u8 0, .int .u8 0, .int .u8 0, .int .u8 0, .int .u8 0] := by kernel_rfl
theorem Hl : zrC Try.prog 150 = some [.pointer none, .int .u64 0, .int .i64 0, .int .u64 0, .int .i64 0, .int .i64 0, .int .i64 0, .int .i64 0, .int .i64 0, .int .i64 0, .int .u8 0, .int .u8 0, .int .u8 0, .int .u8 0, .int .i64 0, .int .i64 0, .slice none 0 0, .int .u64 0, .int .i64 0, .int .u64 0] := by kernel_rfl
theorem zG : zrC Try.prog 153 = some [] := by kernel_rfl
theorem Hm : zrC Try.prog 164 = some [.pointer none] := by kernel_rfl
theorem wD : zrC Try.prog 166 = some [.int .i64 0, .int .u8 0, .int .u8 0, .int .u8 0, .int .u8 0] := by kernel_rfl
theorem Ue : zrC Try.prog 172 = some [.int .i64 0] := by kernel_rfl
theorem zr175 : zrC Try.prog 175 = some [.slice none 0 0, .int .i64 0] := by kernel_rfl
theorem zr179 : zrC Try.prog 179 = some [.int .i64 0, .int .i64 0, .slice none 0 0] := by kernel_rfl
theorem zr22 : zrC Try.prog 22 = some [.int .u64 0] := by kernel_rfl
theorem Uf : zrC Try.prog 23 = some [.slice none 0 0] := by kernel_rfl
theorem j4 : zrC Try.prog 27 = some [.int .i64 0] := by kernel_rfl
theorem zr3 : zrC Try.prog 3 = some [.int .i64 0] := by kernel_rfl
theorem zr5 : zrC Try.prog 5 = some [.int .u8 0] := by kernel_rfl
theorem Vx : zrC Try.prog 50 = some [.int .i64 0, .int .i64 0, .slice none 0 0] := by kernel_rfl
theorem xx : zrC Try.prog 52 = some (c9 z9) := by kernel_rfl
theorem zv100 : zrV Try.prog 100 = some (.agg #[.int .i64 0]) := by kernel_rfl
theorem zv153 : zrV Try.prog 153 = some (.agg #[]) := by kernel_rfl
theorem zv172 : zrV Try.prog 172 = some (.agg #[.int .i64 0]) := by kernel_rfl
end Go.Proofs.Ytofklkbfkoliiaa
namespace Go.Proofs.Ytofklkbfkoliiaa
set_option linter.unusedVariables false
set_option linter.unusedSimpArgs false
open Go.RowKit
theorem uD (v : Vec) : DFun Try.prog 47 [.val (.agg (c9 v).toArray)] [] (.val (.int .i64 (vV (vB v) 230))) [] := by
 refine zan (N := 24) 0 (by kernel_rfl) Try.func47 rfl rfl rfl (by simp only [fr0, qal, qam]; exact rfl) rfl fun s0 hs0 => ?_
 refine zag ?_
 refine zam 1 ?_
 refine zac ?_
 refine zaj rfl (gn 0 rfl (ev1 rfl) rfl) ?_
 refine zaa 1 rfl ?_
 refine zab ?_
 refine zag ?_
 refine zah ?_
 refine za rfl (kG rfl gw (ev1 rfl) rfl rfl) ?_
 refine za rfl (wN rfl ar52 xx) ?_
 refine za rfl (vg eq52 rfl gd52 gw (ev1 rfl) (ev1 rfl)) ?_
 refine zab ?_
 refine qv rfl (fun c1 => ?_) (fun c1 => ?_)
 ·refine zah ?_
  refine zaa 1 rfl ?_
  refine zab ?_
  refine qe ?_
  refine qH (rs1 rfl (qO rfl)) rfl ?_
  rw [An c1]
  rfl
 ·refine qd ?_
  refine zag ?_
  refine zah ?_
  refine za rfl (kG rfl gw (ev1 rfl) rfl rfl) ?_
  refine zaa 1 rfl ?_
  refine zab ?_
  refine qf ?_
  refine qY ⟨hs0, rfl⟩ (α := Nat) (fun k => [(9, .val (.int .i64 (k : Int)))]) [(8, _)] (fun k => []) [_] (fun k => k ≤ 9 ∧ ∀ i, i < k → Gi v i) (fun k => 9 - k) 0 [0] (⟨by omega, fun i hi => absurd hi (by omega)⟩) rfl ⟨rfl, trivial⟩ ⟨rfl, trivial⟩ ⟨rfl, trivial⟩ ?_
  intro k hx
  simp only [upd, zad, zaf, qas, qaw]
  obtain ⟨hk, he⟩ := hx
  refine zah ?_
  refine za rfl (qI rfl (ev1 rfl) (ev1 rfl)) ?_
  refine zab ?_
  refine zag ?_
  refine qv rfl (fun c2 => ?_) (fun c2 => ?_)
  ·try simp only [decide_eq_true_eq, decide_eq_false_iff_not, beq_iff_eq, bne_iff_ne, beq_eq_false_iff_ne, bne_eq_false_iff_eq, qau, qay, qan, qaA, qar, ne_eq, Decidable.not_not, qaO, qaP] at c2
   refine qd ?_
   refine zag ?_
   refine qf ?_
   refine zah ?_
   refine zaa 1 rfl ?_
   refine za rfl (Ag (k) rfl aw52 (ev1 rfl) (ev1 rfl) (fun _ => rfl) (by omega) (c9_at v _ (by omega))) ?_
   refine zaa 2 rfl ?_
   refine zab ?_
   refine zah ?_
   refine zaa 1 rfl ?_
   refine za rfl (kD rfl (ev1 rfl) (ev1 rfl)) ?_
   refine zaa 1 rfl ?_
   refine zak (qm rfl rfl rfl) rfl rfl rfl (zal (.inl rfl) (ev1 rfl)) ?_
   refine zak (qm rfl rfl rfl) rfl rfl rfl (qB rfl (ev2 rfl) (ev1 rfl)) ?_
   refine zak (qm rfl rfl rfl) rfl rfl rfl (zal (.inl rfl) (ev2 rfl)) ?_
   refine zak (kx rfl rfl rfl) rfl rfl rfl (zal (.inl rfl) (ev1 rfl)) ?_
   refine zak (kx rfl rfl rfl) rfl rfl rfl (kD rfl (ev2 rfl) (ev1 rfl)) ?_
   refine zak (qm rfl rfl rfl) rfl rfl rfl (q9 rfl (ev2 rfl) (ev2 rfl)) ?_
   refine za rfl (kC rfl (ev1 rfl) (ev3 rfl id)) ?_
   refine zab ?_
   refine qv rfl (fun c2 => ?_) (fun c2 => ?_)
   ·try simp only [decide_eq_true_eq, decide_eq_false_iff_not, beq_iff_eq, bne_iff_ne, beq_eq_false_iff_ne, bne_eq_false_iff_eq, qau, qay, qan, qaA, qar, ne_eq, Decidable.not_not, qaO, qaP] at c2
    refine zah ?_
    refine zaa 1 rfl ?_
    refine zab ?_
    refine qe ?_
    refine qH (rs1 rfl (qO rfl)) rfl ?_
    rw [vB_no (i := k) (by omega) (fun h => by unfold Gi at h; omega)]
    rfl
   ·try simp only [decide_eq_true_eq, decide_eq_false_iff_not, beq_iff_eq, bne_iff_ne, beq_eq_false_iff_ne, bne_eq_false_iff_eq, qau, qay, qan, qaA, qar, ne_eq, Decidable.not_not, qaO, qaP] at c2
    have hov : Gi v k := ⟨by simp at c2; omega, fun e => by simp at c2; omega⟩
    refine qd ?_
    refine zac ?_
    refine za rfl (qx rfl (ev1 rfl) (ev1 rfl) (fun _ => qat _ (by omega))) ?_
    refine zaa 1 rfl ?_
    refine zab ?_
    refine ⟨k + 1, [0], ⟨by omega, Vq he hov⟩, by simp only []; omega, rfl, ⟨rfl, rfl, trivial⟩, ⟨rfl, trivial⟩⟩
  ·try simp only [decide_eq_true_eq, decide_eq_false_iff_not, beq_iff_eq, bne_iff_ne, beq_eq_false_iff_ne, bne_eq_false_iff_eq, qau, qay, qan, qaA, qar, ne_eq, Decidable.not_not, qaO, qaP] at c2
   refine qQ ?_
   refine zah ?_
   refine zaa 1 rfl ?_
   refine zab ?_
   refine qe ?_
   refine qH (rs1 rfl (qO rfl)) rfl ?_
   rw [vB_all.2 fun i hi => he i (by omega)]
   rfl
end Go.Proofs.Ytofklkbfkoliiaa
namespace Go.Proofs.Ytofklkbfkoliiaa
set_option linter.unusedVariables false
set_option linter.unusedSimpArgs false
open Go.RowKit
theorem Ao (n : Int) : DFun Try.prog 69 [.val (.int .i64 n)] [] (.val (.bool (isW n))) [] := by
 refine zan (N := 9) 0 (by kernel_rfl) Try.func69 rfl rfl rfl (by simp only [fr0, qal, qam]; exact rfl) rfl fun s0 hs0 => ?_
 refine zah ?_
 refine zaa 1 rfl ?_
 refine zab ?_
 refine zah ?_
 refine zaa 1 rfl ?_
 refine za rfl (gi rfl (ev1 rfl) (ev1 rfl)) ?_
 refine zaa 1 rfl ?_
 refine zak (qC rfl rfl rfl) rfl rfl rfl (zal (.inl rfl) (ev1 rfl)) ?_
 refine zak (qC rfl rfl rfl) rfl rfl rfl (yK rfl (ev2 rfl) (ev1 rfl)) ?_
 refine za rfl (q9 rfl (ev1 rfl) (ev3 rfl id)) ?_
 refine zaa 1 rfl ?_
 refine zab ?_
 refine qe ?_
 refine qH (rs1 rfl (qO rfl)) rfl ?_
 rfl
theorem Ap (l : List Int) : DFun Try.prog 68 [.slf 1 (l).length ((l).flatMap ic), .fn (.func 69) [] []] [] (.val (.bool (l.all isW))) [] := by
 refine zan (N := 18) 0 (by kernel_rfl) Try.func68 rfl rfl rfl (by simp only [fr0, qal, qam]; exact rfl) rfl fun s0 hs0 => ?_
 refine kP (t := 0) rfl fun hl0 hL0 => ?_
 refine zah ?_
 refine zaa 1 rfl ?_
 refine zab ?_
 refine zag ?_
 refine zah ?_
 refine zaa 1 rfl ?_
 refine za rfl (qJ rfl vm (ev1 rfl)) ?_
 refine zaa 1 rfl ?_
 refine zab ?_
 refine qf ?_
 refine qY ⟨hs0, rfl⟩ (α := Nat) (fun k => [(9, .val (.int .i64 (k : Int)))]) [(1, _), (7, _), (8, _)] (fun k => []) [] (fun k => k ≤ l.length ∧ l.all isW = (l.drop k).all isW) (fun k => l.length - k) 0 [] (by simp) rfl ⟨rfl, rfl, rfl, trivial⟩ ⟨rfl, trivial⟩ trivial ?_
 intro k hx
 simp only [upd, zad, zaf, qas, qaw]
 obtain ⟨hk, he⟩ := hx
 refine zah ?_
 refine za rfl (qI rfl (ev1 rfl) (ev1 rfl)) ?_
 refine zab ?_
 refine zag ?_
 refine qv rfl (fun c1 => ?_) (fun c1 => ?_)
 ·try simp only [decide_eq_true_eq, decide_eq_false_iff_not, beq_iff_eq, bne_iff_ne, beq_eq_false_iff_ne, bne_eq_false_iff_eq, qau, qay, qan, qaA, qar, ne_eq, Decidable.not_not, qaO, qaP] at c1
  refine qd ?_
  refine zag ?_
  refine qf ?_
  refine zah ?_
  refine za rfl (qS (j := k) rfl vm (ev1 rfl) (ev1 rfl) (fun _ => rfl) (by decide) (by omega) (by omega)) ?_
  refine za rfl (qV rfl tb3 (ev1 rfl) rfl) ?_
  refine zaa 1 rfl ?_
  refine zab ?_
  refine zah ?_
  refine zaa 2 rfl ?_
  refine za rfl (zai [] [] [] rfl (ev1 rfl) (ec (ev1 rfl) en) rfl rfl (Ao _) rfl rfl rfl rfl rfl rfl) ?_
  refine za rfl (kX rfl (ev1 rfl)) ?_
  refine zab ?_
  refine qv rfl (fun c2 => ?_) (fun c2 => ?_)
  ·refine zah ?_
   refine zaa 1 rfl ?_
   refine zab ?_
   refine qe ?_
   refine qH (rs1 rfl (qO rfl)) rfl ?_
   rw [he, List.drop_eq_getElem_cons (show k < l.length by omega), List.all_cons, bn_t c2]; rfl
  ·refine qd ?_
   refine zac ?_
   refine za rfl (qx rfl (ev1 rfl) (ev1 rfl) (fun _ => qat _ (by omega))) ?_
   refine zaa 1 rfl ?_
   refine zab ?_
   refine ⟨k + 1, [], ⟨by omega, by rw [he, List.drop_eq_getElem_cons (show k < l.length by omega), List.all_cons, bn_f c2, Bool.true_and]⟩, by simp only []; omega, rfl, ⟨rfl, rfl, rfl, rfl, trivial⟩, trivial⟩
 ·try simp only [decide_eq_true_eq, decide_eq_false_iff_not, beq_iff_eq, bne_iff_ne, beq_eq_false_iff_ne, bne_eq_false_iff_eq, qau, qay, qan, qaA, qar, ne_eq, Decidable.not_not, qaO, qaP] at c1
  refine qQ ?_
  refine zah ?_
  refine zaa 1 rfl ?_
  refine zab ?_
  refine qe ?_
  refine qH (rs1 rfl (qO rfl)) rfl ?_
  rw [he, List.drop_of_length_le (by omega)]; rfl
theorem yX (l : List Int) (h : l.all isW = true) : DFun Try.prog 50 [.slf 1 (l).length ((l).flatMap ic)] [] (.tup []) [] := by
 refine zan (N := 7) 0 (by kernel_rfl) Try.func50 rfl rfl rfl (by simp only [fr0, qal, qam]; exact rfl) rfl fun s0 hs0 => ?_
 refine kP (t := 0) rfl fun hl0 hL0 => ?_
 refine zah ?_
 refine zaa 1 rfl ?_
 refine za rfl (zai [] [] [] rfl (ev1 rfl) (ec (ev1 rfl) (ec (ev1 rfl) en)) rfl rfl (Ap _) rfl rfl rfl rfl rfl rfl) ?_
 refine za rfl (kX rfl (ev1 rfl)) ?_
 refine zab ?_
 refine qj rfl (by rw [h]; rfl) ?_
 refine qd ?_
 refine qH (qD rfl) rfl ?_
 rfl
theorem X9 (w : Nat) (h : 1 ≤ w ∧ w ≤ 8) (n : Int) : DFun Try.prog 70 [.val (.int .i64 (w : Int)), .val (.int .u64 n)] [] (.val (.bool (KF w n))) [] := by
 refine zan (N := 14) 0 (by kernel_rfl) Try.func70 rfl rfl rfl (by simp only [fr0, qal, qam]; exact rfl) rfl fun s0 hs0 => ?_
 refine zah ?_
 refine zaa 1 rfl ?_
 refine zab ?_
 refine zah ?_
 refine zaa 1 rfl ?_
 refine za rfl (qB rfl (ev1 rfl) (ev1 rfl)) ?_
 refine zaa 1 rfl ?_
 refine zak (qm rfl rfl rfl) rfl rfl rfl (zal (.inl rfl) (ev1 rfl)) ?_
 refine zak (qm rfl rfl rfl) rfl rfl rfl (zal (.inl rfl) (ev1 rfl)) ?_
 refine zak (qm rfl rfl rfl) rfl rfl rfl (yc rfl (ev1 rfl) (ev2 rfl) (fun hp => qat _ (by first | omega | (simp at hp; omega)))) ?_
 refine zak (qm rfl rfl rfl) rfl rfl rfl (WF (8 * w) rfl (ev2 rfl) (ev2 rfl) (fun _ => ⟨by omega, by simp [IntKind.bits]; omega⟩)) ?_
 refine zak (qm rfl rfl rfl) rfl rfl rfl (qB rfl (ev2 rfl) (ev1 rfl)) ?_
 refine za rfl (kC rfl (ev1 rfl) (ev3 rfl id)) ?_
 refine zaa 1 rfl ?_
 refine zab ?_
 refine qe ?_
 refine qH (rs1 rfl (qO rfl)) rfl ?_
 rw [D.val.injEq, Value.bool.injEq]
 unfold KF
 congr 1
 rw [Bool.eq_iff_iff]; simp; omega
theorem Ug (w : Nat) (h : 1 ≤ w ∧ w ≤ 8) (n : Int) (hf : KF w n = true) : DFun Try.prog 52 [.val (.int .i64 (w : Int)), .val (.int .u64 n)] [] (.slf 1 (vk w n).length ((vk w n).flatMap uc8)) [] := by
 refine zan (N := 28) 0 (by kernel_rfl) Try.func52 rfl rfl rfl (by simp only [fr0, qal, qam]; exact rfl) rfl fun s0 hs0 => ?_
 refine zah ?_
 refine zaa 1 rfl ?_
 refine zab ?_
 refine zag ?_
 refine zah ?_
 refine zaa 2 rfl ?_
 refine za rfl (zai [] [] [] rfl (ev1 rfl) (ec (ev1 rfl) (ec (ev1 rfl) en)) rfl rfl (X9 _ (by assumption) _) rfl rfl rfl rfl rfl rfl) ?_
 refine za rfl (kX rfl (ev1 rfl)) ?_
 refine zab ?_
 refine qj rfl (by rw [hf]; rfl) ?_
 refine qd ?_
 refine zag ?_
 refine zam 1 ?_
 refine zac ?_
 refine zaj rfl (zao 0 rfl zr139 rfl) ?_
 refine zab ?_
 refine zag ?_
 refine zah ?_
 refine zaa 1 rfl ?_
 refine zab ?_
 refine qf ?_
 refine qY ⟨hs0, rfl⟩ (α := Nat) (fun k => [(13, .val (.int .i64 (k : Int)))]) [(0, _), (1, _), (5, _)] (fun k => [(0, .flat 139 ((Vr n k).flatMap uc8))]) [.hole] (fun k => k ≤ 8) (fun k => 8 - k) 0 [0] (by simp) rfl ⟨rfl, rfl, rfl, trivial⟩ ⟨rfl, trivial⟩ ⟨rfl, trivial⟩ ?_
 intro k hx
 simp only [upd, zad, zaf, qas, qaw]
 have hk := hx
 refine zah ?_
 refine za rfl (qI rfl (ev1 rfl) (ev1 rfl)) ?_
 refine zab ?_
 refine zag ?_
 refine qv rfl (fun c2 => ?_) (fun c2 => ?_)
 ·try simp only [decide_eq_true_eq, decide_eq_false_iff_not, beq_iff_eq, bne_iff_ne, beq_eq_false_iff_ne, bne_eq_false_iff_eq, qau, qay, qan, qaA, qar, ne_eq, Decidable.not_not, qaO, qaP] at c2
  refine qd ?_
  refine zag ?_
  refine qf ?_
  refine zah ?_
  refine zaa 2 rfl ?_
  refine zab ?_
  refine zac ?_
  refine zaa 1 rfl ?_
  refine za rfl (jy rfl (ev1 rfl) (ev1 rfl) (fun _ => qat _ (by omega))) ?_
  refine zaa 2 rfl ?_
  refine za rfl (yc rfl (ev1 rfl) (ev1 rfl) (fun _ => qat _ (by omega))) ?_
  refine za rfl (WF (8 * k) rfl (ev1 rfl) (ev1 rfl) (fun _ => ⟨by omega, by simp [IntKind.bits]; omega⟩)) ?_
  refine za rfl (xE ty22 kn5 rfl (ev1 rfl)) ?_
  refine za rfl (ye (j := 7 - k) rfl Hc (ev1 rfl) (ev1 rfl) (fun _ => by omega) (fun _ => by omega)) ?_
  refine qc rfl (xJ (q := IntKind.u8.wrap (n / 2 ^ (8 * k))) rfl tb5 (ev1 rfl) (ev1 rfl) rfl rfl rfl (fun _ => rfl) (fun _ => by first | omega | (rw [uC]; omega))) ?_
  refine zab ?_
  refine zac ?_
  refine za rfl (qx rfl (ev1 rfl) (ev1 rfl) (fun _ => qat _ (by omega))) ?_
  refine zaa 1 rfl ?_
  refine zab ?_
  refine ⟨k + 1, [0], by omega, by simp only []; omega, rfl, ⟨rfl, rfl, rfl, rfl, trivial⟩, ⟨rfl, trivial⟩⟩
 ·try simp only [decide_eq_true_eq, decide_eq_false_iff_not, beq_iff_eq, bne_iff_ne, beq_eq_false_iff_ne, bne_eq_false_iff_eq, qau, qay, qan, qaA, qar, ne_eq, Decidable.not_not, qaO, qaP] at c2
  refine qQ ?_
  refine zag ?_
  refine J4 ⟨hs0, rfl⟩ [] [0] [(0, _), (5, _)] [] rfl ⟨rfl, rfl, trivial⟩ trivial ?_
  refine zac ?_
  refine zaa 1 rfl ?_
  refine za rfl (jy rfl (ev1 rfl) (ev1 rfl) (fun _ => qat _ (by omega))) ?_
  refine za rfl (WG (8 - w) rfl Hc (ev1 rfl) (ev1 rfl) (ev1 rfl) (ev1 rfl) (fun _ => by omega) (fun _ => rfl) (fun _ => rfl) (fun _ => by omega) ((uC _ _)) (by decide) (fun _ => rfl)) ?_
  refine zaa 1 rfl ?_
  refine zab ?_
  refine qe ?_
  refine qH (rs1 rfl (qO rfl)) rfl ?_
  obtain rfl : k = 8 := by omega
  rfl
end Go.Proofs.Ytofklkbfkoliiaa
namespace Go.Proofs.Ytofklkbfkoliiaa
set_option linter.unusedVariables false
set_option linter.unusedSimpArgs false
open Go.RowKit
theorem Aq (l1 l2 : List Int) (h : l1.length + l2.length ≤ 100000) : DFun Try.prog 87 [.slm 1 2 [.slf 1 (l1).length ((l1).flatMap uc8), .slf 1 (l2).length ((l2).flatMap uc8)]] [] (.arr 0) [.arr 5 1 (l1 ++ l2).length ((l1 ++ l2).flatMap uc8)] := by
 refine zan (N := 38) 0 (by kernel_rfl) Try.func87 rfl rfl rfl (by simp only [fr0, qal, qam]; exact rfl) rfl fun s0 hs0 => ?_
 refine ur (t := 0) rfl fun hl0 hL0 => ?_
 refine zah ?_
 refine zaa 1 rfl ?_
 refine zab ?_
 refine zah ?_
 refine zaa 1 rfl ?_
 refine zab ?_
 refine zag ?_
 refine zah ?_
 refine zaa 1 rfl ?_
 refine za rfl (jA rfl gu (ev1 rfl)) ?_
 refine zaa 1 rfl ?_
 refine zab ?_
 refine qf ?_
 refine yV (kM ?_)
 refine zah ?_
 refine za rfl (qI rfl (ev1 rfl) (ev1 rfl)) ?_
 refine zab ?_
 refine zag ?_
 refine qR rfl (rfl) ?_
 refine qd ?_
 refine zag ?_
 refine qf ?_
 refine zah ?_
 refine za rfl (vi (0) rfl gu (ev1 rfl) (ev1 rfl) (fun _ => rfl) rfl) ?_
 refine za rfl (gq rfl kS (ev1 rfl) rfl) ?_
 refine zaa 1 rfl ?_
 refine zab ?_
 refine zac ?_
 refine zaa 2 rfl ?_
 refine za rfl (qJ rfl qK (ev1 rfl)) ?_
 refine za rfl (qx rfl (ev1 rfl) (ev1 rfl) (fun _ => qat _ (by omega))) ?_
 refine zaa 1 rfl ?_
 refine zab ?_
 refine zac ?_
 refine za rfl (qx rfl (ev1 rfl) (ev1 rfl) (fun _ => qat _ (by omega))) ?_
 refine zaa 1 rfl ?_
 refine zab ?_
 refine kM ?_
 refine zah ?_
 refine za rfl (qI rfl (ev1 rfl) (ev1 rfl)) ?_
 refine zab ?_
 refine zag ?_
 refine qR rfl (rfl) ?_
 refine qd ?_
 refine zag ?_
 refine qf ?_
 refine zah ?_
 refine za rfl (vi (1) rfl gu (ev1 rfl) (ev1 rfl) (fun _ => rfl) rfl) ?_
 refine za rfl (gq rfl kS (ev1 rfl) rfl) ?_
 refine zaa 1 rfl ?_
 refine zab ?_
 refine zac ?_
 refine zaa 2 rfl ?_
 refine za rfl (qJ rfl qK (ev1 rfl)) ?_
 refine za rfl (qx rfl (ev1 rfl) (ev1 rfl) (fun _ => qat _ (by omega))) ?_
 refine zaa 1 rfl ?_
 refine zab ?_
 refine zac ?_
 refine za rfl (qx rfl (ev1 rfl) (ev1 rfl) (fun _ => qat _ (by omega))) ?_
 refine zaa 1 rfl ?_
 refine zab ?_
 refine kM ?_
 refine zah ?_
 refine za rfl (qI rfl (ev1 rfl) (ev1 rfl)) ?_
 refine zab ?_
 refine zag ?_
 refine qj rfl (rfl) ?_
 refine qQ ?_
 refine zag ?_
 refine zam 1 ?_
 refine zac ?_
 refine zaa 1 rfl ?_
 refine zaj rfl (HX 0 (l1.length + l2.length) (.int .u8 0) rfl qK zr5 (ev1 rfl) (ev1 rfl) (fun _ => by omega) (fun _ => by omega) rfl (fun _ => by omega)) ?_
 refine zaa 1 rfl ?_
 refine zab ?_
 refine zah ?_
 refine zaa 1 rfl ?_
 refine zab ?_
 refine zag ?_
 refine zah ?_
 refine zaa 1 rfl ?_
 refine za rfl (jA rfl gu (ev1 rfl)) ?_
 refine zaa 1 rfl ?_
 refine zab ?_
 refine qf ?_
 refine yV (kM ?_)
 refine zah ?_
 refine za rfl (qI rfl (ev1 rfl) (ev1 rfl)) ?_
 refine zab ?_
 refine zag ?_
 refine qR rfl (rfl) ?_
 refine qd ?_
 refine zag ?_
 refine qf ?_
 refine zah ?_
 refine za rfl (vi (0) rfl gu (ev1 rfl) (ev1 rfl) (fun _ => rfl) rfl) ?_
 refine za rfl (gq rfl kS (ev1 rfl) rfl) ?_
 refine zaa 1 rfl ?_
 refine zab ?_
 refine zac ?_
 refine zaa 3 rfl ?_
 refine za rfl (Wo rfl qK (ev1 rfl) rfl (ji (ev1 rfl)) uk (fun _ => by omega)) ?_
 refine zaa 1 rfl ?_
 refine zaj rfl (WD rfl qK (ev1 rfl) (ev1 rfl) yG rfl (fun _ => yd (fun _ => rfl) _)) ?_
 refine za rfl (qx rfl (ev1 rfl) (ev1 rfl) (fun _ => qat _ (by omega))) ?_
 refine zaa 1 rfl ?_
 refine zab ?_
 refine zac ?_
 refine za rfl (qx rfl (ev1 rfl) (ev1 rfl) (fun _ => qat _ (by omega))) ?_
 refine zaa 1 rfl ?_
 refine zab ?_
 refine kM ?_
 refine zah ?_
 refine za rfl (qI rfl (ev1 rfl) (ev1 rfl)) ?_
 refine zab ?_
 refine zag ?_
 refine qR rfl (rfl) ?_
 refine qd ?_
 refine zag ?_
 refine qf ?_
 refine zah ?_
 refine za rfl (vi (1) rfl gu (ev1 rfl) (ev1 rfl) (fun _ => rfl) rfl) ?_
 refine za rfl (gq rfl kS (ev1 rfl) rfl) ?_
 refine zaa 1 rfl ?_
 refine zab ?_
 refine zac ?_
 refine zaa 3 rfl ?_
 refine za rfl (Wo rfl qK (ev1 rfl) rfl (ji (ev1 rfl)) uk (fun _ => by omega)) ?_
 refine zaa 1 rfl ?_
 refine zaj rfl (WD rfl qK (ev1 rfl) (ev1 rfl) yG rfl (fun _ => yd (fun _ => rfl) _)) ?_
 refine za rfl (qx rfl (ev1 rfl) (ev1 rfl) (fun _ => qat _ (by omega))) ?_
 refine zaa 1 rfl ?_
 refine zab ?_
 refine zac ?_
 refine za rfl (qx rfl (ev1 rfl) (ev1 rfl) (fun _ => qat _ (by omega))) ?_
 refine zaa 1 rfl ?_
 refine zab ?_
 refine kM ?_
 refine zah ?_
 refine za rfl (qI rfl (ev1 rfl) (ev1 rfl)) ?_
 refine zab ?_
 refine zag ?_
 refine qj rfl (rfl) ?_
 refine qQ ?_
 refine zah ?_
 refine zaa 2 rfl ?_
 refine zab ?_
 refine qe ?_
 refine kc [0] (rs1 rfl (qO rfl)) rfl rfl ?_ ⟨?_, trivial⟩
 rfl
 exact vh (by simp; try omega) (beh2 _ _ _ _ _ _ (by omega) (by omega) (by omega) (by omega))
theorem Ar (l1 l2 : List Int) (h : l1.length + l2.length ≤ 100000) : DFun Try.prog 87 [.slm 1 2 [.slf 1 (l1).length ((l1).flatMap uc8), .slf 1 (l2).length ((l2).flatMap uc8)]] [] (.slf 1 (l1 ++ l2).length ((l1 ++ l2).flatMap uc8)) [] := yL (Aq l1 l2 h) rfl
end Go.Proofs.Ytofklkbfkoliiaa
namespace Go.Proofs.Ytofklkbfkoliiaa
set_option linter.unusedVariables false
set_option linter.unusedSimpArgs false
open Go.RowKit
theorem yY : DFun Try.prog 49 [.val .nilIface] [] (.val (.int .i64 0)) [] := by
 refine zan (N := 13) 0 (by kernel_rfl) Try.func49 rfl rfl rfl (by simp only [fr0, qal, qam]; exact rfl) rfl fun s0 hs0 => ?_
 refine zah ?_
 refine zaa 1 rfl ?_
 refine zab ?_
 refine zag ?_
 refine zag ?_
 refine zam 1 ?_
 refine zac ?_
 refine zaa 1 rfl ?_
 refine za rfl (Jb rfl Ua zv100 (ev1 rfl)) ?_
 refine zaa 3 rfl ?_
 refine zaj rfl (zao 0 rfl Ud rfl) ?_
 refine qc rfl (q0 rfl Hf (ev1 rfl) (ev1 rfl) rfl rfl rfl rfl) ?_
 refine zaa 1 rfl ?_
 refine zab ?_
 refine zah ?_
 refine zaa 1 rfl ?_
 refine zab ?_
 refine qj rfl (rfl) ?_
 refine qd ?_
 refine zah ?_
 refine zaa 1 rfl ?_
 refine zab ?_
 refine qe ?_
 refine qH (rs1 rfl (qO rfl)) rfl ?_
 rfl
theorem xP (n : Int) : DFun Try.prog 49 [.ifc 100 (.val (.agg #[.int .i64 n]))] [] (.val (.int .i64 n)) [] := by
 refine zan (N := 13) 0 (by kernel_rfl) Try.func49 rfl rfl rfl (by simp only [fr0, qal, qam]; exact rfl) rfl fun s0 hs0 => ?_
 refine zah ?_
 refine zaa 1 rfl ?_
 refine zab ?_
 refine zag ?_
 refine zag ?_
 refine zam 1 ?_
 refine zac ?_
 refine zaa 1 rfl ?_
 refine za rfl (Ja rfl Ua (ev1 rfl)) ?_
 refine zaa 3 rfl ?_
 refine zaj rfl (zao 0 rfl Ud rfl) ?_
 refine qc rfl (q0 rfl Hf (ev1 rfl) (ev1 rfl) rfl rfl rfl rfl) ?_
 refine zaa 1 rfl ?_
 refine zab ?_
 refine zah ?_
 refine zaa 1 rfl ?_
 refine zab ?_
 refine qR rfl (rfl) ?_
 refine zah ?_
 refine za rfl (qa rfl X3 (ev1 rfl)) ?_
 refine za rfl (qq rfl qU (ev1 rfl) rfl rfl) ?_
 refine zaa 1 rfl ?_
 refine zab ?_
 refine qe ?_
 refine qH (rs1 rfl (qO rfl)) rfl ?_
 rfl
theorem Yx (e : Int) : DDef Try.prog 86 [.loc 0 0] [.flat 27 [.int .i64 e]] none none [.flat 27 [.int .i64 0]] := by
 refine jj (dr := .tup []) (t := 1) (N := 3) 1 (by kernel_rfl) Try.func86 rfl rfl rfl (by simp only [fr0, qal, qam]; exact rfl) rfl rfl rfl rfl rfl fun s0 hs0 => ?_
 refine za rfl (zai [] [] [] rfl (ev1 rfl) (ec (ev1 rfl) en) rfl rfl (yY) rfl rfl rfl rfl rfl rfl) ?_
 refine qc rfl (qG rfl qU (ev1 rfl) (ev1 rfl) rfl) ?_
 refine zab ?_
 refine kc [0] (qD rfl) rfl rfl ?_ ⟨rfl, trivial⟩
 rfl
theorem Za (l : List Int) (w : Nat) (n : Int) (hl : l.length ≤ 90000) (h : 1 ≤ w ∧ w ≤ 8) (hf : KF w n = true) : DFun Try.prog 71 [.slf 1 l.length (l.flatMap uc8), .val (.int .i64 (w : Int)), .val (.int .u64 n)] [] (.tup [.slf 1 (l ++ vk w n).length ((l ++ vk w n).flatMap uc8), .val (.int .i64 0)]) [] := by
 refine qn (N := 18) 0 (by kernel_rfl) Try.func71 rfl rfl rfl (by simp only [fr0, qal, qam]; exact rfl) rfl fun s0 hs0 => ?_
 refine qF rfl hs0 ?_
 refine zam 1 ?_
 refine zac ?_
 refine zaa 1 rfl ?_
 refine zaj rfl (zao 0 rfl j4 rfl) ?_
 refine zab ?_
 refine qr (l0 := [_]) rfl rfl rfl rfl rfl hs0 ?_
 refine za rfl (qX rfl en (ec (ev1 rfl) en)) ?_
 refine zab ⟨_, _, _, 1, ev1 rfl, qaF hs0 (by decide), rfl, ?_⟩
 have hs1 : s0.M.length ≤ 1 := qaF hs0 (by decide)
 refine qE rfl hs0 ?_
 refine zah ?_
 refine zaa 1 rfl ?_
 refine za rfl (xj (ps := [(0, .tmp 9)]) rfl vm zr3 rfl (vc (ev1 rfl) vn) rfl (by decide) (by decide)) ?_
 refine za rfl (zai [] [] [] rfl (ev1 rfl) (ec (ev1 rfl) en) rfl rfl (yX [(w : Int)] (by simp [Jn]; omega)) rfl rfl rfl rfl rfl rfl) ?_
 refine zab ?_
 refine zah ?_
 refine zaa 3 rfl ?_
 refine za rfl (zai [] [] [] rfl (ev1 rfl) (ec (ev1 rfl) (ec (ev1 rfl) en)) rfl rfl (Ug w h n hf) rfl rfl rfl rfl rfl rfl) ?_
 refine za rfl (WH (ps := [(0, .tmp 12), (1, .tmp 15)]) rfl gu Uf rfl (ec (ev1 rfl) (ec (ev1 rfl) en)) rfl (by decide)) ?_
 refine za rfl (zai [] [] [] rfl (ev1 rfl) (ec (ev1 rfl) en) rfl rfl (Ar _ _ (by rw [Yv h.2]; omega)) rfl rfl rfl rfl rfl rfl) ?_
 refine zaa 1 rfl ?_
 refine qc rfl (qG rfl qU (ev1 rfl) (ev1 rfl) rfl) ?_
 refine zab ?_
 refine qe ?_
 refine jO (kH [0] [] rfl rfl (Yx _) rfl rfl rfl rfl rfl) ?_
 refine qH (rs2 rfl (qO rfl) (jB qU rfl rfl rfl)) rfl ?_
 rfl
end Go.Proofs.Ytofklkbfkoliiaa
namespace Go.Proofs.Ytofklkbfkoliiaa
set_option linter.unusedVariables false
set_option linter.unusedSimpArgs false
open Go.RowKit
theorem Vy (T : TypeId) (l : List Int) (e : Int) (n : Nat) (h : n ≤ l.length) : DFun Try.prog 89 [.loc 0 0, .val (.int .i64 (n : Int))] [.mix T [.slf 1 (l).length ((l).flatMap uc8), .val (.int .i64 e)]] (.tup []) [.mix T [.slf 1 (l).length ((l).flatMap uc8), .val (.int .i64 e)]] := by
 refine zan (N := 13) 1 (by kernel_rfl) Try.func89 rfl rfl rfl (by simp only [fr0, qal, qam]; exact rfl) rfl fun s0 hs0 => ?_
 refine zah ?_
 refine zaa 1 rfl ?_
 refine za rfl (qt rfl (ev1 rfl) (fun s v h => by cases h; exact ⟨_, rfl⟩)) ?_
 refine za rfl (qa rfl wm (ev1 rfl)) ?_
 refine za rfl (qb rfl kS (ev1 rfl) rfl rfl) ?_
 refine za rfl (qJ rfl qK (ev1 rfl)) ?_
 refine zaa 1 rfl ?_
 refine za rfl (qI rfl (ev1 rfl) (ev1 rfl)) ?_
 refine zab ?_
 refine qj rfl (decide_eq_false (by omega)) ?_
 refine qd ?_
 refine kc [0] (qD rfl) rfl rfl ?_ ⟨rfl, trivial⟩
 rfl
theorem Vz (T : TypeId) (l : List Int) (e : Int) (n : Nat) (h : l.length < n) : DPan Try.prog 89 [.loc 0 0, .val (.int .i64 (n : Int))] [.mix T [.slf 1 (l).length ((l).flatMap uc8), .val (.int .i64 e)]] (.ifc 100 (.val (.agg #[.int .i64 110]))) [.mix T [.slf 1 (l).length ((l).flatMap uc8), .val (.int .i64 e)]] := by
 refine zan (N := 13) 1 (by kernel_rfl) Try.func89 rfl rfl rfl (by simp only [fr0, qal, qam]; exact rfl) rfl fun s0 hs0 => ?_
 refine zah ?_
 refine zaa 1 rfl ?_
 refine za rfl (qt rfl (ev1 rfl) (fun s v h => by cases h; exact ⟨_, rfl⟩)) ?_
 refine za rfl (qa rfl wm (ev1 rfl)) ?_
 refine za rfl (qb rfl kS (ev1 rfl) rfl rfl) ?_
 refine za rfl (qJ rfl qK (ev1 rfl)) ?_
 refine zaa 1 rfl ?_
 refine za rfl (qI rfl (ev1 rfl) (ev1 rfl)) ?_
 refine zab ?_
 refine qR rfl (decide_eq_true (by omega)) ?_
 refine zac ?_
 refine za rfl (kW (ps := [(0, .const (.int .i64 110))]) rfl fl100 Ud (vc (ev1 rfl) vn) rfl rfl) ?_
 refine za rfl (xl rfl Ua (ev1 rfl)) ?_
 refine ke rfl (vR rfl (ev1 rfl)) rfl ?_
 refine K9 [0] rfl rfl ?_ ⟨rfl, trivial⟩
 rfl
theorem Uh (T : TypeId) (l : List Int) (e : Int) : DFun Try.prog 90 [.loc 0 0] [.mix T [.slf 1 (l).length ((l).flatMap uc8), .val (.int .i64 e)]] (.fn (.func 96) [] [.loc 1 0]) [.mix T [.slf 1 (l).length ((l).flatMap uc8), .val (.int .i64 e)], .mix 145 [.loc 0 0]] := by
 refine zan (N := 4) 1 (by kernel_rfl) Try.func90 rfl rfl rfl (by simp only [fr0, qal, qam]; exact rfl) rfl fun s0 hs0 => ?_
 refine zag ?_
 refine zam 1 ?_
 refine zac ?_
 refine zaj rfl (jV 1 rfl (ev1 rfl) (fun s v h => by cases h <;> rfl) rfl) ?_
 refine zaa 1 rfl ?_
 refine zab ?_
 refine zah ?_
 refine za rfl (qX rfl en (ec (ev1 rfl) en)) ?_
 refine zaa 1 rfl ?_
 refine zab ?_
 refine qe ?_
 refine kc [0, 1] (rs1 rfl (qO rfl)) rfl rfl ?_ ⟨rfl, rfl, trivial⟩
 rfl
noncomputable def VA : Code := rfA (pth [1, 0, 1, 1, 1, 0, 1, 0] (vT Try.f76))
noncomputable def VB : Code := rfB (pth [1, 0, 1, 1, 1, 0, 1, 0] (vT Try.f76))
theorem Gp (i w acc b : Int) (h : i ≠ w) : DRound Try.prog 0 [.val (.int .i64 i), .val (.int .u8 b)] [.lp none 24 [(3, .loc 1 0), (5, .loc 2 0)] #[13, 14] VA VB .ready none, .flat 3 [.int .i64 w], .flat 22 [.int .u64 acc]] true [.lp none 24 [(3, .loc 1 0), (5, .loc 2 0)] #[13, 14] VA VB .ready none, .flat 3 [.int .i64 w], .flat 22 [.int .u64 (Vs acc b)]] := by
 refine yo 3 rfl rfl (by simp) rfl rfl fun s0 hs0 => ?_
 refine zah ?_
 refine zaa 1 rfl ?_
 refine zab ?_
 refine zac ?_
 refine zaa 1 rfl ?_
 refine zab ?_
 refine ⟨rfl, ?_⟩
 simp only [zad, zaf]
 refine qf ?_
 refine zag ?_
 refine zah ?_
 refine zaa 1 rfl ?_
 refine za rfl (qq rfl tb3 (ev1 rfl) rfl rfl) ?_
 refine za rfl (qB rfl (ev1 rfl) (ev1 rfl)) ?_
 refine zab ?_
 refine qj rfl (by simp [h]) ?_
 refine qd ?_
 refine zac ?_
 refine za rfl (qq rfl kz (ev1 rfl) rfl rfl) ?_
 refine za rfl (H1 (8) rfl (ev1 rfl) (ev1 rfl) (fun _ => ⟨rfl, by decide⟩)) ?_
 refine zaa 1 rfl ?_
 refine za rfl (xE ty5 kn22 rfl (ev1 rfl)) ?_
 refine za rfl (H2 rfl (ev1 rfl) (ev1 rfl)) ?_
 refine qc rfl (qG rfl kz (ev1 rfl) (ev1 rfl) rfl) ?_
 refine zab ?_
 refine ⟨by first | rfl | assumption | simp_all, rfl, [0, 1, 2], rfl, ⟨rfl, rfl, rfl, trivial⟩⟩
theorem Ka (i w acc b : Int) (h : i = w) : DRound Try.prog 0 [.val (.int .i64 i), .val (.int .u8 b)] [.lp none 24 [(3, .loc 1 0), (5, .loc 2 0)] #[13, 14] VA VB .ready none, .flat 3 [.int .i64 w], .flat 22 [.int .u64 acc]] false [.lp none 24 [(3, .loc 1 0), (5, .loc 2 0)] #[13, 14] VA VB .done (some (.exit 0)), .flat 3 [.int .i64 w], .flat 22 [.int .u64 acc]] := by
 refine yo 3 rfl rfl (by simp) rfl rfl fun s0 hs0 => ?_
 refine zah ?_
 refine zaa 1 rfl ?_
 refine zab ?_
 refine zac ?_
 refine zaa 1 rfl ?_
 refine zab ?_
 refine ⟨rfl, ?_⟩
 simp only [zad, zaf]
 refine qf ?_
 refine zag ?_
 refine zah ?_
 refine zaa 1 rfl ?_
 refine za rfl (qq rfl tb3 (ev1 rfl) rfl rfl) ?_
 refine za rfl (qB rfl (ev1 rfl) (ev1 rfl)) ?_
 refine zab ?_
 refine qR rfl (by simp [h]) ?_
 refine qQ ?_
 refine ⟨by first | rfl | assumption | simp_all, rfl, [0, 1, 2], rfl, ⟨rfl, rfl, rfl, trivial⟩⟩
theorem Yy (T : TypeId) (l : List Int) (hL : l.length ≤ 9223372036854775807) (e : Int) (w : Nat) : DFun Try.prog 96 [.yld 0, .loc 3 0] [.lp none 24 [(3, .loc 1 0), (5, .loc 2 0)] #[13, 14] VA VB .ready none, .flat 3 [.int .i64 (w : Int)], .flat 22 [.int .u64 0], .mix 145 [.loc 4 0], .mix T [.slf 1 (l).length ((l).flatMap uc8), .val (.int .i64 e)]] (.tup []) [.lp none 24 [(3, .loc 1 0), (5, .loc 2 0)] #[13, 14] VA VB (rst (decide (l.length ≤ w))) (rpe (.exit 0) (decide (l.length ≤ w))), .flat 3 [.int .i64 (w : Int)], .flat 22 [.int .u64 (ky w l)], .mix 145 [.loc 4 0], .mix T [.slf 1 (l).length ((l).flatMap uc8), .val (.int .i64 e)]] := by
 refine zan (N := 21) 5 (by kernel_rfl) Try.func96 rfl rfl rfl (by simp only [fr0, qal, qam]; exact rfl) rfl fun s0 hs0 => ?_
 refine zah ?_
 refine za rfl (qb rfl tb145 (ev1 rfl) rfl rfl) ?_
 refine za rfl (qt rfl (ev1 rfl) (fun s v h => by cases h; exact ⟨_, rfl⟩)) ?_
 refine za rfl (qa rfl wm (ev1 rfl)) ?_
 refine za rfl (qb rfl kS (ev1 rfl) rfl rfl) ?_
 refine za rfl (qJ rfl qK (ev1 rfl)) ?_
 refine zaa 1 rfl ?_
 refine zab ?_
 refine qf ?_
 refine qY ⟨hs0, rfl⟩ (α := Nat) (fun k => [(10, .val (.int .i64 (k : Int)))]) [(0, _), (8, _), (9, _)] (fun k => [(2, .flat 22 [.int .u64 (ky k l)])]) [_, _, .hole, _, _] (fun k => k ≤ l.length ∧ k ≤ w) (fun k => l.length - k) 0 [0, 1, 2, 3, 4] (by simp) rfl ⟨rfl, rfl, rfl, trivial⟩ ⟨rfl, trivial⟩ ⟨rfl, rfl, rfl, rfl, rfl, trivial⟩ ?_
 intro k hx
 simp only [upd, zad, zaf, qas, qaw]
 obtain ⟨hk, hkw⟩ := hx
 refine zah ?_
 refine za rfl (qI rfl (ev1 rfl) (ev1 rfl)) ?_
 refine zab ?_
 refine zag ?_
 refine qv rfl (fun c1 => ?_) (fun c1 => ?_)
 ·try simp only [decide_eq_true_eq, decide_eq_false_iff_not, beq_iff_eq, bne_iff_ne, beq_eq_false_iff_ne, bne_eq_false_iff_eq, qau, qay, qan, qaA, qar, ne_eq, Decidable.not_not, qaO, qaP] at c1
  refine qd ?_
  refine zag ?_
  refine qf ?_
  refine zah ?_
  refine zaa 1 rfl ?_
  refine za rfl (qS (j := k) rfl qK (ev1 rfl) (ev1 rfl) (fun _ => rfl) (by decide) (by omega) (by omega)) ?_
  refine za rfl (qV rfl tb5 (ev1 rfl) rfl) ?_
  refine zaa 2 rfl ?_
  refine zab ?_
  refine zag ?_
  by_cases hw : k = w
  ·refine zac ?_
   refine zaa 3 rfl ?_
   refine zaj rfl (J0 (i := 0) [0, 1, 2] [] [] rfl (ev1 rfl) (ec (ev1 rfl) (ec (ev1 rfl) en)) rfl rfl rfl (Ka _ _ _ _ (by omega)) rfl rfl rfl rfl rfl) ?_
   refine za rfl (kX rfl (ev1 rfl)) ?_
   refine zab ?_
   refine qR rfl (rfl) ?_
   refine qe ?_
   have e1 : decide (l.length ≤ w) = false := decide_eq_false (by omega)
   subst hw
   rw [e1]
   refine kc [0, 1, 2, 3, 4] (qD rfl) rfl rfl ?_ ⟨rfl, rfl, rfl, rfl, rfl, trivial⟩
   rfl
  ·refine zac ?_
   refine zaa 3 rfl ?_
   refine zaj rfl (J0 (i := 0) [0, 1, 2] [] [] rfl (ev1 rfl) (ec (ev1 rfl) (ec (ev1 rfl) en)) rfl rfl rfl (Gp _ _ _ _ (by omega)) rfl rfl rfl rfl rfl) ?_
   refine za rfl (kX rfl (ev1 rfl)) ?_
   refine zab ?_
   refine qj rfl (rfl) ?_
   refine qd ?_
   refine zac ?_
   refine za rfl (qx rfl (ev1 rfl) (ev1 rfl) (fun _ => qat _ (by omega))) ?_
   refine zaa 1 rfl ?_
   refine zab ?_
   refine ⟨k + 1, [0, 1, 2, 3, 4], ⟨by omega, by omega⟩, by simp only []; omega, rfl, ⟨rfl, rfl, rfl, rfl, trivial⟩, ⟨rfl, rfl, by rw [Vt (by omega)]; rfl, rfl, rfl, trivial⟩⟩
 ·try simp only [decide_eq_true_eq, decide_eq_false_iff_not, beq_iff_eq, bne_iff_ne, beq_eq_false_iff_ne, bne_eq_false_iff_eq, qau, qay, qan, qaA, qar, ne_eq, Decidable.not_not, qaO, qaP] at c1
  refine qQ ?_
  have e1 : decide (l.length ≤ w) = true := decide_eq_true (by omega)
  have e2 : k = l.length := by omega
  rw [e1, W7 (show l.length ≤ w by omega), e2]
  refine kc [0, 1, 2, 3, 4] (qD rfl) rfl rfl ?_ ⟨rfl, rfl, rfl, rfl, rfl, trivial⟩
  rfl
theorem Zb (T : TypeId) (l : List Int) (hL : l.length ≤ 9223372036854775807) (e : Int) (w : Nat) (h : w ≤ l.length) : DFun Try.prog 76 [.loc 0 0, .val (.int .i64 (w : Int))] [.mix T [.slf 1 (l).length ((l).flatMap uc8), .val (.int .i64 e)]] (.val (.int .u64 (ky w l))) [.mix T [.slf 1 (l).length ((l).flatMap uc8), .val (.int .i64 e)]] := by
 refine zan (N := 24) 1 (by kernel_rfl) Try.func76 rfl rfl rfl (by simp only [fr0, qal, qam]; exact rfl) rfl fun s0 hs0 => ?_
 refine zag ?_
 refine zam 1 ?_
 refine zac ?_
 refine zaj rfl (vb 1 rfl (ev1 rfl) rfl) ?_
 refine zaa 1 rfl ?_
 refine zab ?_
 refine Ku ?_
 refine zah ?_
 refine zaa 1 rfl ?_
 refine za rfl (qq rfl tb3 (ev1 rfl) rfl rfl) ?_
 refine zaj rfl (zai [0] [] [] rfl (ev1 rfl) (ec (ev1 rfl) (ec (ev1 rfl) en)) rfl rfl (Vy _ _ _ w h) rfl rfl rfl rfl rfl rfl) ?_
 refine zab ?_
 refine zag ?_
 refine zam 1 ?_
 refine zac ?_
 refine zaj rfl (zao 2 rfl zr22 rfl) ?_
 refine qc rfl (qG rfl kz (ev1 rfl) (ev1 rfl) rfl) ?_
 refine zab ?_
 refine zag ?_
 refine uS ?_
 refine zag ?_
 refine zag ?_
 refine zam 1 ?_
 refine zac ?_
 refine zaa 1 rfl ?_
 refine zaj rfl (zai [0] [] [3] rfl (ev1 rfl) (ec (ev1 rfl) en) rfl rfl (Uh _ _ _) rfl rfl rfl rfl rfl rfl) ?_
 refine zab ?_
 refine qf ?_
 refine yu ?_
 simp only [qas, qaw]
 refine Yi (FL := [(3, _), (5, _)]) (st := (rst (decide (l.length ≤ w)))) (pe := (rpe (.exit 0) (decide (l.length ≤ w)))) [4, 1, 2, 3, 0] [] [] 4 rfl rfl (ev1 rfl) rfl (we ⟨rfl, rfl, trivial⟩) rfl rfl rfl (Yy _ l hL e w) rfl rfl rfl rfl rfl rfl rfl (WA _) (fun e => ?_) (fun c e => ?_)
 ·simp only [upd, zad, zaf]
  refine zah ?_
  refine za rfl (qq rfl kz (ev1 rfl) rfl rfl) ?_
  refine zaa 1 rfl ?_
  refine zab ?_
  refine qe ?_
  refine kc [0] (rs1 rfl (qO rfl)) rfl rfl ?_ ⟨rfl, trivial⟩
  rfl
 ·obtain ⟨e1, rfl⟩ : decide (l.length ≤ w) = false ∧ c = .exit 0 := by
   cases h : decide (l.length ≤ w) <;> simp_all [rpe]
  simp only [upd, zad, zaf]
  refine qQ ?_
  refine zah ?_
  refine za rfl (qq rfl kz (ev1 rfl) rfl rfl) ?_
  refine zaa 1 rfl ?_
  refine zab ?_
  refine qe ?_
  refine kc [0] (rs1 rfl (qO rfl)) rfl rfl ?_ ⟨rfl, trivial⟩
  rfl
theorem KI (T : TypeId) (l : List Int) (hL : l.length ≤ 9223372036854775807) (e : Int) (w : Nat) (h : w ≤ l.length) : DFun Try.prog 58 [.loc 0 0, .val (.int .i64 (w : Int))] [.mix T [.slf 1 (l).length ((l).flatMap uc8), .val (.int .i64 e)]] (.val (.int .u64 (ky w l))) [.mix T [.slf 1 (l.drop w).length ((l.drop w).flatMap uc8), .val (.int .i64 e)]] := by
 refine zan (N := 19) 1 (by kernel_rfl) Try.func58 rfl rfl rfl (by simp only [fr0, qal, qam]; exact rfl) rfl fun s0 hs0 => ?_
 refine zah ?_
 refine zaa 1 rfl ?_
 refine zab ?_
 refine zah ?_
 refine zaa 2 rfl ?_
 refine zaj rfl (zai [0] [] [] rfl (ev1 rfl) (ec (ev1 rfl) (ec (ev1 rfl) en)) rfl rfl (Zb _ _ hL _ w h) rfl rfl rfl rfl rfl rfl) ?_
 refine zaa 1 rfl ?_
 refine zab ?_
 refine zah ?_
 refine zaa 2 rfl ?_
 refine za rfl (qt rfl (ev1 rfl) (fun s v h => by cases h; exact ⟨_, rfl⟩)) ?_
 refine za rfl (qa rfl wm (ev1 rfl)) ?_
 refine za rfl (qb rfl kS (ev1 rfl) rfl rfl) ?_
 refine zaa 1 rfl ?_
 refine za rfl (gO (i := w) rfl qK (ev1 rfl) (ji (ev1 rfl)) (fun _ => by omega) (fun _ => by omega) (fun _ => rfl)) ?_
 refine za rfl (qt rfl (ev1 rfl) (fun s v h => by cases h; exact ⟨_, rfl⟩)) ?_
 refine za rfl (qa rfl wm (ev1 rfl)) ?_
 refine qc rfl (kF rfl kS (ev1 rfl) (ev1 rfl) (fun s v h => by cases h <;> exact ⟨rfl, rfl⟩) rfl (by first | decide | exact qaq rfl | simp)) ?_
 refine zab ?_
 refine zah ?_
 refine zaa 2 rfl ?_
 refine zab ?_
 refine qe ?_
 refine kc [0] (rs1 rfl (qO rfl)) rfl rfl ?_ ⟨rfl, trivial⟩
 rfl
theorem Ui (T : TypeId) (l : List Int) (e : Int) (w : Nat) (h : l.length < w) : DPan Try.prog 76 [.loc 0 0, .val (.int .i64 (w : Int))] [.mix T [.slf 1 (l).length ((l).flatMap uc8), .val (.int .i64 e)]] (.ifc 100 (.val (.agg #[.int .i64 110]))) [.mix T [.slf 1 (l).length ((l).flatMap uc8), .val (.int .i64 e)]] := by
 refine zan (N := 24) 1 (by kernel_rfl) Try.func76 rfl rfl rfl (by simp only [fr0, qal, qam]; exact rfl) rfl fun s0 hs0 => ?_
 refine zag ?_
 refine zam 1 ?_
 refine zac ?_
 refine zaj rfl (vb 1 rfl (ev1 rfl) rfl) ?_
 refine zaa 1 rfl ?_
 refine zab ?_
 refine Ku ?_
 refine zah ?_
 refine zaa 1 rfl ?_
 refine za rfl (qq rfl tb3 (ev1 rfl) rfl rfl) ?_
 refine ke rfl (qA [0] [] [] rfl (ev1 rfl) (ec (ev1 rfl) (ec (ev1 rfl) en)) rfl rfl (Vz _ _ _ w h) rfl rfl rfl rfl rfl rfl) rfl ?_
 refine K9 [0] rfl rfl ?_ ⟨rfl, trivial⟩
 rfl
theorem zH (T : TypeId) (l : List Int) (e : Int) (w : Nat) (h : l.length < w) : DPan Try.prog 58 [.loc 0 0, .val (.int .i64 (w : Int))] [.mix T [.slf 1 (l).length ((l).flatMap uc8), .val (.int .i64 e)]] (.ifc 100 (.val (.agg #[.int .i64 110]))) [.mix T [.slf 1 (l).length ((l).flatMap uc8), .val (.int .i64 e)]] := by
 refine zan (N := 19) 1 (by kernel_rfl) Try.func58 rfl rfl rfl (by simp only [fr0, qal, qam]; exact rfl) rfl fun s0 hs0 => ?_
 refine zah ?_
 refine zaa 1 rfl ?_
 refine zab ?_
 refine zah ?_
 refine zaa 2 rfl ?_
 refine ke rfl (qA [0] [] [] rfl (ev1 rfl) (ec (ev1 rfl) (ec (ev1 rfl) en)) rfl rfl (Ui _ _ _ w h) rfl rfl rfl rfl rfl rfl) rfl ?_
 refine K9 [0] rfl rfl ?_ ⟨rfl, trivial⟩
 rfl
end Go.Proofs.Ytofklkbfkoliiaa
namespace Go.Proofs.Ytofklkbfkoliiaa
set_option linter.unusedVariables false
set_option linter.unusedSimpArgs false
open Go.RowKit
theorem Yz (w h : Int) : DFun Try.prog 67 [.val (.agg #[.int .i64 w, .int .i64 h])] [] (.val (.bool (gB w h))) [] := by
 refine zan (N := 21) 0 (by kernel_rfl) Try.func67 rfl rfl rfl (by simp only [fr0, qal, qam]; exact rfl) rfl fun s0 hs0 => ?_
 refine zag ?_
 refine zam 1 ?_
 refine zac ?_
 refine zaj rfl (gn 0 rfl (ev1 rfl) rfl) ?_
 refine zaa 1 rfl ?_
 refine zab ?_
 refine zah ?_
 refine za rfl (qa rfl Jp (ev1 rfl)) ?_
 refine za rfl (qq rfl tb3 (ev1 rfl) rfl rfl) ?_
 refine za rfl (gi rfl (ev1 rfl) (ev1 rfl)) ?_
 refine zaa 1 rfl ?_
 refine zak (qC rfl rfl rfl) rfl rfl rfl (qa rfl Jp (ev1 rfl)) ?_
 refine zak (qC rfl rfl rfl) rfl rfl rfl (qq rfl tb3 (ev2 rfl) rfl rfl) ?_
 refine zak (qC rfl rfl rfl) rfl rfl rfl (yK rfl (ev2 rfl) (ev1 rfl)) ?_
 refine za rfl (q9 rfl (ev1 rfl) (ev3 rfl id)) ?_
 refine zaa 1 rfl ?_
 refine zak (qC rfl rfl rfl) rfl rfl rfl (qa rfl Jq (ev1 rfl)) ?_
 refine zak (qC rfl rfl rfl) rfl rfl rfl (qq rfl tb3 (ev2 rfl) rfl rfl) ?_
 refine zak (qC rfl rfl rfl) rfl rfl rfl (gi rfl (ev2 rfl) (ev1 rfl)) ?_
 refine za rfl (q9 rfl (ev1 rfl) (ev3 rfl id)) ?_
 refine zaa 1 rfl ?_
 refine zak (qC rfl rfl rfl) rfl rfl rfl (qa rfl Jq (ev1 rfl)) ?_
 refine zak (qC rfl rfl rfl) rfl rfl rfl (qq rfl tb3 (ev2 rfl) rfl rfl) ?_
 refine zak (qC rfl rfl rfl) rfl rfl rfl (yK rfl (ev2 rfl) (ev1 rfl)) ?_
 refine za rfl (q9 rfl (ev1 rfl) (ev3 rfl id)) ?_
 refine zaa 1 rfl ?_
 refine zab ?_
 refine qe ?_
 refine qH (rs1 rfl (qO rfl)) rfl ?_
 unfold gB
 simp [Bool.and_assoc]
end Go.Proofs.Ytofklkbfkoliiaa
namespace Go.Proofs.Ytofklkbfkoliiaa
set_option linter.unusedVariables false
set_option linter.unusedSimpArgs false
open Go.RowKit
theorem Gq (w h : Int) (ts : List TL) : DFun Try.prog 46 [shD w h ts] [] (.val (.int .i64 (vV (jb w h ts) 150))) [] := by
 refine zan (N := 23) 0 (by kernel_rfl) Try.func46 rfl rfl rfl (by simp only [fr0, qal, qam]; exact rfl) rfl fun s0 hs0 => ?_
 refine zag ?_
 refine zam 1 ?_
 refine zac ?_
 refine zaj rfl (qz 0 rfl (ev1 rfl) rfl) ?_
 refine zaa 1 rfl ?_
 refine zab ?_
 refine zag ?_
 refine zag ?_
 refine zam 1 ?_
 refine zac ?_
 refine za rfl (qa rfl yM (ev1 rfl)) ?_
 refine za rfl (qb rfl tb3 (ev1 rfl) rfl rfl) ?_
 refine za rfl (qa rfl yN (ev1 rfl)) ?_
 refine za rfl (qb rfl tb3 (ev1 rfl) rfl rfl) ?_
 refine za rfl (kW (ps := [(0, .tmp 5), (1, .tmp 7)]) rfl W9 KH (vc (ev1 rfl) (vc (ev1 rfl) vn)) rfl rfl) ?_
 refine zaj rfl (zao 1 rfl KH rfl) ?_
 refine qc rfl (q0 rfl zF (ev1 rfl) (ev1 rfl) rfl rfl rfl rfl) ?_
 refine zab ?_
 refine zah ?_
 refine za rfl (kG rfl zF (ev1 rfl) rfl rfl) ?_
 refine za rfl (zai [] [] [] rfl (ev1 rfl) (ec (ev1 rfl) en) rfl rfl (Yz _ _) rfl rfl rfl rfl rfl rfl) ?_
 refine za rfl (kX rfl (ev1 rfl)) ?_
 refine zaa 1 rfl ?_
 refine zak (qm rfl rfl rfl) rfl rfl rfl (qa rfl gY (ev1 rfl)) ?_
 refine zak (qm rfl rfl rfl) rfl rfl rfl (qb rfl xw (ev2 rfl) rfl rfl) ?_
 refine zak (qm rfl rfl rfl) rfl rfl rfl (qJ rfl wU (ev2 rfl)) ?_
 refine zak (qm rfl rfl rfl) rfl rfl rfl (qa rfl Jp (ev1 rfl)) ?_
 refine zak (qm rfl rfl rfl) rfl rfl rfl (qq rfl tb3 (ev2 rfl) rfl rfl) ?_
 refine zak (qm rfl rfl rfl) rfl rfl rfl (qa rfl Jq (ev1 rfl)) ?_
 refine zak (qm rfl rfl rfl) rfl rfl rfl (qq rfl tb3 (ev2 rfl) rfl rfl) ?_
 refine zak (qm rfl rfl rfl) rfl rfl rfl (Wg rfl (ev2 rfl) (ev2 rfl)) ?_
 refine zak (qm rfl rfl rfl) rfl rfl rfl (ki rfl (ev2 rfl) (ev2 rfl)) ?_
 refine za rfl (kC rfl (ev1 rfl) (ev3 rfl id)) ?_
 refine zab ?_
 refine qv rfl (fun c1 => ?_) (fun c1 => ?_)
 ·have hr : jb w h ts = false := by
   cases hm : gB w h with
   | false => unfold jb; rw [hm]; rfl
   | true =>
    have hb := vW hm
    rw [hm, qat _ (by omega)] at c1
    simp at c1
    unfold jb
    rw [decide_eq_false (by omega)]
    exact Bool.and_false _
  refine zah ?_
  refine zaa 1 rfl ?_
  refine zab ?_
  refine qe ?_
  refine qH (rs1 rfl (qO rfl)) rfl ?_
  rw [hr]
  rfl
 ·have hr : jb w h ts = true := by
   cases hm : gB w h with
   | false => rw [hm] at c1; simp at c1
   | true =>
    have hb := vW hm
    rw [hm, qat _ (by omega)] at c1
    simp at c1
    unfold jb
    rw [hm, decide_eq_true (by omega)]
    rfl
  refine qd ?_
  refine zah ?_
  refine zaa 1 rfl ?_
  refine zab ?_
  refine qe ?_
  refine qH (rs1 rfl (qO rfl)) rfl ?_
  rw [hr]
  rfl
theorem As (w h w2 h2 : Int) (ts us : List TL) (hn : ts.length ≤ 5000) : DFun Try.prog 39 [shD w h ts, shD w2 h2 us] [] (.val (.bool (decide (w = w2 ∧ h = h2 ∧ ts = us)))) [] := by
 refine zan (N := 44) 0 (by kernel_rfl) Try.func39 rfl rfl rfl (by simp only [fr0, qal, qam]; exact rfl) rfl fun s0 hs0 => ?_
 refine zag ?_
 refine zam 2 ?_
 refine zac ?_
 refine zaj rfl (qz 0 rfl (ev1 rfl) rfl) ?_
 refine zaj rfl (qz 1 rfl (ev1 rfl) rfl) ?_
 refine zaa 1 rfl ?_
 refine zab ?_
 refine zag ?_
 refine zah ?_
 refine za rfl (qa rfl yM (ev1 rfl)) ?_
 refine za rfl (qb rfl tb3 (ev1 rfl) rfl rfl) ?_
 refine za rfl (qa rfl yM (ev1 rfl)) ?_
 refine za rfl (qb rfl tb3 (ev1 rfl) rfl rfl) ?_
 refine za rfl (ki rfl (ev1 rfl) (ev1 rfl)) ?_
 refine zaa 1 rfl ?_
 refine zak (qm rfl rfl rfl) rfl rfl rfl (qa rfl yN (ev1 rfl)) ?_
 refine zak (qm rfl rfl rfl) rfl rfl rfl (qb rfl tb3 (ev2 rfl) rfl rfl) ?_
 refine zak (qm rfl rfl rfl) rfl rfl rfl (qa rfl yN (ev1 rfl)) ?_
 refine zak (qm rfl rfl rfl) rfl rfl rfl (qb rfl tb3 (ev2 rfl) rfl rfl) ?_
 refine zak (qm rfl rfl rfl) rfl rfl rfl (ki rfl (ev2 rfl) (ev2 rfl)) ?_
 refine za rfl (kC rfl (ev1 rfl) (ev3 rfl id)) ?_
 refine zaa 1 rfl ?_
 refine zak (qm rfl rfl rfl) rfl rfl rfl (qa rfl gY (ev1 rfl)) ?_
 refine zak (qm rfl rfl rfl) rfl rfl rfl (qb rfl xw (ev2 rfl) rfl rfl) ?_
 refine zak (qm rfl rfl rfl) rfl rfl rfl (qJ rfl wU (ev2 rfl)) ?_
 refine zak (qm rfl rfl rfl) rfl rfl rfl (qa rfl gY (ev1 rfl)) ?_
 refine zak (qm rfl rfl rfl) rfl rfl rfl (qb rfl xw (ev2 rfl) rfl rfl) ?_
 refine zak (qm rfl rfl rfl) rfl rfl rfl (qJ rfl wU (ev2 rfl)) ?_
 refine zak (qm rfl rfl rfl) rfl rfl rfl (ki rfl (ev2 rfl) (ev2 rfl)) ?_
 refine za rfl (kC rfl (ev1 rfl) (ev3 rfl id)) ?_
 refine zab ?_
 refine qv rfl (fun c1 => ?_) (fun c1 => ?_)
 ·have hne : ¬ (w = w2 ∧ h = h2 ∧ ts = us) := by
   rintro ⟨rfl, rfl, rfl⟩
   simp at c1
  refine zah ?_
  refine zaa 1 rfl ?_
  refine zab ?_
  refine qe ?_
  refine qH (rs1 rfl (qO rfl)) rfl ?_
  rw [decide_eq_false hne]
 ·obtain ⟨rfl, rfl, hlen⟩ : w = w2 ∧ h = h2 ∧ ts.length = us.length := by
   simp at c1
   omega
  refine qd ?_
  refine zag ?_
  refine zah ?_
  refine za rfl (qa rfl gY (ev1 rfl)) ?_
  refine za rfl (qb rfl xw (ev1 rfl) rfl rfl) ?_
  refine za rfl (qJ rfl wU (ev1 rfl)) ?_
  refine zaa 1 rfl ?_
  refine zab ?_
  refine qf ?_
  refine qY ⟨hs0, rfl⟩ (α := Nat) (fun k => [(31, .val (.int .i64 (k : Int)))]) [(3, _), (29, _), (30, _)] (fun k => []) [_, _] (fun k => k ≤ ts.length ∧ ts.take k = us.take k) (fun k => ts.length - k) 0 [0, 1] (by simp) rfl ⟨rfl, rfl, rfl, trivial⟩ ⟨rfl, trivial⟩ ⟨rfl, rfl, trivial⟩ ?_
  intro k hx
  simp only [upd, zad, zaf, qas, qaw]
  obtain ⟨hk, he⟩ := hx
  refine zah ?_
  refine za rfl (qI rfl (ev1 rfl) (ev1 rfl)) ?_
  refine zab ?_
  refine zag ?_
  refine qv rfl (fun c2 => ?_) (fun c2 => ?_)
  ·try simp only [decide_eq_true_eq, decide_eq_false_iff_not, beq_iff_eq, bne_iff_ne, beq_eq_false_iff_ne, bne_eq_false_iff_eq, qau, qay, qan, qaA, qar, ne_eq, Decidable.not_not, qaO, qaP] at c2
   refine qd ?_
   refine zag ?_
   refine qf ?_
   refine zag ?_
   refine zam 1 ?_
   refine zac ?_
   refine zaa 1 rfl ?_
   refine za rfl (qS (j := k) rfl wU (ev1 rfl) (ev1 rfl) qw (by decide) (by omega) (by omega)) ?_
   refine za rfl (xF rfl kv (ev1 rfl) (qw _)) ?_
   refine zaj rfl (zao 2 rfl jZ rfl) ?_
   refine zaa 1 rfl ?_
   refine qc rfl (q0 rfl kv (ev1 rfl) (ev1 rfl) rfl (qw _) (ya _) ((qw _).trans (qw _).symm)) ?_
   refine zab ?_
   refine zag ?_
   refine qk [([2], []), ([], []), ([1], []), ([], []), ([], []), ([], []), ([], [])] qW (by kernel_rfl) ?_
   refine zae rfl rfl (kG rfl kv (ev1 rfl) rfl (qw _)) ?_
   refine zae rfl rfl (qa rfl gY (ev1 rfl)) ?_
   refine zae rfl rfl (qb rfl xw (ev1 rfl) rfl rfl) ?_
   refine zae rfl rfl (zal (.inl rfl) (ev1 rfl)) ?_
   refine zae rfl rfl (qS (j := k) rfl wU (ev1 rfl) (ev1 rfl) qw (by decide) (by omega) (by omega)) ?_
   refine zae rfl rfl (xF rfl kv (ev1 rfl) (qw _)) ?_
   refine zae rfl rfl (HU Qx rfl QB kv (ev1 rfl) (ev1 rfl)) ?_
   refine qu ?_
   refine qv rfl (fun c2 => ?_) (fun c2 => ?_)
   ·have c3 : ts[k] ≠ us[k] := by simpa using c2
    refine zah ?_
    refine zaa 1 rfl ?_
    refine zab ?_
    refine qe ?_
    refine qH (rs1 rfl (qO rfl)) rfl ?_
    have hne : ¬ (w = w ∧ h = h ∧ ts = us) := by
     rintro ⟨_, _, rfl⟩
     exact c3 rfl
    have hne : ts ≠ us := fun e => hne ⟨rfl, rfl, e⟩
    simp [hne]
   ·have c3 : ts[k] = us[k] := by simpa using c2
    refine qd ?_
    refine zac ?_
    refine za rfl (qx rfl (ev1 rfl) (ev1 rfl) (fun _ => qat _ (by omega))) ?_
    refine zaa 1 rfl ?_
    refine zab ?_
    refine ⟨k + 1, [0, 1], ⟨by omega, by rw [qaU (by omega), qaU (by omega), he, c3]⟩, by simp only []; omega, rfl, ⟨rfl, rfl, rfl, rfl, trivial⟩, ⟨rfl, rfl, trivial⟩⟩
  ·try simp only [decide_eq_true_eq, decide_eq_false_iff_not, beq_iff_eq, bne_iff_ne, beq_eq_false_iff_ne, bne_eq_false_iff_eq, qau, qay, qan, qaA, qar, ne_eq, Decidable.not_not, qaO, qaP] at c2
   refine qQ ?_
   refine zah ?_
   refine zaa 1 rfl ?_
   refine zab ?_
   refine qe ?_
   refine qH (rs1 rfl (qO rfl)) rfl ?_
   have e : ts = us := by
    have h := he
    rw [qaK (by omega), qaK (by omega)] at h
    exact h
   simp [e]
end Go.Proofs.Ytofklkbfkoliiaa
namespace Go.Proofs.Ytofklkbfkoliiaa
set_option linter.unusedVariables false
set_option linter.unusedSimpArgs false
open Go.RowKit
theorem Hn (t : TL) : ([Value.agg (tc t).toArray].all fun v => v.cells.size == 256) = true := by
 show ((tc t).toArray.size == 256 && true) = true
 rw [List.size_toArray, qw]; rfl
theorem Ho (t : TL) : ([Value.agg (tc t).toArray].flatMap fun v => v.cells.toList) = tc t := by rw [qaD]; exact qa6 _
theorem Uj (t : TL) : ([Value.agg (tc t).toArray].flatMap fun v => v.cells.toList).all (·.oneCell') = true := by rw [Ho]; exact ya t
theorem new_d (c : C4) : DFun Try.prog 93 [.val (.agg (c4 c).toArray)] [] (tD (nT c)) [] := by
 refine zan (N := 13) 0 (by kernel_rfl) Try.func93 rfl rfl rfl (by simp only [fr0, qal, qam]; exact rfl) rfl fun s0 hs0 => ?_
 refine zag ?_
 refine zam 2 ?_
 refine zac ?_
 refine zaj rfl (gn 0 rfl (ev1 rfl) rfl) ?_
 refine zaj rfl (zao 1 rfl jZ rfl) ?_
 refine zab ?_
 refine zag ?_
 refine zam 1 ?_
 refine zac ?_
 refine zaj rfl (zao 2 rfl jZ rfl) ?_
 refine zab ?_
 refine zag ?_
 refine zah ?_
 refine zaa 1 rfl ?_
 refine zab ?_
 refine qf ?_
 refine qY ⟨hs0, rfl⟩ (α := Nat) (fun k => [(5, .val (.int .i64 (k : Int)))]) [(1, _), (2, _), (3, _)] (fun k => [(2, .flat 132 (tc (zD c k)))]) [_, _, .hole] (fun k => k ≤ 64) (fun k => 64 - k) 0 [0, 1, 2] (by simp) rfl ⟨rfl, rfl, rfl, trivial⟩ ⟨rfl, trivial⟩ ⟨rfl, rfl, rfl, trivial⟩ ?_
 intro k hx
 simp only [upd, zad, zaf, qas, qaw]
 have hk := hx
 refine zah ?_
 refine za rfl (qI rfl (ev1 rfl) (ev1 rfl)) ?_
 refine zab ?_
 refine zag ?_
 refine qv rfl (fun c1 => ?_) (fun c1 => ?_)
 ·try simp only [decide_eq_true_eq, decide_eq_false_iff_not, beq_iff_eq, bne_iff_ne, beq_eq_false_iff_ne, bne_eq_false_iff_eq, qau, qay, qan, qaA, qar, ne_eq, Decidable.not_not, qaO, qaP] at c1
  refine qd ?_
  refine zag ?_
  refine qf ?_
  refine zah ?_
  refine zaa 2 rfl ?_
  refine zab ?_
  refine zac ?_
  refine zaa 1 rfl ?_
  refine za rfl (kG rfl gv (ev1 rfl) rfl rfl) ?_
  refine za rfl (ye (j := k) rfl wC (ev1 rfl) (ev1 rfl) (fun _ => by omega) (fun _ => by omega)) ?_
  refine qc rfl (xJ (q := c) rfl gv (ev1 rfl) (ev1 rfl) rfl rfl rfl (fun _ => rfl) (fun _ => by rw [TL.h]; omega)) ?_
  refine zab ?_
  refine zac ?_
  refine za rfl (qx rfl (ev1 rfl) (ev1 rfl) (fun _ => qat _ (by omega))) ?_
  refine zaa 1 rfl ?_
  refine zab ?_
  refine ⟨k + 1, [0, 1, 2], by omega, by simp only []; omega, rfl, ⟨rfl, rfl, rfl, rfl, trivial⟩, ⟨rfl, rfl, by rw [Vp]; rfl, trivial⟩⟩
 ·try simp only [decide_eq_true_eq, decide_eq_false_iff_not, beq_iff_eq, bne_iff_ne, beq_eq_false_iff_ne, bne_eq_false_iff_eq, qau, qay, qan, qaA, qar, ne_eq, Decidable.not_not, qaO, qaP] at c1
  refine qQ ?_
  refine zah ?_
  refine za rfl (kG rfl kv (ev1 rfl) rfl (qw _)) ?_
  refine qc rfl (q0 rfl kv (ev1 rfl) (ev1 rfl) rfl (qw _) (ya _) ((qw _).trans (qw _).symm)) ?_
  refine zab ?_
  refine qe ?_
  refine qH (rs1 rfl (vf kv rfl rfl (qw _))) rfl ?_
  rw [show k = 64 by omega, W3]
def yZ (A : List Nat) (ts : List TL) : List D := (A.zip ts).map fun p => .pin p.1 (tc p.2)
theorem KJ {A : List Nat} {ts : List TL} (h : A.length = ts.length) : (yZ A ts).length = ts.length := by simp [yZ, h]
theorem Gr {A : List Nat} {ts : List TL} {q : Nat} {d : D} (hd : (yZ A ts)[q]? = some d) : ∃ b t, A[q]? = some b ∧ ts[q]? = some t ∧ d = .pin b (tc t) := by
 unfold yZ at hd
 rw [qa5] at hd
 cases e : (A.zip ts)[q]? with
 | none => rw [e] at hd; cases hd
 | some p =>
  rw [e] at hd
  obtain ⟨h1, h2⟩ := List.getElem?_zip_eq_some.1 e
  cases hd
  exact ⟨p.1, p.2, h1, h2, rfl⟩
theorem Zc {l : List D} (h : ∀ d ∈ l, d.nl = true) : D.nlL l = true := by
 induction l with
 | nil => rfl
 | cons d l ih => rw [D.nlL, h d (by simp), ih fun e he => h e (by simp [he])]; rfl
theorem zI {A : List Nat} {ts : List TL} (h : A.length = ts.length) : RowOk (yZ A ts) ts := by
 have hm : ∀ d ∈ yZ A ts, ∃ b t, d = .pin b (tc t) := fun d hd => by
  obtain ⟨q, hq⟩ := List.getElem?_of_mem hd
  obtain ⟨b, t, _, _, e⟩ := Gr hq
  exact ⟨b, t, e⟩
 refine ⟨KJ h, Zc fun d hd => ?_, qaM.2 fun d hd => ?_, fun q d t h1 h2 => ?_⟩
 ·obtain ⟨b, t, rfl⟩ := hm d hd; rfl
 ·obtain ⟨b, t, rfl⟩ := hm d hd; rfl
 ·obtain ⟨b, u, h3, h4, rfl⟩ := Gr h1
  rw [h2] at h4
  cases h4
  exact Wk.pin _ _
theorem VC {A : List Nat} {ts : List TL} (h : A.length = ts.length) (b : Nat) (t : TL) : yZ (A ++ [b]) (ts ++ [t]) = yZ A ts ++ [.pin b (tc t)] := by
 unfold yZ
 rw [List.zip_append h, List.map_append]
 rfl
theorem KK (A : List Nat) (b : Nat) (t : TL) : yZ A (qax A.length t) ++ List.flatMap D.cs [.pin b (tc t)] = yZ (A ++ [b]) (qax (A ++ [b]).length t) := by
 rw [qap, show A.length + [b].length = A.length + 1 from rfl, List.replicate_succ', VC (by simp)]
 rfl
def NewCv (I : Nat → Prop) (w h : Int) (ts : List TL) (d : D) : Prop := ∃ A : List Nat, A.length = ts.length ∧ (∀ b ∈ A, ¬ I b) ∧ d = cvD w h (yZ A ts)
def Okd (Q : D → Prop) (d : D) : Prop := ∃ e, Q e ∧ d = .tup [e, .val (.int .i64 0)]
theorem At (w h : Int) (hm : gB w h = false) : DFun Try.prog 84 [.val (.int .i64 w), .val (.int .i64 h)] [] (.tup [.val (.pointer none), .val (.int .i64 2)]) [] := by
 refine zan (N := 36) 0 (by kernel_rfl) Try.func84 rfl rfl rfl (by simp only [fr0, qal, qam]; exact rfl) rfl fun s0 hs0 => ?_
 refine zah ?_
 refine zaa 2 rfl ?_
 refine zab ?_
 refine zag ?_
 refine zam 1 ?_
 refine zac ?_
 refine zaa 2 rfl ?_
 refine za rfl (kW (ps := [(0, .tmp 9), (1, .tmp 10)]) rfl W9 KH (vc (ev1 rfl) (vc (ev1 rfl) vn)) rfl rfl) ?_
 refine zaj rfl (zao 0 rfl KH rfl) ?_
 refine qc rfl (q0 rfl zF (ev1 rfl) (ev1 rfl) rfl rfl rfl rfl) ?_
 refine zab ?_
 refine zag ?_
 refine zah ?_
 refine za rfl (kG rfl zF (ev1 rfl) rfl rfl) ?_
 refine za rfl (zai [] [] [] rfl (ev1 rfl) (ec (ev1 rfl) en) rfl rfl (Yz _ _) rfl rfl rfl rfl rfl rfl) ?_
 refine za rfl (kX rfl (ev1 rfl)) ?_
 refine zab ?_
 refine qR rfl (by rw [hm]; rfl) ?_
 refine zah ?_
 refine zaa 2 rfl ?_
 refine zab ?_
 refine qe ?_
 refine qH (rs2 rfl (qO rfl) (qO rfl)) rfl ?_
 rfl
theorem Au (w h : Int) (n : Nat) (hm : gB w h = true) (hn : w * h = (n : Int)) : DFunI Try.prog 84 [.val (.int .i64 w), .val (.int .i64 h)] [] (fun I => Okd (NewCv I w h (qax n (nT zC4)))) [] := by
 have hb := vW hm
 refine Yq (N := 36) 0 (by kernel_rfl) Try.func84 rfl rfl rfl (by simp only [fr0, qal, qam]; exact rfl) rfl fun s0 hs0 => ?_
 refine zah ?_
 refine zaa 2 rfl ?_
 refine zab ?_
 refine zag ?_
 refine zam 1 ?_
 refine zac ?_
 refine zaa 2 rfl ?_
 refine za rfl (kW (ps := [(0, .tmp 9), (1, .tmp 10)]) rfl W9 KH (vc (ev1 rfl) (vc (ev1 rfl) vn)) rfl rfl) ?_
 refine zaj rfl (zao 0 rfl KH rfl) ?_
 refine qc rfl (q0 rfl zF (ev1 rfl) (ev1 rfl) rfl rfl rfl rfl) ?_
 refine zab ?_
 refine zag ?_
 refine zah ?_
 refine za rfl (kG rfl zF (ev1 rfl) rfl rfl) ?_
 refine za rfl (zai [] [] [] rfl (ev1 rfl) (ec (ev1 rfl) en) rfl rfl (Yz _ _) rfl rfl rfl rfl rfl rfl) ?_
 refine za rfl (kX rfl (ev1 rfl)) ?_
 refine zab ?_
 refine qj rfl (by rw [hm]; rfl) ?_
 refine qd ?_
 refine zag ?_
 refine zam 1 ?_
 refine zac ?_
 refine za rfl (kG rfl zF (ev1 rfl) rfl rfl) ?_
 refine za rfl (kW (ps := [(0, .tmp 15)]) rfl fl179 zr179 (vc (ev1 rfl) vn) rfl rfl) ?_
 refine zaj rfl (gn 1 rfl (ev1 rfl) rfl) ?_
 refine zaa 1 rfl ?_
 refine zab ?_
 refine zag ?_
 refine zag ?_
 refine kQ 1 yf rfl rfl (by simp only [qas, qaw, zad, zaf, List.map]; exact rfl) ?_
 refine vj (l' := [.val (.int .i64 w), .val (.int .i64 h), .arr 2]) 1 2 164 1 rfl rfl rfl rfl (by simp only [qas, qaw, zad, zaf]; exact rfl) ?_
 refine zac ?_
 refine zaa 2 rfl ?_
 refine za rfl (yc rfl (ev1 rfl) (ev1 rfl) (fun _ => qat _ (by omega))) ?_
 refine zaa 1 rfl ?_
 refine zab ?_
 refine qf ?_
 refine qY ⟨hs0, rfl⟩ (α := List Nat) (fun A => [(21, .val (.int .i64 (A.length : Int)))]) [(7, _), (20, _)] (fun A => [(2, .arx 164 1 A.length (yZ A (qax A.length (nT zC4))))]) [_, _, .hole] (fun A => A.length ≤ n ∧ ∀ b ∈ A, ¬ s0.I b) (fun A => n - A.length) [] [0, 1, 2] (⟨qaZ _, fun b hb => by simp at hb⟩) rfl ⟨rfl, rfl, trivial⟩ ⟨rfl, trivial⟩ ⟨rfl, rfl, rfl, trivial⟩ ?_
 intro A hx
 simp only [upd, zad, zaf, qas, qaw]
 obtain ⟨hA, hAI⟩ := hx
 refine zah ?_
 refine za rfl (qI rfl (ev1 rfl) (ev1 rfl)) ?_
 refine zab ?_
 refine zag ?_
 refine qv rfl (fun c2 => ?_) (fun c2 => ?_)
 ·try simp only [decide_eq_true_eq, decide_eq_false_iff_not, beq_iff_eq, bne_iff_ne, beq_eq_false_iff_ne, bne_eq_false_iff_eq, qau, qay, qan, qaA, qar, ne_eq, Decidable.not_not, qaO, qaP] at c2
  refine qd ?_
  refine zag ?_
  refine qf ?_
  refine zag ?_
  refine zam 1 ?_
  refine zac ?_
  refine za rfl (jG rfl Gj Gm) ?_
  refine za rfl (zai [] [] [] rfl (ev1 rfl) (ec (ev1 rfl) en) rfl rfl (new_d zC4) rfl rfl rfl rfl rfl rfl) ?_
  refine zaj rfl (zao 3 rfl jZ rfl) ?_
  refine qc rfl (q0 rfl kv (ev1 rfl) (ev1 rfl) rfl (qw _) (ya _) ((qw _).trans (qw _).symm)) ?_
  refine zab ?_
  refine X0 8 rfl rfl (by simp only [zad, zaf]; exact rfl) fun b hb => ?_
  refine zam 1 ?_
  refine zac ?_
  refine zaa 2 rfl ?_
  refine za rfl (qt rfl (ev1 rfl) (fun s v h => by cases h; exact ⟨_, rfl⟩)) ?_
  refine za rfl (qa rfl Qz (ev1 rfl)) ?_
  refine za rfl (qb rfl Hk (ev1 rfl) rfl rfl) ?_
  refine za rfl (Yo (ps := [(0, .tmp 8)]) rfl He Hm rfl (ec (ev1 rfl) en) rfl rfl rfl (by rfl) rfl (by decide) (by decide)) ?_
  refine zaj rfl (Qj (j := 4) rfl He Hm rfl (ev1 rfl) (ev1 rfl) rfl rfl (rfl) (fun _ => ⟨by omega, by omega⟩)) ?_
  refine za rfl (qt rfl (ev1 rfl) (fun s v h => by cases h; exact ⟨_, rfl⟩)) ?_
  refine za rfl (qa rfl Qz (ev1 rfl)) ?_
  refine qc rfl (kF rfl Hk (ev1 rfl) (ev1 rfl) (fun s v h => by cases h <;> exact ⟨rfl, rfl⟩) rfl (by first | decide | exact qaq rfl | simp)) ?_
  refine zab ?_
  refine zac ?_
  refine za rfl (qx rfl (ev1 rfl) (ev1 rfl) (fun _ => qat _ (by omega))) ?_
  refine zaa 1 rfl ?_
  refine zab ?_
  refine ⟨A ++ [b], [0, 1, 4], ⟨by simp; omega, fun c hc => by
  rcases List.mem_append.1 hc with hc | hc
  ·exact hAI c hc
  ·simp at hc; subst hc; exact hb⟩, by simp; omega, rfl, ⟨by rw [qap]; rfl, rfl, rfl, trivial⟩, ⟨rfl, rfl, Vo (by rw [KK]; exact (zI (by simp)).nl) (by simp) (KK _ _ _), trivial⟩⟩
 ·try simp only [decide_eq_true_eq, decide_eq_false_iff_not, beq_iff_eq, bne_iff_ne, beq_eq_false_iff_ne, bne_eq_false_iff_eq, qau, qay, qan, qaA, qar, ne_eq, Decidable.not_not, qaO, qaP] at c2
  refine qQ ?_
  refine zah ?_
  refine zaa 3 rfl ?_
  refine zab ?_
  refine Kz 1 2 ((zI (by simp)).nl) rfl rfl rfl (by simp only [zad, zaf]; exact rfl) ?_
  refine qe ?_
  refine kendI (post := fun I => Okd (NewCv I w h (qax n (nT zC4)))) (I := s0.I) (Mo := []) [] (rs2 rfl (qO rfl) (qO rfl)) rfl rfl ?_ trivial
  obtain rfl : A.length = n := by omega
  exact ⟨_, ⟨A, by simp, hAI, rfl⟩, by rw [cvD, KJ (by simp), qaG]; rfl⟩
end Go.Proofs.Ytofklkbfkoliiaa
namespace Go.Proofs.Ytofklkbfkoliiaa
set_option linter.unusedVariables false
set_option linter.unusedSimpArgs false
inductive Tk (α : Type) where
 | ok (a : α) (r : List Int)
 | err (e : Int)
def Tk.bind {α β : Type} (t : Tk α) (f : α → List Int → Tk β) : Tk β := match t with
 | .ok a r => f a r
 | .err e => .err e
abbrev Tkr (α : Type) := List Int → Tk α
def isB (l : List Int) : Prop := ∀ x ∈ l, 0 ≤ x ∧ x ≤ 255
theorem isB_app {a b : List Int} : isB (a ++ b) ↔ isB a ∧ isB b := by
 unfold isB
 constructor
 ·intro h
  exact ⟨fun x hx => h x (List.mem_append_left _ hx), fun x hx => h x (List.mem_append_right _ hx)⟩
 ·rintro ⟨h1, h2⟩ x hx
  rcases List.mem_append.1 hx with h | h
  ·exact h1 x h
  ·exact h2 x h
structure Cd {α : Type} (S : Int) (ok : α → Prop) (lay : α → List Int) (tk : Tkr α) : Prop where
 fwd : ∀ a r, ok a → tk (lay a ++ r) = .ok a r
 bwd : ∀ b a r, isB b → tk b = .ok a r → b = lay a ++ r ∧ ok a
 sh : ∀ a k, ok a → k < (lay a).length → tk ((lay a).take k) = .err S
section
variable {α β : Type} {S : Int} {ok : α → Prop} {lay : α → List Int} {tk : Tkr α} {ok2 : β → Prop} {lay2 : β → List Int} {tk2 : Tkr β}
theorem Cd.seq (c : Cd S ok lay tk) (d : Cd S ok2 lay2 tk2) : Cd S (fun p : α × β => ok p.1 ∧ ok2 p.2) (fun p => lay p.1 ++ lay2 p.2) (fun b => (tk b).bind fun a r => (tk2 r).bind fun x r => .ok (a, x) r) where
 fwd p r h := by
  rw [qaQ, c.fwd _ _ h.1]
  show (tk2 _).bind _ = _
  rw [d.fwd _ _ h.2]
  rfl
 bwd b p r hb h := by
  cases h1 : tk b with
  | err e => rw [h1] at h; cases h
  | ok a r1 =>
   rw [h1] at h
   have h : (tk2 r1).bind (fun x r => Tk.ok (a, x) r) = .ok p r := h
   obtain ⟨e1, k1⟩ := c.bwd b a r1 hb h1
   cases h2 : tk2 r1 with
   | err e => rw [h2] at h; cases h
   | ok x r2 =>
    rw [h2] at h
    cases h
    obtain ⟨e2, k2⟩ := d.bwd r1 x r (by rw [e1] at hb; exact (isB_app.1 hb).2) h2
    exact ⟨by rw [e1, e2, qaQ], k1, k2⟩
 sh p k h hk := by
  by_cases h1 : k < (lay p.1).length
  ·rw [List.take_append_of_le_length (by omega), c.sh _ _ h.1 h1]
   rfl
  ·rw [qap] at hk
   rw [List.take_append, qaK (by omega), c.fwd _ _ h.1]
   show (tk2 _).bind _ = _
   rw [d.sh _ _ h.2 (by omega)]
   rfl
theorem Cd.map (f : α → β) (g : β → α) (c : Cd S ok lay tk) (h1 : ∀ a, ok a → g (f a) = a ∧ ok2 (f a)) (h2 : ∀ x, ok2 x → ok (g x) ∧ f (g x) = x) : Cd S ok2 (fun x => lay (g x)) (fun b => (tk b).bind fun a r => .ok (f a) r) where
 fwd x r h := by
  rw [c.fwd _ _ (h2 x h).1]
  show Tk.ok (f (g x)) r = _
  rw [(h2 x h).2]
 bwd b x r hb h := by
  cases e : tk b with
  | err e' => rw [e] at h; cases h
  | ok a r1 =>
   rw [e] at h
   cases h
   obtain ⟨e1, k1⟩ := c.bwd b a r hb e
   exact ⟨by rw [(h1 a k1).1]; exact e1, (h1 a k1).2⟩
 sh x k h hk := by
  rw [c.sh _ _ (h2 x h).1 hk]
  rfl
theorem Cd.need (C : Int) (p : α → Bool) (c : Cd S ok lay tk) : Cd S (fun a => ok a ∧ p a = true) lay (fun b => (tk b).bind fun a r => if p a then .ok a r else .err C) where
 fwd a r h := by
  rw [c.fwd _ _ h.1]
  show (if p a = true then _ else _) = _
  rw [if_pos h.2]
 bwd b a r hb h := by
  cases e : tk b with
  | err e' => rw [e] at h; cases h
  | ok x r1 =>
   rw [e] at h
   have h : (if p x = true then Tk.ok x r1 else .err C) = .ok a r := h
   by_cases hp : p x = true
   ·rw [if_pos hp] at h
    cases h
    obtain ⟨e1, k1⟩ := c.bwd b a r hb e
    exact ⟨e1, k1, hp⟩
   ·rw [if_neg hp] at h
    cases h
 sh a k h hk := by
  rw [c.sh _ _ h.1 hk]
  rfl
def gC (tk : Tkr α) : Nat → Tkr (List α)
 | 0, b => .ok [] b
 | n + 1, b => (tk b).bind fun a r => (gC tk n r).bind fun l r => .ok (a :: l) r
theorem Cd.rep (c : Cd S ok lay tk) : ∀ n, Cd S (fun l : List α => l.length = n ∧ ∀ a ∈ l, ok a) (fun l => l.flatMap lay) (gC tk n)
 | 0 => {
   fwd := fun l r h => by
    cases l with
    | nil => rfl
    | cons a l => cases h.1
   bwd := fun b l r _ h => by
    cases h
    exact ⟨rfl, rfl, fun a h => by cases h⟩
   sh := fun l k h hk => by
    cases l with
    | nil => exact absurd hk (Nat.not_lt_zero _)
    | cons a l => cases h.1 }
 | n + 1 => {
   fwd := fun l r h => by
    cases l with
    | nil => cases h.1
    | cons a l =>
     have := (c.seq (c.rep n)).fwd (a, l) r ⟨h.2 a (qaW ..), by simpa using h.1, fun x hx => h.2 x (qaX _ hx)⟩
     show (tk ((lay a ++ l.flatMap lay) ++ r)).bind _ = _
     cases e : tk ((lay a ++ l.flatMap lay) ++ r) with
     | err e' => simp only [e] at this; cases this
     | ok x r1 =>
      simp only [e, Tk.bind] at this ⊢
      cases e2 : gC tk n r1 with
      | err e' => rw [e2] at this; cases this
      | ok y r2 => rw [e2] at this; cases this; rfl
   bwd := fun b l r hb h => by
    have h : (tk b).bind (fun a r => (gC tk n r).bind fun l r => Tk.ok (a :: l) r) = .ok l r := h
    cases e : tk b with
    | err e' => rw [e] at h; cases h
    | ok a r1 =>
     rw [e] at h
     have h : (gC tk n r1).bind (fun l r => Tk.ok (a :: l) r) = .ok l r := h
     obtain ⟨e1, k1⟩ := c.bwd b a r1 hb e
     cases e2 : gC tk n r1 with
     | err e' => rw [e2] at h; cases h
     | ok y r2 =>
      rw [e2] at h
      cases h
      obtain ⟨e3, k3, k4⟩ := (c.rep n).bwd r1 y r (by rw [e1] at hb; exact (isB_app.1 hb).2) e2
      refine ⟨by rw [e1, e3, qaD, qaQ], by simp [k3], fun x hx => ?_⟩
      rcases List.mem_cons.1 hx with rfl | hx
      ·exact k1
      ·exact k4 x hx
   sh := fun l k h hk => by
    cases l with
    | nil => cases h.1
    | cons a l =>
     have := (c.seq (c.rep n)).sh (a, l) k ⟨h.2 a (qaW ..), by simpa using h.1, fun x hx => h.2 x (qaX _ hx)⟩ (by simpa using hk)
     show (tk ((lay a ++ l.flatMap lay).take k)).bind _ = _
     cases e : tk ((lay a ++ l.flatMap lay).take k) with
     | err e' => simp only [e, Tk.bind] at this ⊢; cases this; rfl
     | ok x r1 =>
      simp only [e, Tk.bind] at this ⊢
      cases e2 : gC tk n r1 with
      | err e' => rw [e2] at this; cases this; rfl
      | ok y r2 => rw [e2] at this; cases this }
end
end Go.Proofs.Ytofklkbfkoliiaa
namespace Go.Proofs.Ytofklkbfkoliiaa
set_option linter.unusedVariables false
set_option linter.unusedSimpArgs false
open Go.RowKit
def ku : List C4 → List (Nat × C4)
 | [] => []
 | c :: l => match ku l with
  | [] => [(1, c)]
  | (n, d) :: r => if c = d then (n + 1, d) :: r else (1, c) :: (n, d) :: r
def kI (rs : List (Nat × C4)) : List C4 := rs.flatMap fun r => qax r.1 r.2
def vu : List (Nat × C4) → Prop
 | [] => True
 | [r] => 1 ≤ r.1
 | r :: q :: rs => 1 ≤ r.1 ∧ r.2 ≠ q.2 ∧ vu (q :: rs)
theorem vo {r : Nat × C4} {rs : List (Nat × C4)} (h : vu (r :: rs)) : vu rs := by
 cases rs with
 | nil => trivial
 | cons q rs => exact h.2.2
theorem ge : ∀ {rs : List (Nat × C4)}, vu rs → ∀ r ∈ rs, 1 ≤ r.1
 | [], _, r, hr => by simp at hr
 | [a], h, r, hr => by obtain rfl := List.mem_singleton.1 hr; exact h
 | a :: b :: rs, h, r, hr => by
  rcases List.mem_cons.1 hr with rfl | hr
  ·exact h.1
  ·exact ge h.2.2 r hr
theorem jv : ∀ l : List C4, kI (ku l) = l
 | [] => rfl
 | c :: l => by
  have ih := jv l
  rw [ku]
  cases hr : ku l with
  | nil =>
   rw [hr] at ih
   simp only [kI, List.flatMap_nil] at ih
   subst ih
   rfl
  | cons a r =>
   obtain ⟨n, d⟩ := a
   rw [hr] at ih
   simp only
   split
   ·rename_i e
    subst e
    rw [← ih]
    simp only [kI, qaD, List.replicate_succ, qas]
   ·rw [← ih]
    simp only [kI, qaD, List.replicate_succ, List.replicate_zero, qas, qaw]
theorem yq : ∀ l : List C4, vu (ku l)
 | [] => trivial
 | c :: l => by
  have ih := yq l
  rw [ku]
  cases hr : ku l with
  | nil => exact qaE 1
  | cons a r =>
   obtain ⟨n, d⟩ := a
   rw [hr] at ih
   simp only
   split
   ·cases r with
    | nil => exact Nat.le_add_left 1 n
    | cons b r => exact ⟨Nat.le_add_left 1 n, ih.2.1, ih.2.2⟩
   ·rename_i e
    exact ⟨qaE 1, e, ih⟩
theorem Gt (c : C4) (rs : List (Nat × C4)) : ∀ n : Nat, vu ((n + 1, c) :: rs) → ku (kI rs) = rs → ku (qax (n + 1) c ++ kI rs) = (n + 1, c) :: rs
 | 0, h, hr => by
  rw [List.replicate_succ, List.replicate_zero, qas, qaw, ku, hr]
  cases rs with
  | nil => rfl
  | cons q rs =>
   obtain ⟨m, d⟩ := q
   simp only
   rw [if_neg h.2.1]
 | n + 1, h, hr => by
  have hg : vu ((n + 1, c) :: rs) := by
   cases rs with
   | nil => exact Nat.le_add_left 1 n
   | cons q rs => exact ⟨Nat.le_add_left 1 n, h.2.1, h.2.2⟩
  rw [List.replicate_succ, qas, ku, Gt c rs n hg hr]
  exact if_pos rfl
theorem KL : ∀ rs : List (Nat × C4), vu rs → ku (kI rs) = rs
 | [], _ => rfl
 | (n, c) :: rs, h => by
  have hr := KL rs (vo h)
  have hn : 1 ≤ n := ge h (n, c) (qaW ..)
  obtain ⟨m, rfl⟩ : ∃ m, n = m + 1 := ⟨n - 1, by omega⟩
  have e : kI ((m + 1, c) :: rs) = qax (m + 1) c ++ kI rs := by unfold kI; rw [qaD]
  rw [e]
  exact Gt c rs m h hr
def Gu (r : Nat × C4) : List Int := [(r.1 : Int), r.2.r, r.2.g, r.2.b, r.2.a]
def kY (rs : List (Nat × C4)) : List Int := rs.flatMap Gu
theorem zJ (rs : List (Nat × C4)) : (kY rs).length = rs.length * 5 := by
 induction rs with
 | nil => rfl
 | cons r rs ih =>
  unfold kY at *
  rw [qaD, qap, ih, qaI]
  show 5 + rs.length * 5 = _
  omega
def gT (acc : List C4) (n : Int) (c : C4) : Bool := decide (1 ≤ n) && decide (n ≤ 64 - (acc.length : Int)) && !decide (acc.getLast? = some c)
def rdG : Nat → List C4 → List Int → Option (List C4 × List Int)
 | 0, _, _ => none
 | f + 1, acc, n :: r :: g :: b :: a :: rest => if gT acc n ⟨r, g, b, a⟩ = true then (if acc.length + n.toNat = 64 then some (acc ++ qax n.toNat ⟨r, g, b, a⟩, rest) else rdG f (acc ++ qax n.toNat ⟨r, g, b, a⟩) rest) else none
 | _ + 1, _, _ => none
theorem QE : ∀ (f : Nat) (acc : List C4) (b : List Int) (l : List C4) (rest : List Int), rdG f acc b = some (l, rest) → acc.length < 64 →
  ∃ rs : List (Nat × C4), rs ≠ [] ∧ l = acc ++ kI rs ∧ b = kY rs ++ rest ∧ vu rs ∧ l.length = 64 ∧ ∀ r ∈ rs.head?, acc.getLast? ≠ some r.2
 | 0, acc, b, l, rest, h, _ => by cases h
 | f + 1, acc, [], l, rest, h, _ => by cases h
 | f + 1, acc, [_], l, rest, h, _ => by cases h
 | f + 1, acc, [_, _], l, rest, h, _ => by cases h
 | f + 1, acc, [_, _, _], l, rest, h, _ => by cases h
 | f + 1, acc, [_, _, _, _], l, rest, h, _ => by cases h
 | f + 1, acc, n :: r :: g :: b :: a :: bs, l, rest, h, hl => by
  rw [rdG] at h
  by_cases hm : gT acc n ⟨r, g, b, a⟩ = true
  ·rw [if_pos hm] at h
   unfold gT at hm
   simp only [qan, decide_eq_true_eq, qau, decide_eq_false_iff_not] at hm
   obtain ⟨⟨h1, h2⟩, h3⟩ := hm
   obtain ⟨m, hm⟩ : ∃ m : Nat, n = (m : Int) := ⟨n.toNat, by omega⟩
   subst hm
   rw [qaV] at h
   have he : Gu (m, ⟨r, g, b, a⟩) = [(m : Int), r, g, b, a] := rfl
   by_cases h64 : acc.length + m = 64
   ·rw [if_pos h64] at h
    obtain ⟨e1, e2⟩ := Prod.mk.inj (qao h)
    subst e1 e2
    refine ⟨[(m, ⟨r, g, b, a⟩)], by simp, by simp [kI], rfl, by show 1 ≤ m; omega, by rw [qap, qaG]; exact h64, fun q hq => ?_⟩
    obtain rfl := qao hq
    exact h3
   ·rw [if_neg h64] at h
    obtain ⟨rs, g0, g1, g2, g3, g4, g5⟩ := QE f _ bs l rest h (by rw [qap, qaG]; omega)
    refine ⟨(m, ⟨r, g, b, a⟩) :: rs, by simp, ?_, ?_, ?_, g4, fun q hq => ?_⟩
    ·rw [g1, qaQ]; simp [kI]
    ·rw [g2]; rfl
    ·cases rs with
     | nil => exact absurd rfl g0
     | cons q rs =>
      refine ⟨by show 1 ≤ m; omega, fun e => ?_, g3⟩
      refine g5 q rfl ?_
      rw [List.getLast?_append, List.getLast?_replicate, if_neg (by omega)]
      simp only [Option.some_or]
      exact congrArg some e
    ·obtain rfl := qao hq
     exact h3
  ·rw [if_neg hm] at h; cases h
theorem Gv : ∀ (rs : List (Nat × C4)) (f : Nat) (acc : List C4) (rest : List Int), rs ≠ [] → vu rs → (acc ++ kI rs).length = 64 → (∀ r ∈ rs.head?, acc.getLast? ≠ some r.2) → rs.length ≤ f → rdG f acc (kY rs ++ rest) = some (acc ++ kI rs, rest)
 | [], _, _, _, h, _, _, _, _ => absurd rfl h
 | (m, c) :: rs, 0, _, _, _, _, _, _, h => by simp at h
 | (m, c) :: rs, f + 1, acc, rest, _, hg, hl, hh, hf => by
  have h1 : 1 ≤ m := ge hg (m, c) (qaW ..)
  have efl : kI ((m, c) :: rs) = qax m c ++ kI rs := by unfold kI; rw [qaD]
  have eb : kY ((m, c) :: rs) ++ rest = (m : Int) :: c.r :: c.g :: c.b :: c.a :: (kY rs ++ rest) := by unfold kY; rw [qaD]; rfl
  rw [efl, qap, qap, qaG] at hl
  rw [eb, rdG, efl]
  have hm : gT acc (m : Int) ⟨c.r, c.g, c.b, c.a⟩ = true := by
   unfold gT
   simp only [qan, decide_eq_true_eq, qau, decide_eq_false_iff_not]
   exact ⟨⟨by omega, by omega⟩, hh _ rfl⟩
  rw [if_pos hm, qaV]
  cases rs with
  | nil =>
   have e0 : (kI ([] : List (Nat × C4))).length = 0 := rfl
   rw [if_pos (by omega)]
   simp [kI, kY]
  | cons q rs =>
   have hq : 1 ≤ q.1 := ge (vo hg) q (qaW ..)
   have e0 : (kI (q :: rs)).length = q.1 + (kI rs).length := by unfold kI; rw [qaD, qap, qaG]
   rw [if_neg (by omega), ← qaQ]
   refine Gv (q :: rs) f (acc ++ qax m c) rest (by simp) (vo hg) (by rw [qap, qap, qaG]; omega) (fun r hr => ?_) (by simpa using hf)
   obtain rfl := qao hr
   rw [List.getLast?_append, List.getLast?_replicate, if_neg (by omega)]
   simp only [Option.some_or]
   exact fun e => hg.2.1 (qao e)
theorem uE : ∀ l : List C4, (ku l).length ≤ l.length
 | [] => qaE 0
 | c :: l => by
  have ih := uE l
  rw [ku]
  cases hr : ku l with
  | nil => exact Nat.le_add_left 1 _
  | cons a r =>
   obtain ⟨n, d⟩ := a
   rw [hr] at ih
   simp only
   split
   ·rw [qaI] at ih ⊢; rw [qaI]; omega
   ·rw [qaI] at ih ⊢; rw [qaI, qaI]; omega
theorem uF {f : Nat} (hf : 64 ≤ f) {b : List Int} {l : List C4} {rest : List Int} : rdG f [] b = some (l, rest) ↔ l.length = 64 ∧ b = kY (ku l) ++ rest := by
 constructor
 ·intro h
  obtain ⟨rs, _, h1, h2, h3, h4, _⟩ := QE f [] b l rest h (by decide)
  rw [qaw] at h1
  have e : ku l = rs := by rw [h1]; exact KL rs h3
  exact ⟨h4, by rw [e]; exact h2⟩
 ·rintro ⟨h1, h2⟩
  have hl := uE l
  have hne : ku l ≠ [] := fun e => by
   have := jv l
   rw [e] at this
   rw [← this] at h1
   exact absurd h1 (by decide)
  have := Gv (ku l) f [] rest hne (yq l) (by rw [qaw, jv]; exact h1) (fun r _ => by simp) (by omega)
  rw [qaw, jv] at this
  rw [h2]
  exact this
def gf (t : TL) : List Int := kY (ku t.l)
def rdT (b : List Int) : Option (TL × List Int) := match h : rdG 64 [] b with
 | some x => some (⟨x.1, ((uF (qaE 64)).1 (h.trans (by rfl) : rdG 64 [] b = some (x.1, x.2))).1⟩, x.2)
 | none => none
theorem rdT_iff {b : List Int} {t : TL} {rest : List Int} : rdT b = some (t, rest) ↔ b = gf t ++ rest := by
 unfold rdT gf
 constructor
 ·intro h
  split at h
  ·rename_i x hx
   have hx : rdG 64 [] b = some (x.1, x.2) := hx
   obtain ⟨e1, e2⟩ := Prod.mk.inj (qao h)
   subst e1 e2
   exact ((uF (qaE 64)).1 hx).2
  ·cases h
 ·intro h
  have hx : rdG 64 [] b = some (t.l, rest) := (uF (qaE 64)).2 ⟨t.h, h⟩
  split
  ·rename_i x hy
   rw [hx] at hy
   obtain rfl := qao hy
   rfl
  ·rename_i hy
   rw [hx] at hy
   cases hy
theorem xo (t : TL) : ∃ n : Nat, 1 ≤ n ∧ ∃ bs, gf t = (n : Int) :: bs := by
 unfold gf
 have hg := yq t.l
 cases hr : ku t.l with
 | nil =>
  have := jv t.l
  rw [hr] at this
  have h := t.h
  rw [← this] at h
  exact absurd h (by decide)
 | cons r rs =>
  rw [hr] at hg
  refine ⟨r.1, ge hg r (qaW ..), [r.2.r, r.2.g, r.2.b, r.2.a] ++ kY rs, ?_⟩
  unfold kY
  rw [qaD]
  rfl
def qL (kn : List TL → TL) : List TL → List TL → List Int
 | _, [] => []
 | acc, t :: ts => (if t = kn acc then [0] else gf t) ++ qL kn (acc ++ [t]) ts
def Kb (kn : List TL → TL) : Nat → List TL → List Int → Option (List TL × List Int)
 | 0, acc, b => some (acc, b)
 | n + 1, acc, b => if b.head? = some 0 then Kb kn n (acc ++ [kn acc]) (b.drop 1) else match rdT b with
  | some x => if x.1 = kn acc then none else Kb kn n (acc ++ [x.1]) x.2
  | none => none
theorem u7 (kn : List TL → TL) : ∀ (ts acc : List TL) (more : List Int), Kb kn ts.length acc (qL kn acc ts ++ more) = some (acc ++ ts, more)
 | [], acc, more => by rw [qa6]; rfl
 | t :: ts, acc, more => by
  have ih := u7 kn ts (acc ++ [t]) more
  rw [qaQ] at ih
  rw [qaI, Kb, qL, qaQ]
  by_cases e : t = kn acc
  ·rw [if_pos e]
   have hz : (([0] : List Int) ++ (qL kn (acc ++ [t]) ts ++ more)).head? = some 0 := rfl
   rw [if_pos hz, ← e]
   exact ih
  ·rw [if_neg e]
   obtain ⟨n, hn, cs, he⟩ := xo t
   have h0 : ¬ (gf t ++ (qL kn (acc ++ [t]) ts ++ more)).head? = some (0 : Int) := by
    rw [he]
    intro h
    have := qao (show some (n : Int) = some (0 : Int) from h)
    omega
   rw [if_neg h0, rdT_iff.2 rfl]
   simp only
   rw [if_neg e]
   exact ih
theorem zK (kn : List TL → TL) : ∀ (n : Nat) (acc : List TL) (b : List Int) (l : List TL) (rest : List Int), Kb kn n acc b = some (l, rest) → ∃ ts : List TL, ts.length = n ∧ l = acc ++ ts ∧ b = qL kn acc ts ++ rest
 | 0, acc, b, l, rest, h => by
  obtain ⟨e1, e2⟩ := Prod.mk.inj (qao h)
  subst e1 e2
  exact ⟨[], rfl, (qa6 _).symm, rfl⟩
 | n + 1, acc, b, l, rest, h => by
  rw [Kb] at h
  split at h
  ·rename_i h0
   obtain ⟨ts, g1, g2, g3⟩ := zK kn n _ _ l rest h
   refine ⟨kn acc :: ts, by rw [qaI, g1], by rw [g2, qaQ]; rfl, ?_⟩
   rw [qL, if_pos rfl, qaQ, ← g3]
   cases b with
   | nil => cases h0
   | cons x bs =>
    obtain rfl := qao h0
    rfl
  ·split at h
   ·rename_i x hx
    split at h
    ·cases h
    ·rename_i hne
     obtain ⟨ts, g1, g2, g3⟩ := zK kn n _ _ l rest h
     refine ⟨x.1 :: ts, by rw [qaI, g1], by rw [g2, qaQ]; rfl, ?_⟩
     rw [qL, if_neg hne, qaQ, ← g3]
     exact rdT_iff.1 (show rdT b = some (x.1, x.2) from hx)
   ·cases h
theorem rdTs_iff {kn : List TL → TL} {n : Nat} {acc l : List TL} {b rest : List Int} : Kb kn n acc b = some (l, rest) ↔ ∃ ts : List TL, ts.length = n ∧ l = acc ++ ts ∧ b = qL kn acc ts ++ rest := by
 constructor
 ·exact zK kn n acc b l rest
 ·rintro ⟨ts, rfl, rfl, rfl⟩
  exact u7 kn ts acc rest
def ka (acc : List TL) : TL := acc.getLastD zT
def kw (w h : Int) (ts : List TL) : List Int := w :: h :: qL ka [] ts
def gU (rs : List (Nat × C4)) (i : Nat) : Nat := (kI (rs.take i)).length
theorem KM (a b : List (Nat × C4)) : kI (a ++ b) = kI a ++ kI b := by unfold kI; rw [List.flatMap_append]
theorem VD (r : Nat × C4) : kI [r] = qax r.1 r.2 := by simp [kI]
theorem VE (rs : List (Nat × C4)) : gU rs 0 = 0 := rfl
theorem Gw {rs : List (Nat × C4)} {i : Nat} (hi : i < rs.length) : gU rs (i + 1) = gU rs i + rs[i].1 := by
 unfold gU
 rw [qaU hi, KM, qap, VD, qaG]
theorem Gx (rs : List (Nat × C4)) : gU rs rs.length = (kI rs).length := by unfold gU; rw [List.take_length]
theorem zL {rs : List (Nat × C4)} {i : Nat} (hi : i < rs.length) : kI rs = kI (rs.take i) ++ (qax rs[i].1 rs[i].2 ++ kI (rs.drop (i + 1))) := by
 conv => lhs; rw [← List.take_append_drop i rs, List.drop_eq_getElem_cons hi]
 rw [KM]
 congr 1
theorem QF {rs : List (Nat × C4)} {i : Nat} (hi : i < rs.length) : gU rs i + rs[i].1 ≤ (kI rs).length := by
 have h1 := congrArg List.length (zL hi)
 rw [qap, qap, qaG] at h1
 unfold gU
 omega
theorem Gy {rs : List (Nat × C4)} {i m : Nat} (hi : i < rs.length) (hm : m < rs[i].1) : (kI rs)[gU rs i + m]? = some rs[i].2 := by
 rw [zL hi]
 unfold gU
 rw [qaH (by omega), Nat.add_sub_cancel_left, qaC (by rw [qaG]; exact hm), List.getElem?_replicate, if_pos hm]
theorem VF {rs : List (Nat × C4)} (hg : vu rs) {i : Nat} (hi : i < rs.length) : (kI rs)[gU rs i + rs[i].1]? ≠ some rs[i].2 := by
 rw [← Gw hi]
 by_cases h : i + 1 < rs.length
 ·have hp : 1 ≤ rs[i + 1].1 := ge hg _ (qa7 h)
  have := Gy h (m := 0) (by omega)
  rw [Nat.add_zero] at this
  rw [this]
  have key : ∀ (l : List (Nat × C4)) (hl : vu l) (j : Nat) (hj : j + 1 < l.length), l[j].2 ≠ l[j + 1].2 := by
   intro l
   induction l with
   | nil => intro _ j hj; simp at hj
   | cons a l ih =>
    intro hl j hj
    cases j with
    | zero =>
     cases l with
     | nil => simp at hj
     | cons b l => exact hl.2.1
    | succ j => exact ih (vo hl) j (by simpa using hj)
  exact fun e => key rs hg i h (qao e).symm
 ·have e : i + 1 = rs.length := by omega
  rw [e, Gx, qaT (qaE _)]
  exact fun h => by cases h
theorem Uk (t : TL) : gU (ku t.l) (ku t.l).length = 64 := by rw [Gx, jv, t.h]
theorem QG {t : TL} {i : Nat} (hi : i < (ku t.l).length) : 1 ≤ (ku t.l)[i].1 ∧ gU (ku t.l) i + (ku t.l)[i].1 ≤ 64 := by
 refine ⟨ge (yq t.l) _ (qa7 hi), ?_⟩
 have := QF hi
 rw [jv, t.h] at this
 exact this
theorem QH {t : TL} {i m : Nat} (hi : i < (ku t.l).length) (hm : m < (ku t.l)[i].1) : t.get (gU (ku t.l) i + m) = (ku t.l)[i].2 := by
 have := Gy hi hm
 rw [jv] at this
 unfold TL.get
 rw [qaJ, this]
 rfl
theorem Ul {t : TL} {i : Nat} (hi : i < (ku t.l).length) (h64 : gU (ku t.l) i + (ku t.l)[i].1 < 64) : t.get (gU (ku t.l) i + (ku t.l)[i].1) ≠ (ku t.l)[i].2 := by
 have := VF (yq t.l) hi
 rw [jv] at this
 unfold TL.get
 rw [qaJ, qak (by rw [t.h]; exact h64)]
 rw [qak (by rw [t.h]; exact h64)] at this
 exact fun e => this (congrArg some e)
theorem YA : kY [] = [] := rfl
def VG (acc : List C4) : List C4 := acc ++ qax (64 - acc.length) zC4
def k8 (acc : List C4) : TL := if h : acc.length ≤ 64 then ⟨VG acc, by unfold VG; rw [qap, qaG]; omega⟩ else zT
theorem zM {acc : List C4} (h : acc.length ≤ 64) : (k8 acc).l = VG acc := by unfold k8; rw [dif_pos h]
theorem Gz : k8 [] = zT := TL.ext (by rw [zM (by decide)]; rfl)
theorem Um {acc : List C4} {c : C4} (h : acc.length < 64) : (k8 acc).set acc.length c = k8 (acc ++ [c]) := TL.ext (by
 show ((k8 acc).l).set acc.length c = _
 rw [zM (by omega), zM (by simp; omega)]
 unfold VG
 rw [List.set_append_right _ _ (qaE _), Nat.sub_self, qap, show 64 - acc.length = (64 - (acc.length + [c].length)) + 1 by simp; omega, List.replicate_succ, zad, qaQ]
 rfl)
theorem GA {acc : List C4} {c : C4} {k : Nat} (h : acc.length + k < 64) : (k8 (acc ++ qax k c)).set (acc.length + k) c = k8 (acc ++ qax (k + 1) c) := by
 have hl : (acc ++ qax k c).length = acc.length + k := by simp
 have := Um (acc := acc ++ qax k c) (c := c) (by omega)
 rw [hl] at this
 rw [this, qaQ, List.replicate_succ']
theorem Un {acc : List C4} {c : C4} (h0 : 0 < acc.length) (h : acc.length ≤ 64) : (k8 acc).get (acc.length - 1) = c ↔ acc.getLast? = some c := by
 unfold TL.get
 rw [zM h]
 unfold VG
 rw [qaJ, qaC (by omega), List.getLast?_eq_getElem?, qak (by omega)]
 simp
theorem VH {l : List C4} (h : l.length = 64) : k8 l = ⟨l, h⟩ := TL.ext (by rw [zM (by omega)]; unfold VG; rw [h]; simp)
def bAt (B : List Int) (p : Nat) : Int := B.getD p 0
theorem Av {B : List Int} {p : Nat} (h : p < B.length) : bAt B p = B[p] := by unfold bAt; rw [qaJ, qak h]; rfl
theorem vX {B : List Int} (hB : isB B) (p : Nat) : 0 ≤ bAt B p ∧ bAt B p ≤ 255 := by
 unfold bAt
 rw [qaJ]
 cases h : B[p]? with
 | none => decide
 | some z => exact hB z (qa0 h)
def kt (B : List Int) (p : Nat) : Int × C4 := (bAt B p, ⟨bAt B (p + 1), bAt B (p + 2), bAt B (p + 3), bAt B (p + 4)⟩)
theorem jc {B : List Int} {p : Nat} (h : p < B.length) : B.drop p = bAt B p :: B.drop (p + 1) := by
 rw [List.drop_eq_getElem_cons h, Av h]
theorem mayG_iff {acc : List C4} {n : Int} {c : C4} : gT acc n c = true ↔ (1 ≤ n ∧ n ≤ 64 - (acc.length : Int)) ∧ acc.getLast? ≠ some c := by
 unfold gT
 simp [and_assoc]
def rdP (B : List Int) : Nat → List C4 → Nat → Option (List C4 × Nat)
 | 0, _, _ => none
 | f + 1, acc, p => if p + 5 ≤ B.length then (if gT acc (kt B p).1 (kt B p).2 = true then (if acc.length + (kt B p).1.toNat = 64 then some (acc ++ qax (kt B p).1.toNat (kt B p).2, p + 5) else rdP B f (acc ++ qax (kt B p).1.toNat (kt B p).2) (p + 5)) else none) else none
theorem VI {f : Nat} {acc : List C4} : ∀ {b : List Int}, b.length < 5 → rdG (f + 1) acc b = none
 | [], _ => rfl
 | [_], _ => rfl
 | [_, _], _ => rfl
 | [_, _, _], _ => rfl
 | [_, _, _, _], _ => rfl
 | _ :: _ :: _ :: _ :: _ :: _, h => by simp at h; omega
theorem Uo (B : List Int) : ∀ (f : Nat) (acc : List C4) (p : Nat), p ≤ B.length → rdG f acc (B.drop p) = (rdP B f acc p).map fun x => (x.1, B.drop x.2)
 | 0, _, _, _ => rfl
 | f + 1, acc, p, h => by
  rw [rdP]
  by_cases h5 : p + 5 ≤ B.length
  ·rw [if_pos h5, jc (by omega), jc (p := p + 1) (by omega), jc (p := p + 1 + 1) (by omega), jc (p := p + 1 + 1 + 1) (by omega), jc (p := p + 1 + 1 + 1 + 1) (by omega), rdG]
   show (if gT acc (kt B p).1 (kt B p).2 = true then (if acc.length + (kt B p).1.toNat = 64 then some (acc ++ qax (kt B p).1.toNat (kt B p).2, B.drop (p + 5)) else rdG f (acc ++ qax (kt B p).1.toNat (kt B p).2) (B.drop (p + 5))) else none) = _
   by_cases hm : gT acc (kt B p).1 (kt B p).2 = true
   ·rw [if_pos hm, if_pos hm]
    by_cases h6 : acc.length + (kt B p).1.toNat = 64
    ·rw [if_pos h6, if_pos h6]; rfl
    ·rw [if_neg h6, if_neg h6]; exact Uo B f _ (p + 5) h5
   ·rw [if_neg hm, if_neg hm]; rfl
  ·rw [if_neg h5, VI (by rw [qaR]; omega)]; rfl
theorem GB {B : List Int} {f : Nat} {acc l : List C4} {p q : Nat} (h : rdP B f acc p = some (l, q)) : p + 5 ≤ B.length ∧ gT acc (kt B p).1 (kt B p).2 = true ∧
  (acc.length + (kt B p).1.toNat = 64 → l = acc ++ qax (kt B p).1.toNat (kt B p).2 ∧ q = p + 5) ∧ (acc.length + (kt B p).1.toNat ≠ 64 → rdP B (f - 1) (acc ++ qax (kt B p).1.toNat (kt B p).2) (p + 5) = some (l, q)) := by
 cases f with
 | zero => cases h
 | succ f =>
  rw [rdP] at h
  split at h
  ·rename_i h5
   split at h
   ·rename_i hm
    split at h
    ·rename_i h6
     cases h
     exact ⟨h5, hm, fun _ => ⟨rfl, rfl⟩, fun h => absurd h6 h⟩
    ·rename_i h6
     exact ⟨h5, hm, fun h => absurd h h6, fun _ => h⟩
   ·cases h
  ·cases h
theorem Up {B : List Int} {f : Nat} {acc : List C4} {p : Nat} (hf : 64 ≤ f + acc.length) (ha : acc.length < 64) (h : rdP B f acc p = none) (h5 : p + 5 ≤ B.length) (hm : gT acc (kt B p).1 (kt B p).2 = true) :
  acc.length + (kt B p).1.toNat < 64 ∧ 64 ≤ f - 1 + (acc.length + (kt B p).1.toNat) ∧ rdP B (f - 1) (acc ++ qax (kt B p).1.toNat (kt B p).2) (p + 5) = none := by
 cases f with
 | zero => omega
 | succ f =>
  rw [rdP, if_pos h5, if_pos hm] at h
  have h1 := (mayG_iff.1 hm).1
  split at h
  ·cases h
  ·rename_i h6
   exact ⟨by omega, by omega, h⟩
theorem YB {B : List Int} : ∀ {f : Nat} {acc l : List C4} {p q : Nat}, rdP B f acc p = some (l, q) → q ≤ B.length ∧ p ≤ q ∧ l.length = 64
 | 0, _, _, _, _, h => by cases h
 | f + 1, acc, l, p, q, h => by
  obtain ⟨h5, hm, h1, h2⟩ := GB h
  by_cases h6 : acc.length + (kt B p).1.toNat = 64
  ·obtain ⟨rfl, rfl⟩ := h1 h6
   exact ⟨h5, by omega, by rw [qap, qaG]; exact h6⟩
  ·obtain ⟨g1, g2, g3⟩ := YB (h2 h6)
   exact ⟨g1, by omega, g3⟩
def rdN (B : List Int) (p : Nat) : Option (List C4 × Nat) := rdP B 64 [] p
theorem rdN_T {B : List Int} {p : Nat} (h : p ≤ B.length) : rdT (B.drop p) = (rdN B p).map fun x => (k8 x.1, B.drop x.2) := by
 have e := Uo B 64 [] p h
 unfold rdN
 cases hp : rdP B 64 [] p with
 | none =>
  rw [hp] at e
  cases ht : rdT (B.drop p) with
  | none => rfl
  | some x =>
   obtain ⟨t, rest⟩ := x
   have hb := rdT_iff.1 ht
   have := (uF (qaE 64)).2 ⟨t.h, hb⟩
   rw [this] at e
   cases e
 | some x =>
  obtain ⟨l, q⟩ := x
  rw [hp] at e
  obtain ⟨_, _, hl⟩ := YB hp
  obtain ⟨_, hb⟩ := (uF (qaE 64)).1 e
  have : rdT (B.drop p) = some (⟨l, hl⟩, B.drop q) := rdT_iff.2 hb
  rw [this]
  show _ = some (k8 l, B.drop q)
  rw [VH hl]
theorem YC {acc : List C4} {n : Int} {c : C4} (ha : acc.length < 64) : ((decide (n < 1) || decide (64 - (acc.length : Int) < n)) || (decide ((0 : Int) < (acc.length : Int)) && decide ((k8 acc).get (acc.length - 1) = c))) = !(gT acc n c) := by
 rw [Bool.eq_iff_iff, qau, ← Bool.not_eq_true, mayG_iff]
 simp only [qaA, qan, decide_eq_true_eq]
 by_cases h0 : 0 < acc.length
 ·rw [Un h0 (by omega)]
  constructor
  ·rintro ((h | h) | ⟨_, h⟩) ⟨g1, g2⟩
   ·omega
   ·omega
   ·exact g2 h
  ·intro h
   by_cases g : 1 ≤ n ∧ n ≤ 64 - (acc.length : Int)
   ·refine .inr ⟨by omega, Classical.byContradiction fun e => h ⟨g, e⟩⟩
   ·exact .inl (by omega)
 ·have e : acc = [] := qaL (by omega)
  subst e
  constructor
  ·rintro ((h | h) | ⟨h, _⟩) ⟨g1, _⟩
   ·omega
   ·omega
   ·simp at h
  ·intro h
   refine .inl ?_
   by_cases g : 1 ≤ n ∧ n ≤ 64 - (([] : List C4).length : Int)
   ·exact absurd ⟨g, by simp⟩ h
   ·omega
end Go.Proofs.Ytofklkbfkoliiaa
namespace Go.Proofs.Ytofklkbfkoliiaa
set_option linter.unusedVariables false
set_option linter.unusedSimpArgs false
open Go.RowKit
attribute [local irreducible] ku kY gU
theorem Zd (t : TL) : DFun Try.prog 88 [.loc 0 0] [.flat 132 (tc t)] (.fn (.func 95) [] [.loc 1 0]) [.flat 132 (tc t), .mix 164 [.loc 0 0]] := by
 refine zan (N := 4) 1 (by kernel_rfl) Try.func88 rfl rfl rfl (by simp only [fr0, qal, qam]; exact rfl) rfl fun s0 hs0 => ?_
 refine zag ?_
 refine zam 1 ?_
 refine zac ?_
 refine zaj rfl (jV 1 rfl (ev1 rfl) (fun s v h => by cases h <;> rfl) rfl) ?_
 refine zaa 1 rfl ?_
 refine zab ?_
 refine zah ?_
 refine za rfl (qX rfl en (ec (ev1 rfl) en)) ?_
 refine zaa 1 rfl ?_
 refine zab ?_
 refine qe ?_
 refine kc [0, 1] (rs1 rfl (qO rfl)) rfl rfl ?_ ⟨rfl, rfl, trivial⟩
 rfl
abbrev Uq (l : List Int) : Mem := .arr 5 1 l.length (l.flatMap uc8)
def fmB (k : Nat) (l : List Int) : List Mem := qax k .gone ++ [Uq l]
theorem Ur (k : Nat) (l : List Int) : (fmB k l)[k]? = some (Uq l) := by
 unfold fmB
 rw [qaH (by simp)]
 simp
theorem Ze (k : Nat) (l : List Int) : (fmB k l).length = k + 1 := by simp [fmB]
theorem Zf (k : Nat) (l b : List Int) (n : Nat) (L : List Value) (hn : n = l.length + b.length) (hL : L = l.flatMap uc8 ++ b.flatMap uc8) : (fmB k l).set k .gone ++ [Mem.arr 5 1 n L] = fmB (k + 1) (l ++ b) := by
 subst hn hL
 unfold fmB
 rw [List.set_append_right _ _ (by simp), qaG, Nat.sub_self, List.replicate_succ']
 simp [Uq, List.flatMap_append]
abbrev runV (r : Nat × C4) : List Value := .int .i64 (r.1 : Int) :: c4 r.2
theorem GC {rs : List (Nat × C4)} {i : Nat} (hi : i < rs.length) : kY (rs.take (i + 1)) = kY (rs.take i) ++ Gu rs[i] := by
 unfold kY
 rw [qaU hi, List.flatMap_append]
 simp
noncomputable def trnA : Code := rfA (pth [1, 1, 0, 1, 0] (vT Try.f74))
noncomputable def trnB : Code := rfB (pth [1, 1, 0, 1, 0] (vT Try.f74))
theorem Aw (r : Nat × C4) (hr : 1 ≤ r.1 ∧ r.1 ≤ 64) (k : Nat) (l : List Int) (hl : l.length ≤ 5000) : DRound Try.prog 0 [.val (.agg (runV r).toArray)] [.lp none 26 [(3, .loc 1 0)] #[6] trnA trnB .ready none, .mix 23 [.farr 2 (k)], .fam (fmB (k) (l))] true [.lp none 26 [(3, .loc 1 0)] #[6] trnA trnB .ready none, .mix 23 [.farr 2 (k + 1)], .fam (fmB (k + 1) (l ++ Gu r))] := by
 refine yo 3 rfl rfl (by simp) rfl rfl fun s0 hs0 => ?_
 refine zam 1 ?_
 refine zac ?_
 refine zaj rfl (zao 3 rfl wD rfl) ?_
 refine qc rfl (q0 rfl KG (ev1 rfl) (ev1 rfl) rfl rfl rfl rfl) ?_
 refine zab ?_
 refine ⟨rfl, ?_⟩
 simp only [zad, zaf]
 refine qf ?_
 refine zam 2 ?_
 refine zac ?_
 refine za rfl (qb rfl kS (ev1 rfl) rfl rfl) ?_
 refine za rfl (qa rfl gt (ev1 rfl)) ?_
 refine za rfl (qq rfl tb3 (ev1 rfl) rfl rfl) ?_
 refine za rfl (ju ty3 kn5 rfl (ev1 rfl) (fun _ => IntWalk.u8_in _ (by omega))) ?_
 refine za rfl (qa rfl gP (ev1 rfl)) ?_
 refine za rfl (qa rfl X4 (ev1 rfl)) ?_
 refine za rfl (qq rfl tb5 (ev1 rfl) rfl rfl) ?_
 refine za rfl (qa rfl gP (ev1 rfl)) ?_
 refine za rfl (qa rfl X5 (ev1 rfl)) ?_
 refine za rfl (qq rfl tb5 (ev1 rfl) rfl rfl) ?_
 refine za rfl (qa rfl gP (ev1 rfl)) ?_
 refine za rfl (qa rfl X6 (ev1 rfl)) ?_
 refine za rfl (qq rfl tb5 (ev1 rfl) rfl rfl) ?_
 refine za rfl (qa rfl gP (ev1 rfl)) ?_
 refine za rfl (qa rfl X7 (ev1 rfl)) ?_
 refine za rfl (qq rfl tb5 (ev1 rfl) rfl rfl) ?_
 refine za rfl (xj (ps := [(0, .tmp 10), (1, .tmp 13), (2, .tmp 16), (3, .tmp 19), (4, .tmp 22)]) rfl qK zr5 rfl (vc (ev1 rfl) (vc (ev1 rfl) (vc (ev1 rfl) (vc (ev1 rfl) (vc (ev1 rfl) vn))))) rfl (by decide) (by decide)) ?_
 refine zaj rfl (Qn (j1 := 4) (j2 := 5) rfl rfl qK zr5 rfl (ev1 rfl) (ev1 rfl) rfl (Ur k l) rfl rfl rfl (fun _ => rfl) (fun _ => ⟨by omega, by omega⟩)) ?_
 refine qc rfl (kF rfl kS (ev1 rfl) (ev1 rfl) (fun s v h => by cases h <;> exact ⟨rfl, rfl⟩) rfl (by first | decide | exact qaq rfl | simp)) ?_
 refine zab ?_
 refine ⟨by first | rfl | assumption | simp_all, rfl, [0, 1, 2], rfl, ⟨rfl, by rw [Ze]; rfl, congrArg (fun B => some (Blk.fam B)) (Zf k l (Gu r) _ _ rfl rfl), trivial⟩⟩
theorem YD (t : TL) : DFun Try.prog 95 [.yld 0, .loc 4 0] [.lp none 26 [(3, .loc 1 0)] #[6] trnA trnB .ready none, .mix 23 [.farr 2 (0)], .fam (fmB (0) ([])), .flat 132 (tc t), .mix 164 [.loc 3 0]] (.tup []) [.lp none 26 [(3, .loc 1 0)] #[6] trnA trnB .ready none, .mix 23 [.farr 2 ((ku t.l).length)], .fam (fmB ((ku t.l).length) (gf t)), .flat 132 (tc t), .mix 164 [.loc 3 0]] := by
 refine zan (N := 35) 5 (by kernel_rfl) Try.func95 rfl rfl rfl (by simp only [fr0, qal, qam]; exact rfl) rfl fun s0 hs0 => ?_
 refine zah ?_
 refine zaa 1 rfl ?_
 refine zab ?_
 refine qf ?_
 refine qY ⟨hs0, rfl⟩ (α := Nat) (fun i => [(3, .val (.int .i64 (gU (ku t.l) i : Int)))]) [(0, _), (1, _)] (fun i => [(1, .mix 23 [.farr 2 (i)]), (2, .fam (fmB (i) (kY ((ku t.l).take i))))]) [_, .hole, .hole, _, _] (fun i => i ≤ (ku t.l).length) (fun i => (ku t.l).length - i) 0 [0, 1, 2, 3, 4] (qaZ _) rfl ⟨rfl, rfl, trivial⟩ ⟨by rw [VE]; rfl, trivial⟩ ⟨rfl, rfl, by rw [List.take_zero, YA]; rfl, rfl, rfl, trivial⟩ ?_
 intro i hx
 simp only [upd, zad, zaf, qas, qaw]
 have hi0 := hx
 have hbl : (kY ((ku t.l).take i)).length ≤ 5000 := by
  have h1 := uE t.l
  have h2 := t.h
  rw [zJ, qaN]; omega
 refine zag ?_
 refine zah ?_
 refine zaa 1 rfl ?_
 refine za rfl (qI rfl (ev1 rfl) (ev1 rfl)) ?_
 refine zab ?_
 refine qv rfl (fun c1 => ?_) (fun c1 => ?_)
 ·try simp only [decide_eq_true_eq, decide_eq_false_iff_not, beq_iff_eq, bne_iff_ne, beq_eq_false_iff_ne, bne_eq_false_iff_eq, qau, qay, qan, qaA, qar, ne_eq, Decidable.not_not, qaO, qaP] at c1
  have hi : i < (ku t.l).length := by
   rcases Nat.lt_or_ge i (ku t.l).length with h | h
   ·exact h
   ·obtain rfl : i = (ku t.l).length := by omega
    rw [Uk] at c1
    omega
  obtain ⟨hn1, hn2⟩ := QG hi
  refine qd ?_
  refine qf ?_
  refine zag ?_
  refine zam 1 ?_
  refine zac ?_
  refine za rfl (qb rfl Hi (ev1 rfl) rfl rfl) ?_
  refine zaa 1 rfl ?_
  refine za rfl (qt rfl (ev1 rfl) (fun s v h => by cases h; exact ⟨_, rfl⟩)) ?_
  refine za rfl (ye (j := gU (ku t.l) i) rfl wC (ev1 rfl) (ev1 rfl) (fun _ => by omega) (fun _ => by omega)) ?_
  refine za rfl (uv (zC4) rfl gv (ev1 rfl) rfl (fun _ => rfl) (fun _ => by rw [TL.h]; omega)) ?_
  refine za rfl (kW (ps := [(1, .tmp 11)]) rfl Gl wD (vc (ev1 rfl) vn) rfl rfl) ?_
  refine zaj rfl (zao 5 rfl wD rfl) ?_
  refine qc rfl (q0 rfl KG (ev1 rfl) (ev1 rfl) rfl rfl rfl rfl) ?_
  refine zab ?_
  refine zag ?_
  refine qf ?_
  refine qY ⟨hs0, rfl⟩ (α := Nat) (fun m => [(3, .val (.int .i64 ((gU (ku t.l) i + m : Nat) : Int)))]) [(0, _), (1, _), (4, _)] (fun m => [(5, .flat 166 (runV (m, (ku t.l)[i].2)))]) [_, _, _, _, _, .hole] (fun m => m ≤ (ku t.l)[i].1) (fun m => (ku t.l)[i].1 - m) 0 [0, 1, 2, 3, 4, 5] (qaZ _) rfl ⟨rfl, rfl, rfl, trivial⟩ ⟨rfl, trivial⟩ ⟨rfl, rfl, rfl, rfl, rfl, by rw [← QH hi (m := 0) (by omega)]; rfl, trivial⟩ ?_
  intro m hx
  simp only [upd, zad, zaf, qas, qaw]
  have hm0 := hx
  refine zag ?_
  refine zag ?_
  refine qk [([], []), ([], []), ([], []), ([4], []), ([], []), ([], []), ([], []), ([3], []), ([], []), ([5], []), ([], []), ([], [])] qW (by kernel_rfl) ?_
  refine zae rfl rfl (zal (.inl rfl) (ev1 rfl)) ?_
  refine zae rfl rfl (qI rfl (ev1 rfl) (ev1 rfl)) ?_
  refine zae rfl rfl (zal (.inl rfl) (ev1 rfl)) ?_
  refine qg (qC rfl rfl rfl) rfl rfl (qb rfl Hi (ev1 rfl) rfl rfl) ?_
  refine qg (qC rfl rfl rfl) rfl rfl (zal (.inl rfl) (ev1 rfl)) ?_
  refine qg (qC rfl rfl rfl) rfl rfl (qt rfl (ev2 rfl) (fun s v h => by cases h; exact ⟨_, rfl⟩)) ?_
  refine qg (qC rfl rfl rfl) rfl rfl (ye (j := gU (ku t.l) i + m) rfl wC (ev2 rfl) (ev2 rfl) (fun hp => by first | omega | (simp at hp; omega)) (fun hp => by first | omega | (simp at hp; omega))) ?_
  refine qg (qC rfl rfl rfl) rfl rfl (uv (zC4) rfl gv (ev2 rfl) rfl (fun _ => rfl) (fun hp => by rw [TL.h]; simp at hp; omega)) ?_
  refine qg (qC rfl rfl rfl) rfl rfl (qa rfl gP (ev1 rfl)) ?_
  refine qg (qC rfl rfl rfl) rfl rfl (vO rfl gv (ev2 rfl) rfl rfl rfl) ?_
  refine qg (qC rfl rfl rfl) rfl rfl (vg Qw rfl QA gv (ev2 rfl) (ev2 rfl)) ?_
  refine zae rfl rfl (q9 rfl (ev1 rfl) (ev3 rfl id)) ?_
  refine qu ?_
  refine qv rfl (fun c3 => ?_) (fun c3 => ?_)
  ·have hmlt : m < (ku t.l)[i].1 := by
    rcases Nat.lt_or_ge m (ku t.l)[i].1 with h | h
    ·exact h
    ·obtain rfl : m = (ku t.l)[i].1 := by omega
     simp at c3
     exact absurd c3.2 (Ul hi (by omega))
   refine qd ?_
   refine qf ?_
   refine zah ?_
   refine za rfl (qa rfl gt (ev1 rfl)) ?_
   refine za rfl (qq rfl tb3 (ev1 rfl) rfl rfl) ?_
   refine za rfl (qx rfl (ev1 rfl) (ev1 rfl) (fun _ => qat _ (by omega))) ?_
   refine za rfl (qa rfl gt (ev1 rfl)) ?_
   refine qc rfl (Ye rfl tb3 (ev1 rfl) (ev1 rfl) rfl (qaq rfl) rfl) ?_
   refine zab ?_
   refine zac ?_
   refine zaa 1 rfl ?_
   refine za rfl (qx rfl (ev1 rfl) (ev1 rfl) (fun _ => qat _ (by omega))) ?_
   refine zaa 1 rfl ?_
   refine zab ?_
   refine ⟨m + 1, [0, 1, 2, 3, 4, 5], by omega, by simp only []; omega, rfl, ⟨rfl, rfl, rfl, rfl, trivial⟩, ⟨rfl, rfl, rfl, rfl, rfl, rfl, trivial⟩⟩
  ·have hmge : ¬ m < (ku t.l)[i].1 := fun h => by
    have h2 := QH hi h
    simp at c3
    exact c3 (by omega) h2
   refine qQ ?_
   refine zah ?_
   refine zaa 1 rfl ?_
   refine za rfl (kG rfl KG (ev1 rfl) rfl rfl) ?_
   refine zaj rfl (J0 (i := 0) [0, 1, 2] [] [] rfl (ev1 rfl) (ec (ev1 rfl) en) rfl rfl rfl (Aw (m, (ku t.l)[i].2) ⟨by omega, by omega⟩ i _ hbl) rfl rfl rfl rfl rfl) ?_
   refine za rfl (kX rfl (ev1 rfl)) ?_
   refine zab ?_
   refine qj rfl (rfl) ?_
   refine qd ?_
   have hmn : m = (ku t.l)[i].1 := by omega
   refine ⟨i + 1, [0, 1, 2, 3, 4], by omega, by simp only []; omega, rfl, ⟨by rw [Gw hi, hmn]; rfl, rfl, rfl, trivial⟩, ⟨rfl, rfl, by rw [GC hi, show Gu (ku t.l)[i] = Gu (m, (ku t.l)[i].2) by rw [hmn]]; rfl, rfl, rfl, trivial⟩⟩
 ·try simp only [decide_eq_true_eq, decide_eq_false_iff_not, beq_iff_eq, bne_iff_ne, beq_eq_false_iff_ne, bne_eq_false_iff_eq, qau, qay, qan, qaA, qar, ne_eq, Decidable.not_not, qaO, qaP] at c1
  have hie : i = (ku t.l).length := by
   rcases Nat.lt_or_ge i (ku t.l).length with h | h
   ·have := QG h
    omega
   ·omega
  refine qQ ?_
  subst hie
  refine kc [0, 1, 2, 3, 4] (qD rfl) rfl rfl ?_ ⟨?_, ?_, ?_, ?_, ?_, trivial⟩
  rfl
  all_goals first | exact rfl | exact (by rw [List.take_length]; rfl)
end Go.Proofs.Ytofklkbfkoliiaa
namespace Go.Proofs.Ytofklkbfkoliiaa
set_option linter.unusedVariables false
set_option linter.unusedSimpArgs false
open Go.RowKit
attribute [local irreducible] ku kY gU gf
theorem Zg (t : TL) : DFun Try.prog 74 [tD t] [] (.slf 1 (gf t).length ((gf t).flatMap uc8)) [] := by
 refine zan (N := 26) 0 (by kernel_rfl) Try.func74 rfl rfl rfl (by simp only [fr0, qal, qam]; exact rfl) rfl fun s0 hs0 => ?_
 refine zag ?_
 refine zam 1 ?_
 refine zac ?_
 refine zaj rfl (gn 0 rfl (ev1 rfl) rfl) ?_
 refine zaa 1 rfl ?_
 refine zab ?_
 refine zag ?_
 refine zam 1 ?_
 refine zac ?_
 refine zaj rfl (zao 1 rfl Uf rfl) ?_
 refine zab ?_
 refine zag ?_
 refine zag ?_
 refine zam 1 ?_
 refine zac ?_
 refine zaj rfl (zai [0] [] [2] rfl (ev1 rfl) (ec (ev1 rfl) en) rfl rfl (Zd t) rfl rfl rfl rfl rfl rfl) ?_
 refine zab ?_
 refine qf ?_
 refine zq 1 5 1 rfl (by simp only [qas, qaw, zad, zaf, qaI, qa4, qal, qam]; exact rfl) ?_
 refine yu ?_
 refine Qm 4 rfl (by simp only [qas, qaw, zad, zaf]; exact rfl) ?_
 refine Gg 1 0 4 rfl rfl rfl rfl (by simp only [qas, qaw, zad, zaf]; exact rfl) ?_
 refine yu ?_
 simp only [qas, qaw]
 refine Yi (FL := [(3, _)]) (st := .ready) (pe := none) [5, 1, 4, 0, 2] [] [] 5 rfl rfl (ev1 rfl) rfl (we ⟨rfl, trivial⟩) rfl rfl rfl (YD t) rfl rfl rfl rfl rfl rfl rfl (by simp) (fun e => ?_) (fun c e => ?_)
 ·simp only [upd, zad, zaf]
  refine zah ?_
  refine za rfl (qb rfl kS (ev1 rfl) rfl rfl) ?_
  refine zaa 1 rfl ?_
  refine zab ?_
  refine yu ?_
  refine XW 2 4 (j := 6) rfl rfl (Ur _ _) rfl (by simp only [qas, qaw, zad, zaf]; exact rfl) ?_
  refine Vn 2 rfl rfl (by simp only [qas, qaw, zad, zaf]; exact rfl) ?_
  refine qe ?_
  refine qH (rs1 rfl (qO rfl)) rfl ?_
  rfl
 ·cases e
end Go.Proofs.Ytofklkbfkoliiaa
namespace Go.Proofs.Ytofklkbfkoliiaa
set_option linter.unusedVariables false
set_option linter.unusedSimpArgs false
open Go.RowKit
abbrev VJ (B : List Int) (p : Nat) : List Int := [bAt B p, bAt B (p + 1)]
abbrev yD (B : List Int) (p : Nat) : List Int := [bAt B p, bAt B (p + 1), bAt B (p + 2), bAt B (p + 3), bAt B (p + 4)]
theorem VK {B : List Int} {p : Nat} (h : p + 2 ≤ B.length) : (B.drop p).take 2 = VJ B p := by
 rw [jc (by omega), jc (p := p + 1) (by omega)]; rfl
theorem VL {B : List Int} {p : Nat} (h : p + 5 ≤ B.length) : (B.drop p).take 5 = yD B p := by
 rw [jc (by omega), jc (p := p + 1) (by omega), jc (p := p + 1 + 1) (by omega), jc (p := p + 1 + 1 + 1) (by omega), jc (p := p + 1 + 1 + 1 + 1) (by omega)]; rfl
abbrev runI (r : Int × C4) : List Value := .int .i64 r.1 :: c4 r.2
theorem Hp (B : List Int) (hB : B.length ≤ 4000000000000000000) (p : Nat) (hq : p + 2 ≤ B.length) : DFun Try.prog 83 [.loc 0 0, .val (.int .i64 (2 : Int))] [.mix 129 [.val (.int .i64 0), .val (.int .i64 0), .val (.slice none 0 0), .slf 1 (B).length ((B).flatMap uc8), .val (.int .i64 (p : Int))]] (.slf 1 2 ((VJ B p).flatMap uc8)) [.mix 129 [.val (.int .i64 0), .val (.int .i64 0), .val (.slice none 0 0), .slf 1 (B).length ((B).flatMap uc8), .val (.int .i64 ((p + 2 : Nat) : Int))]] := by
 refine zan (N := 38) 1 (by kernel_rfl) Try.func83 rfl rfl rfl (by simp only [fr0, qal, qam]; exact rfl) rfl fun s0 hs0 => ?_
 refine zah ?_
 refine zaa 1 rfl ?_
 refine zab ?_
 refine zag ?_
 refine qk [([], []), ([], []), ([], []), ([0], []), ([], []), ([], []), ([], []), ([0], []), ([], []), ([], []), ([], []), ([], [])] qW (by kernel_rfl) ?_
 refine zae rfl rfl (zal (.inl rfl) (ev1 rfl)) ?_
 refine zae rfl rfl (qt rfl (ev1 rfl) (fun s v h => by cases h; exact ⟨_, rfl⟩)) ?_
 refine zae rfl rfl (qa rfl kR (ev1 rfl)) ?_
 refine zae rfl rfl (qb rfl tb3 (ev1 rfl) rfl rfl) ?_
 refine zae rfl rfl (zal (.inl rfl) (ev1 rfl)) ?_
 refine zae rfl rfl (qt rfl (ev1 rfl) (fun s v h => by cases h; exact ⟨_, rfl⟩)) ?_
 refine zae rfl rfl (qa rfl kR (ev1 rfl)) ?_
 refine zae rfl rfl (qb rfl tb3 (ev1 rfl) rfl rfl) ?_
 refine zae rfl rfl (zal (.inl rfl) (ev1 rfl)) ?_
 refine zae rfl rfl (qx rfl (ev1 rfl) (ev1 rfl) (fun _ => qat _ (by omega))) ?_
 refine zae rfl rfl (zal (.inr rfl) (ev1 rfl)) ?_
 refine zae rfl rfl (zal (.inr rfl) (ev1 rfl)) ?_
 refine qu ?_
 refine zag ?_
 refine zah ?_
 refine zaa 2 rfl ?_
 refine za rfl (qt rfl (ev1 rfl) (fun s v h => by cases h; exact ⟨_, rfl⟩)) ?_
 refine za rfl (qa rfl jJ (ev1 rfl)) ?_
 refine za rfl (qb rfl kS (ev1 rfl) rfl rfl) ?_
 refine za rfl (qJ rfl qK (ev1 rfl)) ?_
 refine za rfl (kD rfl (ev1 rfl) (ev1 rfl)) ?_
 refine zab ?_
 refine qj rfl (by simp; omega) ?_
 refine qd ?_
 refine zah ?_
 refine zaa 2 rfl ?_
 refine za rfl (qt rfl (ev1 rfl) (fun s v h => by cases h; exact ⟨_, rfl⟩)) ?_
 refine za rfl (qa rfl kR (ev1 rfl)) ?_
 refine qc rfl (kF rfl tb3 (ev1 rfl) (ev1 rfl) (fun s v h => by cases h <;> exact ⟨rfl, rfl⟩) rfl (by first | decide | exact qaq rfl | simp)) ?_
 refine zab ?_
 refine zah ?_
 refine zaa 1 rfl ?_
 refine za rfl (qt rfl (ev1 rfl) (fun s v h => by cases h; exact ⟨_, rfl⟩)) ?_
 refine za rfl (qa rfl jJ (ev1 rfl)) ?_
 refine za rfl (qb rfl kS (ev1 rfl) rfl rfl) ?_
 refine zaa 3 rfl ?_
 refine za rfl (xN (i := p) (j := p + 2) rfl qK (ev1 rfl) (ev1 rfl) (ev1 rfl) (ev1 rfl) (fun hp => by first | omega | (simp at hp; omega)) (fun hp => by first | omega | (simp at hp; omega)) (fun hp => by first | omega | (simp at hp; omega)) (fun hp => by first | omega | (simp at hp; omega)) (fun _ => rfl)) ?_
 refine zaa 1 rfl ?_
 refine zab ?_
 refine qe ?_
 refine kc [0] (rs1 rfl (qO rfl)) rfl rfl ?_ ⟨rfl, trivial⟩
 rw [show p + 2 - p = 2 by omega, VK hq]; rfl
theorem Us (B : List Int) (hB : B.length ≤ 4000000000000000000) (p : Nat) (hp : p ≤ B.length) (hq : ¬ p + 2 ≤ B.length) : DPanL Try.prog 83 [.loc 0 0, .val (.int .i64 (2 : Int))] [.mix 129 [.val (.int .i64 0), .val (.int .i64 0), .val (.slice none 0 0), .slf 1 (B).length ((B).flatMap uc8), .val (.int .i64 (p : Int))]] (.ifc 153 (.val (.agg #[]))) := by
 refine zan (N := 38) 1 (by kernel_rfl) Try.func83 rfl rfl rfl (by simp only [fr0, qal, qam]; exact rfl) rfl fun s0 hs0 => ?_
 refine zah ?_
 refine zaa 1 rfl ?_
 refine zab ?_
 refine zag ?_
 refine qk [([], []), ([], []), ([], []), ([0], []), ([], []), ([], []), ([], []), ([0], []), ([], []), ([], []), ([], []), ([], [])] qW (by kernel_rfl) ?_
 refine zae rfl rfl (zal (.inl rfl) (ev1 rfl)) ?_
 refine zae rfl rfl (qt rfl (ev1 rfl) (fun s v h => by cases h; exact ⟨_, rfl⟩)) ?_
 refine zae rfl rfl (qa rfl kR (ev1 rfl)) ?_
 refine zae rfl rfl (qb rfl tb3 (ev1 rfl) rfl rfl) ?_
 refine zae rfl rfl (zal (.inl rfl) (ev1 rfl)) ?_
 refine zae rfl rfl (qt rfl (ev1 rfl) (fun s v h => by cases h; exact ⟨_, rfl⟩)) ?_
 refine zae rfl rfl (qa rfl kR (ev1 rfl)) ?_
 refine zae rfl rfl (qb rfl tb3 (ev1 rfl) rfl rfl) ?_
 refine zae rfl rfl (zal (.inl rfl) (ev1 rfl)) ?_
 refine zae rfl rfl (qx rfl (ev1 rfl) (ev1 rfl) (fun _ => qat _ (by omega))) ?_
 refine zae rfl rfl (zal (.inr rfl) (ev1 rfl)) ?_
 refine zae rfl rfl (zal (.inr rfl) (ev1 rfl)) ?_
 refine qu ?_
 refine zag ?_
 refine zah ?_
 refine zaa 2 rfl ?_
 refine za rfl (qt rfl (ev1 rfl) (fun s v h => by cases h; exact ⟨_, rfl⟩)) ?_
 refine za rfl (qa rfl jJ (ev1 rfl)) ?_
 refine za rfl (qb rfl kS (ev1 rfl) rfl rfl) ?_
 refine za rfl (qJ rfl qK (ev1 rfl)) ?_
 refine za rfl (kD rfl (ev1 rfl) (ev1 rfl)) ?_
 refine zab ?_
 refine qR rfl (by simp; omega) ?_
 refine zac ?_
 refine za rfl (jG rfl Gk zG) ?_
 refine za rfl (xl rfl zE (ev1 rfl)) ?_
 refine ke rfl (vR rfl (ev1 rfl)) rfl ?_
 refine yW (Mo := [_]) [0] rfl rfl ?_ ⟨rfl, trivial⟩ rfl
 rfl
theorem Ut (B : List Int) (hB : B.length ≤ 4000000000000000000) (w h : Int) (us : List TL) (hu : us.length ≤ 5000) (p : Nat) (hq : p + 5 ≤ B.length) : DFun Try.prog 83 [.loc 0 0, .val (.int .i64 (5 : Int))] [.mix 129 [.val (.int .i64 w), .val (.int .i64 h), .arr 1, .slf 1 (B).length ((B).flatMap uc8), .val (.int .i64 (p : Int))], .arr 132 256 (us).length ((us).flatMap tc)] (.slf 1 5 ((yD B p).flatMap uc8)) [.mix 129 [.val (.int .i64 w), .val (.int .i64 h), .arr 1, .slf 1 (B).length ((B).flatMap uc8), .val (.int .i64 ((p + 5 : Nat) : Int))], .arr 132 256 (us).length ((us).flatMap tc)] := by
 refine zan (N := 38) 2 (by kernel_rfl) Try.func83 rfl rfl rfl (by simp only [fr0, qal, qam]; exact rfl) rfl fun s0 hs0 => ?_
 refine zah ?_
 refine zaa 1 rfl ?_
 refine zab ?_
 refine zag ?_
 refine qk [([], []), ([], []), ([], []), ([0], []), ([], []), ([], []), ([], []), ([0], []), ([], []), ([], []), ([], []), ([], [])] qW (by kernel_rfl) ?_
 refine zae rfl rfl (zal (.inl rfl) (ev1 rfl)) ?_
 refine zae rfl rfl (qt rfl (ev1 rfl) (fun s v h => by cases h; exact ⟨_, rfl⟩)) ?_
 refine zae rfl rfl (qa rfl kR (ev1 rfl)) ?_
 refine zae rfl rfl (qb rfl tb3 (ev1 rfl) rfl rfl) ?_
 refine zae rfl rfl (zal (.inl rfl) (ev1 rfl)) ?_
 refine zae rfl rfl (qt rfl (ev1 rfl) (fun s v h => by cases h; exact ⟨_, rfl⟩)) ?_
 refine zae rfl rfl (qa rfl kR (ev1 rfl)) ?_
 refine zae rfl rfl (qb rfl tb3 (ev1 rfl) rfl rfl) ?_
 refine zae rfl rfl (zal (.inl rfl) (ev1 rfl)) ?_
 refine zae rfl rfl (qx rfl (ev1 rfl) (ev1 rfl) (fun _ => qat _ (by omega))) ?_
 refine zae rfl rfl (zal (.inr rfl) (ev1 rfl)) ?_
 refine zae rfl rfl (zal (.inr rfl) (ev1 rfl)) ?_
 refine qu ?_
 refine zag ?_
 refine zah ?_
 refine zaa 2 rfl ?_
 refine za rfl (qt rfl (ev1 rfl) (fun s v h => by cases h; exact ⟨_, rfl⟩)) ?_
 refine za rfl (qa rfl jJ (ev1 rfl)) ?_
 refine za rfl (qb rfl kS (ev1 rfl) rfl rfl) ?_
 refine za rfl (qJ rfl qK (ev1 rfl)) ?_
 refine za rfl (kD rfl (ev1 rfl) (ev1 rfl)) ?_
 refine zab ?_
 refine qj rfl (by simp; omega) ?_
 refine qd ?_
 refine zah ?_
 refine zaa 2 rfl ?_
 refine za rfl (qt rfl (ev1 rfl) (fun s v h => by cases h; exact ⟨_, rfl⟩)) ?_
 refine za rfl (qa rfl kR (ev1 rfl)) ?_
 refine qc rfl (kF rfl tb3 (ev1 rfl) (ev1 rfl) (fun s v h => by cases h <;> exact ⟨rfl, rfl⟩) rfl (by first | decide | exact qaq rfl | simp)) ?_
 refine zab ?_
 refine zah ?_
 refine zaa 1 rfl ?_
 refine za rfl (qt rfl (ev1 rfl) (fun s v h => by cases h; exact ⟨_, rfl⟩)) ?_
 refine za rfl (qa rfl jJ (ev1 rfl)) ?_
 refine za rfl (qb rfl kS (ev1 rfl) rfl rfl) ?_
 refine zaa 3 rfl ?_
 refine za rfl (xN (i := p) (j := p + 5) rfl qK (ev1 rfl) (ev1 rfl) (ev1 rfl) (ev1 rfl) (fun hp => by first | omega | (simp at hp; omega)) (fun hp => by first | omega | (simp at hp; omega)) (fun hp => by first | omega | (simp at hp; omega)) (fun hp => by first | omega | (simp at hp; omega)) (fun _ => rfl)) ?_
 refine zaa 1 rfl ?_
 refine zab ?_
 refine qe ?_
 refine kc [0, 1] (rs1 rfl (qO rfl)) rfl rfl ?_ ⟨rfl, rfl, trivial⟩
 rw [show p + 5 - p = 5 by omega, VL hq]; rfl
theorem VM (B : List Int) (hB : B.length ≤ 4000000000000000000) (w h : Int) (us : List TL) (hu : us.length ≤ 5000) (p : Nat) (hp : p ≤ B.length) (hq : ¬ p + 5 ≤ B.length) : DPanL Try.prog 83 [.loc 0 0, .val (.int .i64 (5 : Int))] [.mix 129 [.val (.int .i64 w), .val (.int .i64 h), .arr 1, .slf 1 (B).length ((B).flatMap uc8), .val (.int .i64 (p : Int))], .arr 132 256 (us).length ((us).flatMap tc)] (.ifc 153 (.val (.agg #[]))) := by
 refine zan (N := 38) 2 (by kernel_rfl) Try.func83 rfl rfl rfl (by simp only [fr0, qal, qam]; exact rfl) rfl fun s0 hs0 => ?_
 refine zah ?_
 refine zaa 1 rfl ?_
 refine zab ?_
 refine zag ?_
 refine qk [([], []), ([], []), ([], []), ([0], []), ([], []), ([], []), ([], []), ([0], []), ([], []), ([], []), ([], []), ([], [])] qW (by kernel_rfl) ?_
 refine zae rfl rfl (zal (.inl rfl) (ev1 rfl)) ?_
 refine zae rfl rfl (qt rfl (ev1 rfl) (fun s v h => by cases h; exact ⟨_, rfl⟩)) ?_
 refine zae rfl rfl (qa rfl kR (ev1 rfl)) ?_
 refine zae rfl rfl (qb rfl tb3 (ev1 rfl) rfl rfl) ?_
 refine zae rfl rfl (zal (.inl rfl) (ev1 rfl)) ?_
 refine zae rfl rfl (qt rfl (ev1 rfl) (fun s v h => by cases h; exact ⟨_, rfl⟩)) ?_
 refine zae rfl rfl (qa rfl kR (ev1 rfl)) ?_
 refine zae rfl rfl (qb rfl tb3 (ev1 rfl) rfl rfl) ?_
 refine zae rfl rfl (zal (.inl rfl) (ev1 rfl)) ?_
 refine zae rfl rfl (qx rfl (ev1 rfl) (ev1 rfl) (fun _ => qat _ (by omega))) ?_
 refine zae rfl rfl (zal (.inr rfl) (ev1 rfl)) ?_
 refine zae rfl rfl (zal (.inr rfl) (ev1 rfl)) ?_
 refine qu ?_
 refine zag ?_
 refine zah ?_
 refine zaa 2 rfl ?_
 refine za rfl (qt rfl (ev1 rfl) (fun s v h => by cases h; exact ⟨_, rfl⟩)) ?_
 refine za rfl (qa rfl jJ (ev1 rfl)) ?_
 refine za rfl (qb rfl kS (ev1 rfl) rfl rfl) ?_
 refine za rfl (qJ rfl qK (ev1 rfl)) ?_
 refine za rfl (kD rfl (ev1 rfl) (ev1 rfl)) ?_
 refine zab ?_
 refine qR rfl (by simp; omega) ?_
 refine zac ?_
 refine za rfl (jG rfl Gk zG) ?_
 refine za rfl (xl rfl zE (ev1 rfl)) ?_
 refine ke rfl (vR rfl (ev1 rfl)) rfl ?_
 refine yW (Mo := [_, _]) [0, 1] rfl rfl ?_ ⟨rfl, rfl, trivial⟩ rfl
 rfl
theorem QI (B : List Int) (hB : B.length ≤ 4000000000000000000) (w h : Int) (us : List TL) (hu : us.length ≤ 5000) (p : Nat) : DFun Try.prog 99 [.loc 0 0] [.mix 129 [.val (.int .i64 w), .val (.int .i64 h), .arr 1, .slf 1 (B).length ((B).flatMap uc8), .val (.int .i64 (p : Int))], .arr 132 256 (us).length ((us).flatMap tc)] (.fn (.func 101) [] [.loc 2 0]) [.mix 129 [.val (.int .i64 w), .val (.int .i64 h), .arr 1, .slf 1 (B).length ((B).flatMap uc8), .val (.int .i64 (p : Int))], .arr 132 256 (us).length ((us).flatMap tc), .mix 155 [.loc 0 0]] := by
 refine zan (N := 4) 2 (by kernel_rfl) Try.func99 rfl rfl rfl (by simp only [fr0, qal, qam]; exact rfl) rfl fun s0 hs0 => ?_
 refine zag ?_
 refine zam 1 ?_
 refine zac ?_
 refine zaj rfl (jV 2 rfl (ev1 rfl) (fun s v h => by cases h <;> rfl) rfl) ?_
 refine zaa 1 rfl ?_
 refine zab ?_
 refine zah ?_
 refine za rfl (qX rfl en (ec (ev1 rfl) en)) ?_
 refine zaa 1 rfl ?_
 refine zab ?_
 refine qe ?_
 refine kc [0, 1, 2] (rs1 rfl (qO rfl)) rfl rfl ?_ ⟨rfl, rfl, rfl, trivial⟩
 rfl
theorem VN : DFun Try.prog 63 [.val .nilIface] [] (.val (.bool false)) [] := by
 refine zan (N := 11) 0 (by kernel_rfl) Try.func63 rfl rfl rfl (by simp only [fr0, qal, qam]; exact rfl) rfl fun s0 hs0 => ?_
 refine zah ?_
 refine zaa 1 rfl ?_
 refine zab ?_
 refine zag ?_
 refine zam 1 ?_
 refine zac ?_
 refine zaa 1 rfl ?_
 refine za rfl (Jb rfl zE zv153 (ev1 rfl)) ?_
 refine zaa 3 rfl ?_
 refine zaj rfl (zao 0 rfl zG rfl) ?_
 refine qc rfl (q0 rfl Hh (ev1 rfl) (ev1 rfl) rfl rfl rfl rfl) ?_
 refine zaa 1 rfl ?_
 refine zab ?_
 refine zah ?_
 refine zaa 2 rfl ?_
 refine zab ?_
 refine qe ?_
 refine qH (rs1 rfl (qO rfl)) rfl ?_
 rfl
theorem Uu : DFun Try.prog 63 [.ifc 153 (.val (.agg #[]))] [] (.val (.bool true)) [] := by
 refine zan (N := 11) 0 (by kernel_rfl) Try.func63 rfl rfl rfl (by simp only [fr0, qal, qam]; exact rfl) rfl fun s0 hs0 => ?_
 refine zah ?_
 refine zaa 1 rfl ?_
 refine zab ?_
 refine zag ?_
 refine zam 1 ?_
 refine zac ?_
 refine zaa 1 rfl ?_
 refine za rfl (Ja rfl zE (ev1 rfl)) ?_
 refine zaa 3 rfl ?_
 refine zaj rfl (zao 0 rfl zG rfl) ?_
 refine qc rfl (q0 rfl Hh (ev1 rfl) (ev1 rfl) rfl rfl rfl rfl) ?_
 refine zaa 1 rfl ?_
 refine zab ?_
 refine zah ?_
 refine zaa 2 rfl ?_
 refine zab ?_
 refine qe ?_
 refine qH (rs1 rfl (qO rfl)) rfl ?_
 rfl
end Go.Proofs.Ytofklkbfkoliiaa
