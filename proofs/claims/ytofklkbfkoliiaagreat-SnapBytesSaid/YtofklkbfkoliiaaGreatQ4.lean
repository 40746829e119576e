/- Variables that stay, named by their addresses; contracts that give one of several things; what is fresh; How many entries a map has; rows of elements whose cells are all one; A struct whose fields are rows, stored into a part of a variable; Variables that hold a row of one's own that was nil; data told otherwise in a block; Rows cut with three bounds, in the middle: of memory that stays, and of one's own; Rounds of a range over a function that end by a panic; iterators that panic; what types are; numbers of sites: which may be; octet: widths, and what has one; octet: rows one behind the other; octet: numbers laid behind bytes; octet: numbers read from bytes; sizes; tiles, and canvases as they show; canvases shown, and new; What is laid and taken: a small theory of codes that can be joined; runs of equals, and their bytes; a tile told; a tile as bytes; a reader: the bytes that stand next. No condition. -/
import Derived.Test.YtofklkbfkoliiaaGreatQ3
import Derived.Test.YtofklkbfkoliiaaGreatRows
import Derived.Maps.RangeRun
import Derived.ArgAppend
set_option maxRecDepth 4000
set_option maxHeartbeats 1000000
open List renaming getElem?_eq_some_iff → qbd, getElem?_eq_getElem → qbe, length_append → qbf, cons_append → qbp, nil_append → qbq, replicate → qbs, getElem?_set_ne → qbt, getElem?_set_self → qbu, length_replicate → qbv, getElem?_append_left → qbx, flatMap_cons → qbB, length_cons → qbC, length_take → qbD, length_drop → qbF, getElem?_append_right → qbG, eq_nil_of_length_eq_zero → qbH, getD_eq_getElem?_getD → qbI, take_of_length_le → qbJ, take_succ_eq_append_getElem → qbK, all_eq_true → qbL, append_assoc → qbM, getElem?_eq_none → qbN, length_nil → qbQ, mem_cons_self → qbR, mem_cons_of_mem → qbT, append_nil → qbV, range → qbW
open Go.IntWalk renaming i64_in → qbg
open Nat renaming zero_add → qbh, reduceAdd → qbj, le_of_ble_eq_true → qbr, le_refl → qby, le_trans → qbE, zero_le → qbO
open Bool renaming and_eq_true → qbi, or_eq_false_iff → qbk, not_eq_true' → qbl, not_eq_false' → qbm, or_eq_true → qbo
open Option.some renaming inj → qbn
open Int renaming not_lt → qbz, not_le → qbA, toNat_natCast → qbS
open Array renaming replicate → qbU
namespace Go.Proofs.YtofklkbfkoliiaaGreat
set_option linter.unusedVariables false
set_option linter.unusedSimpArgs false
open Go.RowKit
section
variable {P : Program} {s0 : St} {n : Cx}
def DCallsI (P : Program) (f : FuncId) (args : List D) (Min : List Blk) (post : (Nat → Prop) → D → List Blk → Prop) : Prop :=
 vp P f = true ∧ ∀ (s : St) (vs : List Value), Ok s → s.M = Min → Reps s args vs → Calls P f vs.toArray s.w fun e w' =>
  ∃ s', s'.w = w' ∧ Tr s s' ∧ ∃ d v, e = .returned v ∧ Rep s' d v ∧ post s.I d s'.M
def DFunI (P : Program) (f : FuncId) (args : List D) (Min : List Blk) (post : (Nat → Prop) → D → Prop) (Mout : List Blk) : Prop :=
 DCallsI P f args Min fun I d M => post I d ∧ M = Mout
theorem QI {f : FuncId} {fn : Func} {c : Code} {args : List D} {F0 : Fr} {Min : List Blk} {post : (Nat → Prop) → D → List Blk → Prop} {N : Nat} (m : Nat) (hcb : vp P f = true) (hf : P.funcs[f]? = some fn) (hc : fn.body = some c) (hn : fn.ntmps = N) (hle : Nat.ble args.length N = true) (hF : fr0 0 args = F0) (hm : Min.length = m)
  (h : ∀ s0 : St, s0.M.length ≤ m → dwp P s0 ⟨N, none, m, [], true⟩ c F0 Min (Kret P fn m [] (post s0.I) fun _ _ => False)) : DCallsI P f args Min post := by
 subst hF hm
 refine ⟨hcb, ?_⟩
 intro s vs ho hM hr
 obtain ⟨hl, hr⟩ := hr
 have hle := qbr hle
 have hslot : ∀ t d, lk (fr0 0 args) t = some d → Rep s d (jA { tmps := vs.toArray ++ qbU (fn.ntmps - vs.toArray.size) undef, defers := [] } t) := by
  intro t d hd
  obtain ⟨_, h2⟩ := xR args 0 t d hd
  simp only [Nat.sub_zero] at h2
  have hlt : t < args.length := (qbd.1 h2).1
  have hv : vs[t]? = some vs[t] := qbe (by omega)
  have : jA { tmps := vs.toArray ++ qbU (fn.ntmps - vs.toArray.size) undef, defers := [] } t = vs[t] := by
   unfold jA
   simp only [Array.getD_eq_getD_getElem?]
   rw [Array.getElem?_append_left (by simp; omega)]
   simp [show t < vs.length by omega]
  rw [this]
  exact hr t d _ h2 hv
 have hs : s.M.length ≤ Min.length := by rw [hM]; exact qby _
 have hb : Kb P s ⟨N, none, Min.length, [], true⟩ fn Min.length (post s.I) (fun _ _ => False) c (fr0 0 args) Min := qO rfl hs (h s hs)
 have hcalls := callsIn_wide.1 (callsIn_of_wp_marks (F := Fence.wide) (n := 0) hf hc trivial (hb _ _ ⟨ho, s, hM, rfl, Tr.refl ho, hslot, by simp; omega, .nil⟩))
 refine Calls.mono hcalls ?_
 rintro e w' ⟨s', h1, h2, (⟨d, v, h3, h4, h5⟩ | ⟨_, _, _, _, h5⟩)⟩
 ·exact ⟨s', h1, h2, d, v, h3, h4, h5⟩
 ·exact h5.elim
theorem DFunI.fun {f : FuncId} {args : List D} {Min Mout : List Blk} {post : (Nat → Prop) → D → Prop} {d0 : D} (h : DFunI P f args Min post Mout) (hd : ∀ I d, post I d → Wk d d0) : DFun P f args Min d0 Mout := by
 refine ⟨h.1, fun s vs ho hM hr => Calls.mono (h.2 s vs ho hM hr) ?_⟩
 rintro e w' ⟨s', h1, h2, d, v, h3, h4, h5, h6⟩
 exact ⟨s', h1, h2, .inl ⟨d0, v, h3, hd _ _ h5 s' v h4, rfl, h6⟩⟩
theorem DFunI.of {f : FuncId} {args : List D} {Min Mout : List Blk} {post post' : (Nat → Prop) → D → Prop} (h : DFunI P f args Min post Mout) (hd : ∀ I d, post I d → post' I d) : DFunI P f args Min post' Mout := by
 refine ⟨h.1, fun s vs ho hM hr => Calls.mono (h.2 s vs ho hM hr) ?_⟩
 rintro e w' ⟨s', h1, h2, d, v, h3, h4, h5, h6⟩
 exact ⟨s', h1, h2, d, v, h3, h4, hd _ _ h5, h6⟩
theorem kendI {fn : Func} {F : Fr} {M Mo : List Blk} {d d' : D} {m : Nat} {post : (Nat → Prop) → D → Prop} {I : Nat → Prop} {pan : D → List Blk → Prop} (σ : List Nat) (hr : ResD P fn F M d) (hσ : okσ m σ = true) (hv : vw σ jU M d = some d') (h : post I d') (hM : MFits σ jU M σ Mo) : DEnd P fn m ((fun I d M => post I d ∧ M = Mo) I) pan [] none F M := .ret hr hσ hv hM ⟨h, rfl⟩
end
section
variable {P : Program} {pc : Bool} {o : Oper} {F : Fr} {M : List Blk}
end
theorem UN {s : St} (ho : Ok s) {j : Nat} {k : Blk} {h : Value} (hM : s.M[j]? = some k) (hl : k.live = true) (hh : s.β[j]? = some h) : Tr s ⟨s.β, fun b => s.I b ∨ jw k h b, s.M.set j .gone, s.w⟩ := by
 have hnd : ∀ (i : Nat) h, s.β[i]? = some h → h ≠ .nilFunc → s.β[i]? = some h := fun _ _ h _ => h
 have old : ∀ (i : Nat) k', (s.M.set j .gone)[i]? = some k' → k'.live = true → i ≠ j ∧ s.M[i]? = some k' := by
  intro i k' h1 h2
  by_cases e : i = j
  ·subst e
   rw [qbu (by have := (qbd.1 hM).1; exact this)] at h1
   cases h1; cases h2
  ·rw [qbt (Ne.symm e)] at h1
   exact ⟨e, h1⟩
 have ne : ∀ (i : Nat) k' h' b, i ≠ j → s.M[i]? = some k' → k'.live = true → s.β[i]? = some h' → jw k' h' b → ¬ jw k h b := by
  intro i k' h' b e h1 h2 h3 h4 e2
  exact e (ho.inj i j k' k h' h b h1 h2 h3 h4 hM hl hh e2)
 have lv : ∀ b, Live ⟨s.β, fun b => s.I b ∨ jw k h b, s.M.set j .gone, s.w⟩ b → Live s b ∧ ¬ jw k h b := by
  rintro b ⟨i, k', h', h1, h2, h3, h4⟩
  obtain ⟨e, a⟩ := old i k' h1 h2
  exact ⟨qv a h2 h3 h4, ne i k' h' b e a h2 h3 h4⟩
 refine ⟨⟨by simp [ho.len], fun i k' h' h1 h2 => ?_, fun b hb => ?_, ?_, fun b hI => ?_⟩, j0 hnd, fun _ h => .inl h, fun b h => ?_, fun b hb hn => rfl, fun b h => .inr (lv b h).1, rfl, rfl, rfl, qby _⟩
 ·cases hk : k'.live with
  | false =>
   cases k' with
   | gone => trivial
   | hole =>
    by_cases e : i = j
    ·subst e
     rw [qbu (by have := (qbd.1 hM).1; exact this)] at h1
     cases h1
    ·rw [qbt (Ne.symm e)] at h1
     exact ho.blk i _ h' h1 h2
   | _ => cases hk
  | true =>
   obtain ⟨e, a⟩ := old i k' h1 hk
   exact BlkOk.mono (s := s) (s' := ⟨s.β, fun b => s.I b ∨ jw k h b, s.M.set j .gone, s.w⟩) hnd (fun _ h => .inl h) (fun _ _ => rfl) (ho.blk i k' h' a h2) fun b hl' hb' => rfl
 ·obtain ⟨h1, h2⟩ := lv b hb
  exact ⟨(ho.lt b h1).1, fun hI => hI.elim (ho.lt b h1).2 h2⟩
 ·intro i i2 k1 k2 x x2 b a1 a2 a3 a4 c1 c2 c3 c4
  obtain ⟨_, a1⟩ := old i k1 a1 a2
  obtain ⟨_, c1⟩ := old i2 k2 c1 c2
  exact ho.inj i i2 k1 k2 x x2 b a1 a2 a3 a4 c1 c2 c3 c4
 ·rcases hI with hI | hI
  ·exact ho.il b hI
  ·exact (ho.lt b (qv hM hl hh hI)).1
 ·rcases h with h | h
  ·exact .inl h
  ·exact .inr (.inr (qv hM hl hh h))
section
variable {P : Program} {s0 : St} {n : Cx}
theorem Tr.live_new {s s' : St} (ho : Ok s) (t : Tr s s') {b : Nat} (h : Live s' b) : ¬ s.I b := fun hI => (t.lv b h).elim (fun e => absurd (ho.il b hI) (Nat.not_lt.2 e)) fun e => (ho.lt b e).2 hI
theorem ZU {F : Fr} {M : List Blk} {a : Act} {w : World} {t j : Nat} {T : TypeId} {L : List Value} (h : Inv s0 n F M a w) (ht : lk F t = some (.loc j 0)) (hj : M[j]? = some (.flat T L)) : ∃ b, ¬ s0.I b ∧ Inv s0 n ((t, .pin b L) :: F) (M.set j .gone) a w := by
 obtain ⟨h0, s, rfl, rfl, h3, h4, h5, h6⟩ := h
 have hjl := (qbd.1 hj).1
 obtain ⟨y, hy⟩ : ∃ y, s.β[j]? = some y := ⟨_, qbe (by rw [h3.ok.len]; exact hjl)⟩
 obtain ⟨b, rfl, hc⟩ := h3.ok.blk j _ y hj hy
 have tt := UN h3.ok hj rfl hy
 have hlv : Live s b := qv hj rfl hy rfl
 refine ⟨b, h3.live_new h0 hlv, h0, ⟨s.β, fun c => s.I c ∨ jw (.flat T L) (.pointer (some ⟨b, 0, none⟩)) c, s.M.set j .gone, s.w⟩, rfl, rfl, h3.trans tt, fun z d hd => ?_, h5, h6.mono h3.ok tt⟩
 rw [j7] at hd
 split at hd
 ·rename_i e'
  subst e'
  obtain rfl := qbn hd
  have hr := h4 t _ ht
  generalize hv : jA a t = v at hr
  cases hr with
  | @loc _ _ b' hβ =>
   rw [hy] at hβ
   cases hβ
   exact .pin (.inr rfl) (by simpa using qn hc 0) hc
 ·exact (h4 z d hd).mono h3.ok tt
theorem ZV {c : Code} {F : Fr} {M M' : List Blk} {K : Cont} (t : Nat) {j : Nat} {T : TypeId} {L : List Value} (ht : lk F t = some (.loc j 0)) (hj : M[j]? = some (.flat T L)) (hM' : M.set j .gone = M') (h : ∀ b, ¬ s0.I b → dwp P s0 n c ((t, .pin b L) :: F) M' K) : dwp P s0 n c F M K := by
 subst hM'
 intro a w hi
 obtain ⟨b, hb, hi'⟩ := ZU hi ht hj
 exact h b hb a w hi'
end
section
variable {P : Program} {pc : Bool} {o : Oper} {F : Fr} {M : List Blk}
theorem Wn {σ : List Nat} {V : Nat → Bool} {M : List Blk} {T : TypeId} {sz n n' : Nat} {l l' : List D} (hnl : D.nlL l = true) (hn : n = n') (hl : l = l') : (vwL σ V M l).map (Blk.arx T sz n) = some (Blk.arx T sz n' l') := by
 subst hn hl
 rw [uQ σ V M l hnl]; rfl
theorem Wk.pin (b : Nat) (L : List Value) : Wk (.pin b L) (.dpf L) := fun s v hr => by cases hr with | pin hI h ho => exact .dpf hI h
theorem Wk.dpm {l l' : List D} (hw : WkL l l') (hn : D.nlL l' = true) : Wk (.dpm l) (.dpm l') := fun s v hr => by
 cases hr with
 | dpm hnl hI hc hl h => exact .dpm hn hI hc (by rw [← hw.1]; exact hl) (hw.rep h)
theorem Wk.slm {sz n : Nat} {l l' : List D} (hw : WkL l l') (hn : D.nlL l' = true) : Wk (.slm sz n l) (.slm sz n l') := fun s v hr => by
 cases hr with
 | slm hnl hl hn' hc ha hv h hm => exact .slm hn (by rw [← hw.1]; exact hl) hn' hc ha (by rw [← hw.1]; exact hv) (hw.rep h) (hm.imp (fun e => by subst e; exact qbH hw.1.symm) id)
end
end Go.Proofs.YtofklkbfkoliiaaGreat
namespace Go.Proofs.YtofklkbfkoliiaaGreat
set_option linter.unusedVariables false
set_option linter.unusedSimpArgs false
open Go.RowKit
theorem zC {Z : Array Value} {z0 : Value} (hZ : ∀ v ∈ Z, v = z0) (h0 : 0 < Z.size) (n : Nat) : (madeCells Z n).toList = qbs n z0 := by
 rw [List.eq_replicate_iff]
 refine ⟨by rw [Array.length_toList, size_madeCells], fun b hb => ?_⟩
 unfold madeCells at hb
 rw [Array.toList_map, List.mem_map] at hb
 obtain ⟨i, _, rfl⟩ := hb
 have hi : i % Z.size < Z.size := Nat.mod_lt _ h0
 rw [getElem!_pos Z (i % Z.size) hi]
 exact hZ _ (Array.getElem_mem hi)
theorem QJ {P : Program} {pc : Bool} {o : Oper} {F : Fr} {M : List Blk} {T e : TypeId} {x y : Operand} {by' sz : Nat} (j n : Nat) {k k' : IntKind} {z z' : Int} (z0 : Value) {Z : List Value} (ho : o.op = .makeSlice T x y) (hT : slE P T = some (e, sz, by')) (hZ : zrC P e = some Z) (hz0 : Z = qbs sz z0) (hsz : 0 < sz) (hx : Ev pc F x (.val (.int k z))) (hy : Ev pc F y (.val (.int k' z'))) (hz : pc = true → z = (n : Int)) (hz' : pc = true → z' = (n : Int)) (hj : M[j]? = some .hole) (hb : pc = true → by' * n ≤ 281474976710656 ∧ n ≤ 9223372036854775807) :
  DOp P pc o F M [j] (.arr j) [(j, .arr e sz n (qbs (n * sz) z0))] := by
 intro hp a s hok hops hfp
 obtain ⟨e1, ti, e2, e3, e4⟩ := jb hT
 obtain ⟨ti', zv, q1, q2, q3⟩ := j3 hZ
 rw [e2] at q1
 obtain rfl := qbn q1
 have h1 := (qG hp hx (by simp [ho, Op.operands]) hops).val_eq
 have h2 := (qG hp hy (by simp [ho, Op.operands]) hops).val_eq
 rw [hz hp] at h1
 rw [hz' hp] at h2
 obtain ⟨b1, b2⟩ := hb hp
 have hj' : s.M[j]? = some .hole := by rw [hfp j (by simp)]; exact hj
 have hjl : j < s.β.length := by rw [hok.len]; exact (qbd.1 hj').1
 have hb3 : (ti.bytes : Int) * (n : Int) ≤ 281474976710656 := by
  have h : ((ti.bytes * n : Nat) : Int) ≤ 281474976710656 := by rw [e4]; omega
  rwa [Int.natCast_mul] at h
 have hrun := run_make (P := P) s.w T e ti zv e1 e2 q2 k k' n n (by omega) (Int.le_refl _) hb3 (by omega)
 simp only [qbS] at hrun
 have hc : ∀ v ∈ zv.cells, v = z0 := fun v hv => by
  have h : v ∈ Z := by rw [← q3]; exact Array.mem_toList_iff.2 hv
  rw [hz0] at h
  exact List.eq_of_mem_replicate h
 have hs0 : 0 < zv.cells.size := by
  have := congrArg List.length q3
  rw [Array.length_toList, hz0, qbv] at this
  omega
 have hrow := World.ownsRow_lit (base := 0) (e := e) (size := ti.size) s.w (madeCells zv.cells (n * ti.size)) n (qbO _) (by unfold maxLen; omega) (size_madeCells _ _)
 rw [zC hc hs0, e3] at hrow
 rw [e3] at hrun
 refine jv (s' := ⟨s.β.set j (.slice (some ⟨s.w.heap.size, 0, none⟩) n n), s.I, s.M.set j (.arr e sz n (qbs (n * sz) z0)), _⟩) (v := .slice (some ⟨s.w.heap.size, 0, none⟩) n n) ?_ (vf hok hj' _ _ _ (by simp) (fun b hb => by cases hb; rfl) (fun b h => Below.heap_alloc _ _ _ h) (fun b hb => by cases hb; simp) (by simp) rfl rfl rfl hrow) rfl (.arr (by simp [hjl]))
 unfold execOp
 simp only [ho, h1, h2]
 exact kS hrun
end Go.Proofs.YtofklkbfkoliiaaGreat
namespace Go.Proofs.YtofklkbfkoliiaaGreat
set_option linter.unusedVariables false
set_option linter.unusedSimpArgs false
open Go.RowKit
section
variable {P : Program} {pc : Bool} {o : Oper} {F : Fr} {M : List Blk}
theorem gt {T T' : TypeId} {x y : Operand} {i p k : Nat} {rw' : Bool} {ds l R : List D} (ho : o.op = .store T x y) (hT : tyB P T = some (rw', k)) (hx : Ev pc F x (.loc i p)) (hy : Ev pc F y (.agg ds)) (hM : M[i]? = some (.mix T' l)) (hk : ds.length = k) (hfit : Nat.ble (p + k) l.length = true) (h1 : ds.all D.oc = true) (hR : l.take p ++ ds ++ l.drop (p + k) = R) : DOp P pc o F M [i] .junk [(i, .mix T' R)] := by
 have hfit' := qbr hfit
 subst hR
 intro hp a s hok hops hfp
 have hr := qG hp hx (by simp [ho, Op.operands]) hops
 have hry := qG hp hy (by simp [ho, Op.operands]) hops
 have hM' : s.M[i]? = some (.mix T' l) := by rw [hfp i (by simp)]; exact hM
 generalize hv : a.eval x = vx at hr
 generalize hvy : a.eval y = vy at hry
 cases hr with
 | @loc _ _ b h =>
  cases hry with
  | @agg _ vs hvl hd =>
   obtain ⟨b', L, e1, e2, e3, e4⟩ := hok.blk i _ _ hM' h
   cases e1
   have hcell := qn e2 0
   have hoc : ∀ u ∈ vs, u.oneCell' = true := fun u hu => by
    obtain ⟨j, hj, rfl⟩ := List.getElem_of_mem hu
    have hj2 : j < ds.length := by omega
    exact QC (hd j _ _ (qbe hj2) (qbe hj)) (qbL.1 h1 _ (List.getElem_mem hj2))
   have hrun := yX (P := P) (w := s.w) (C := vs) ho hT hv hvy rfl (by omega) (fun j hj => by
     have hp' : p + j < L.length := by omega
     have := hcell (p + j) L[p + j] (by simp [hp'])
     rw [qbh] at this
     rw [this]; rfl) (fun j hj => by simp [World.frozen?, e2]) hoc
   have hβ : s.β.set i (.pointer (some ⟨b, 0, none⟩)) = s.β := by
    apply List.ext_getElem?
    intro k
    by_cases e : i = k
    ·subst e; rw [qbu (qbd.1 h).1, h]
    ·rw [qbt e]
   refine uh (s' := ⟨s.β.set i (.pointer (some ⟨b, 0, none⟩)), s.I, s.M.set i (.mix T' (l.take p ++ ds ++ l.drop (p + k))), s.w.setCells b p vs⟩) hrun (vg hok hM' rfl h rfl p _ ?_) rfl
   have hlen : (l.take p ++ ds ++ l.drop (p + k)).length = l.length := by
    simp only [qbf, qbD, qbF]
    omega
   refine ⟨b, ge L p vs, rfl, jc b vs p s.w L T' e2, by rw [yF, hlen, e3], fun j e v hj hv' => ?_⟩
   have lift : ∀ {e : D} {v : Value}, Rep s e v → Rep ⟨s.β.set i (.pointer (some ⟨b, 0, none⟩)), s.I, s.M.set i (.mix T' (l.take p ++ ds ++ l.drop (p + k))), s.w.setCells b p vs⟩ e v := by
    intro e v hr
    refine Rep.mono' (s := s) (s' := ⟨s.β.set i (.pointer (some ⟨b, 0, none⟩)), s.I, s.M.set i (.mix T' (l.take p ++ ds ++ l.drop (p + k))), s.w.setCells b p vs⟩) (fun k x hk _ => by show (s.β.set i _)[k]? = _; rw [hβ]; exact hk) (fun _ h => h) (fun b' hI => jr b _ p s.w b' fun e => ?_) hr
    subst e
    exact (hok.lt b' (qv hM' rfl h rfl)).2 hI
   rw [gV vs L p (by omega)] at hv'
   by_cases h1 : j < p
   ·rw [qbM, qbx (by simp; omega), List.getElem?_take_of_lt h1] at hj hv'
    exact lift (e4 j e v hj hv')
   ·rw [qbM, qbG (by simp; omega)] at hj hv'
    rw [qbD, Nat.min_eq_left (by omega)] at hj hv'
    by_cases h2 : j - p < k
    ·rw [qbx (by omega)] at hj hv'
     exact lift (hd _ e v hj hv')
    ·rw [qbG (by omega), List.getElem?_drop] at hj hv'
     rw [hvl, hk] at hv'
     rw [hk, show p + k + (j - p - k) = j by omega] at hj
     rw [show p + k + (j - p - k) = j by omega] at hv'
     exact lift (e4 j e v hj hv')
end
end Go.Proofs.YtofklkbfkoliiaaGreat
namespace Go.Proofs.YtofklkbfkoliiaaGreat
set_option linter.unusedVariables false
set_option linter.unusedSimpArgs false
open Go.RowKit
theorem GD {e : TypeId} {sz : Nat} : ∀ s h, BlkOk s h (.arx e sz 0 []) → BlkOk s h (.arr e sz 0 []) := fun s h hk => by
 obtain ⟨vs, h1, h2, _⟩ := hk
 obtain rfl : vs = [] := qbH (by simpa using h2)
 exact h1
theorem KB {T : TypeId} {l l' : List D} (h : WkL l l') : ∀ s hd, BlkOk s hd (.mix T l) → BlkOk s hd (.mix T l') := fun s hd hk => by
 obtain ⟨b, vs, e1, e2, e3, e4⟩ := hk
 exact ⟨b, vs, e1, e2, by rw [e3, h.1], h.rep e4⟩
theorem WkL.app {a b c d : List D} (h : WkL a b) (k : WkL c d) : WkL (a ++ c) (b ++ d) := by
 refine ⟨by rw [qbf, qbf, h.1, k.1], fun j x y h1 h2 => ?_⟩
 by_cases hj : j < a.length
 ·rw [qbx hj] at h1
  rw [qbx (by rw [← h.1]; exact hj)] at h2
  exact h.2 j x y h1 h2
 ·rw [qbG (by omega)] at h1
  rw [qbG (by rw [← h.1]; omega), ← h.1] at h2
  exact k.2 _ x y h1 h2
section
variable {P : Program} {s0 : St} {n : Cx}
theorem QK {F : Fr} {M : List Blk} {a : Act} {w : World} {T e : TypeId} {p q i sz m : Nat} {l : List D} {L : List Value} (h : Inv s0 n F M a w) (hM : M[p]? = some (.mix T l)) (hq : l[q]? = some (.arr i)) (hi : M[i]? = some (.arr e sz m L)) : Inv s0 n F ((M.set i .gone).set p (.mix T (l.set q (.slf sz m L)))) a w := by
 obtain ⟨h0, s, rfl, rfl, h3, h4, h5, h6⟩ := h
 have hpl : p < s.M.length := (qbd.1 hM).1
 have hil : i < s.M.length := (qbd.1 hi).1
 have hpi : p ≠ i := fun e => by subst e; rw [hM] at hi; cases hi
 have hpl' : p < s.β.length := by rw [h3.ok.len]; exact hpl
 have hil' : i < s.β.length := by rw [h3.ok.len]; exact hil
 have hβi : s.β[i]? = some s.β[i] := qbe (by rw [h3.ok.len]; exact hil)
 have hβp : s.β[p]? = some s.β[p] := qbe (by rw [h3.ok.len]; exact hpl)
 obtain ⟨b, vs, e1, e2, e3, e4⟩ := h3.ok.blk p _ _ hM hβp
 have hql : q < l.length := (qbd.1 hq).1
 have hcell : vs[q]? = some s.β[i] := by
  have hv : vs[q]? = some vs[q] := qbe (by omega)
  have := e4 q _ _ hq hv
  rw [hv]
  generalize vs[q] = x at this
  cases this with
  | arr h => exact h.symm.trans hβi
 obtain ⟨I', tt, hrep⟩ := YA h3.ok hi (e4 q _ _ hq hcell)
 have hM2 : (s.M.set i .gone)[p]? = some (.mix T l) := by rw [qbt (Ne.symm hpi)]; exact hM
 have hset : s.β.set p s.β[p] = s.β := List.set_getElem_self ..
 have t2 : Tr ⟨s.β, I', s.M.set i .gone, s.w⟩ ⟨s.β, I', (s.M.set i .gone).set p (.mix T (l.set q (.slf sz m L))), s.w⟩ := by
  have hst := ji tt.ok p (s.M.set i .gone) s.β[p] (.mix T (l.set q (.slf sz m L))) s.w rfl (fun i k h => .inl h) (by simpa using hpl) (.inr (.inl hβp)) (by rw [e1]; simp) ?_ (fun b' hb' j kj hj hne h1 h2 h3' h4' => ?_) (fun b' hb' => .inr (qv hM2 rfl hβp hb')) (fun b' hb' => (tt.ok.lt b' (qv hM2 rfl hβp hb')).1) (fun _ => False) (fun _ h => h.elim) (fun b' hlt hne _ => rfl) rfl rfl rfl (qby _)
  ·have hst' := hst
   simp only [hset] at hst'
   exact hst'
  ·refine ⟨b, vs, e1, e2, by simp [e3], fun j d v g1 g2 => ?_⟩
   have lift : ∀ {d v}, Rep s d v → Rep ⟨s.β.set p s.β[p], I', (s.M.set i .gone).set p (.mix T (l.set q (.slf sz m L))), s.w⟩ d v := fun hr => by
    rw [hset]
    exact Rep.mono' (s := ⟨s.β, I', s.M.set i .gone, s.w⟩) (s' := ⟨s.β, I', (s.M.set i .gone).set p (.mix T (l.set q (.slf sz m L))), s.w⟩) (fun _ _ h _ => h) (fun _ h => h) (fun _ _ => rfl) (hr.mono h3.ok tt)
   by_cases e : q = j
   ·subst e
    rw [qbu hql] at g1
    cases g1
    rw [hcell] at g2
    cases g2
    rw [hset]
    exact Rep.mono' (s := ⟨s.β, I', s.M.set i .gone, s.w⟩) (s' := ⟨s.β, I', (s.M.set i .gone).set p (.mix T (l.set q (.slf sz m L))), s.w⟩) (fun _ _ h _ => h) (fun _ h => h) (fun _ _ => rfl) hrep
   ·rw [qbt e] at g1
    exact lift (e4 j d v g1 g2)
  ·exact hne (tt.ok.inj j p kj _ hj _ b' h1 h2 h3' h4' hM2 rfl hβp hb')
 exact ⟨h0, ⟨s.β, I', (s.M.set i .gone).set p (.mix T (l.set q (.slf sz m L))), s.w⟩, rfl, rfl, (h3.trans tt).trans t2, fun x d hd => ((h4 x d hd).mono h3.ok tt).mono tt.ok t2, h5, (h6.mono h3.ok tt).mono tt.ok t2⟩
theorem QL {c : Code} {F : Fr} {M M' : List Blk} {K : Cont} (p q : Nat) {T e : TypeId} {i sz m : Nat} {l : List D} {L : List Value} (hM : M[p]? = some (.mix T l)) (hq : l[q]? = some (.arr i)) (hi : M[i]? = some (.arr e sz m L)) (hM' : (M.set i .gone).set p (.mix T (l.set q (.slf sz m L))) = M') (h : dwp P s0 n c F M' K) : dwp P s0 n c F M K := by
 subst hM'
 exact fun a w hj => h a w (QK hj hM hq hi)
end
theorem Vy {s : St} (h : Ok s) : Tr s ⟨s.β, s.I, s.M.map fun _ => Blk.gone, s.w⟩ := by
 have hg : ∀ (i : Nat) k, (s.M.map fun _ => Blk.gone)[i]? = some k → k = .gone := fun i k hk => by
  rw [List.getElem?_map] at hk
  cases hm : s.M[i]? with
  | none => rw [hm] at hk; cases hk
  | some x => rw [hm] at hk; exact (qbn hk).symm
 have nl : ∀ b, ¬ Live ⟨s.β, s.I, s.M.map fun _ => Blk.gone, s.w⟩ b := by
  rintro b ⟨i, k, hd, h1, h2, h3, h4⟩
  rw [hg i k h1] at h2
  cases h2
 refine ⟨⟨by simp [h.len], fun i k hd h1 h2 => ?_, fun b hb => (nl b hb).elim, fun i j k k' hd hd' b a1 a2 _ _ _ _ _ _ => ?_, h.il⟩, hkeep.refl _, fun _ h => h, fun _ h => .inl h, fun _ _ _ => rfl, fun b hb => (nl b hb).elim, rfl, rfl, rfl, qby _⟩
 ·rw [hg i k h1]
  trivial
 ·rw [hg i k a1] at a2
  cases a2
abbrev DPanL (P : Program) (f : FuncId) (args : List D) (Min : List Blk) (d : D) : Prop :=
 DCalls P f args Min (fun _ _ => False) (fun d' M' => d' = d ∧ M'.length = Min.length)
theorem DPanL.dead {P : Program} {f : FuncId} {args : List D} {Min : List Blk} {d : D} (h : DPanL P f args Min d) : DPan P f args Min d (Min.map fun _ => Blk.gone) := by
 refine ⟨h.1, fun s vs hok hM hr => (h.2 s vs hok hM hr).mono ?_⟩
 rintro e w' ⟨s', rfl, ht, hor⟩
 rcases hor with ⟨d0, v, _, _, hf⟩ | ⟨d0, v, rfl, hrep, rfl, hMo⟩
 ·exact hf.elim
 ·refine ⟨⟨s'.β, s'.I, s'.M.map fun _ => Blk.gone, s'.w⟩, rfl, ht.trans (Vy ht.ok), .inr ⟨d0, v, rfl, Rep.mono' (s := s') (s' := ⟨s'.β, s'.I, s'.M.map fun _ => Blk.gone, s'.w⟩) (fun _ _ h _ => h) (fun _ h => h) (fun _ _ => rfl) hrep, rfl, ?_⟩⟩
  show (s'.M.map fun _ => Blk.gone) = Min.map fun _ => Blk.gone
  rw [List.map_const', List.map_const', hMo]
theorem vR {P : Program} {fn : Func} {F : Fr} {M : List Blk} {d d' dr : D} {m k : Nat} {Mo : List Blk} {post : D → List Blk → Prop} (σ : List Nat) (hσ : okσ m σ = true) (hv : vw σ jU M d = some d') (h : d' = dr) (hM : MFits σ jU M σ Mo) (hl : Mo.length = k) : DEnd P fn m post (fun d M => d = dr ∧ M.length = k) [] (some d) F M := .pan hσ hv hM ⟨h, hl⟩
end Go.Proofs.YtofklkbfkoliiaaGreat
namespace Go.Proofs.YtofklkbfkoliiaaGreat
set_option linter.unusedVariables false
set_option linter.unusedSimpArgs false
open Go.RowKit
section
variable {P : Program} {pc : Bool} {o : Oper} {F : Fr} {M : List Blk}
theorem uR {α : Type} {en : α → List Value} {sz : Nat} (hen : ∀ a, (en a).length = sz) : ∀ (r : List α) (m : Nat), (r.take m).flatMap en = (r.flatMap en).take (m * sz)
 | r, 0 => by simp
 | [], m + 1 => by simp
 | x :: r, m + 1 => by
  have e : (en x).take (sz + m * sz) = en x := qbJ (by rw [hen]; omega)
  rw [List.take_succ_cons, qbB, qbB, uR hen r m, Nat.add_mul, Nat.one_mul, Nat.add_comm, List.take_append, e, hen, Nat.add_sub_cancel_left]
theorem zP {α : Type} {en : α → List Value} {r : List α} {T e : TypeId} {sz by' : Nat} {x lo hi mx : Operand} {k k' k'' : IntKind} {h h' h'' : Int} {i j : Nat} (ho : o.op = .slice T x (some lo) (some hi) (some mx)) (hT : slE P T = some (e, sz, by')) (hx : Ev pc F x (.slf sz r.length (r.flatMap en))) (hlo : Ev pc F lo (.val (.int k'' h''))) (hhi : Ev pc F hi (.val (.int k h))) (hmx : Ev pc F mx (.val (.int k' h')))
  (hl : pc = true → h'' = (i : Int)) (hh : pc = true → h = (j : Int)) (hm : pc = true → h' = (j : Int)) (hi : pc = true → i ≤ j ∧ j ≤ r.length) (hen : ∀ a, (en a).length = sz) : DOp P pc o F M [] (.slf sz ((r.drop i).take (j - i)).length (((r.drop i).take (j - i)).flatMap en)) [] := by
 intro hp a s hok hops _
 have hr := qG hp hx (by simp [ho, Op.operands]) hops
 have e0 := (qG hp hlo (by simp [ho, Op.operands]) hops).val_eq
 have e1 := (qG hp hhi (by simp [ho, Op.operands]) hops).val_eq
 have e2 := (qG hp hmx (by simp [ho, Op.operands]) hops).val_eq
 rw [hl hp] at e0
 rw [hh hp] at e1
 rw [hm hp] at e2
 obtain ⟨hij, hjr⟩ := hi hp
 obtain ⟨q1, ti, q2, q3, q4⟩ := jb hT
 have hlen : ((r.drop i).take (j - i)).length = j - i := by rw [qbD, qbF]; omega
 generalize hv : a.eval x = vx at hr
 cases hr with
 | @slf _ _ cap ad _ hl hn hc ha hL =>
  have hjc : j ≤ cap := by omega
  have hic : i ≤ cap := by omega
  have hrun : (execOp a.eval o).run P s.w = .ok (.value (.slice (if j - i = 0 then ad else ad.map (·.add (i * sz))) (j - i) (j - i))) s.w := by
   unfold execOp
   simp only [ho, hv, Option.map_some, e0, e1, e2]
   refine kS ?_
   simp [Instr.sliceAt, Instr.slice, run_underlying q1, Sem.run_bind, Instr.sliceBounds, Instr.sliceBound, asIntOf, hjc, hij, hic, sizeOf, typeInfo, q2, q3]
   congr 1
   exact propext ⟨fun h => by omega, fun h => by omega⟩
  refine qY hok hrun ?_
  rw [hlen]
  refine .slf (by rw [gi hen, hlen]) (qby _) (by omega) (fun e => ?_) ?_
  ·split at e
   ·assumption
   ·rw [Option.map_eq_none_iff] at e
    have := ha e; omega
  ·rcases hL with hL | ⟨b, q, e, hI, hcl⟩
   ·left
    rw [uR hen, uO hen, hL]; simp
   ·by_cases hz : j - i = 0
    ·left
     rw [qbH (hlen.trans hz)]; rfl
    ·right
     refine ⟨b, q + i * sz, by rw [if_neg hz, e, Option.map_some, Addr.add_mid], hI, ?_⟩
     rw [uR hen, uO hen]
     exact qW hcl (i * sz) ((j - i) * sz)
end
end Go.Proofs.YtofklkbfkoliiaaGreat
namespace Go.Proofs.YtofklkbfkoliiaaGreat
set_option linter.unusedVariables false
set_option linter.unusedSimpArgs false
open Go.RowKit
section
variable {P : Program}
theorem x9 {F : Fence} {k : Nat} {P : Program} {l : Nat} {f : FuncId} {fn : Func} {tmps : Array Value} {assign body : Code} {w : World} {R : Ending → World → Prop} (hF : F.fn f) (hf : P.funcs[f]? = some fn)
  (h : assign.wpIn (F.inRound l) k P (Exit.then (fun a₁ w₁ => ∃ w₂, (Instr.beginRound l).run P w₁ = .ok () w₂ ∧ body.wpIn (F.inRound l) k P (fun e a w => ∃ ch, e = .panic ch ∧ a.defers = [] ∧ R (.panicked ch) w) a₁ w₂) (fun _ _ _ => False))
   { tmps := tmps, defers := [] } w) :
  RoundIn F k P l f tmps assign body w R := by
 refine ⟨hF, fun c cs hr => ?_⟩
 let b : Frame := { (default : Frame) with fn := f, kind := .normal, roundOf := some l }
 have hb0 : Frame.round l f tmps assign body .normal = b.atR { tmps := tmps, defers := [] } [.code assign, .beginRound, .code body] := by
  simp [Frame.round, Frame.atR, b]
 have hr' : (F.inRound l).room ((c :: cs).length + 1 + k) := hr
 have hF' : (F.inRound l).fn b.fn := hF
 obtain ⟨e, a₁, w₁, hq, harr⟩ := h b [.beginRound, .code body] (c :: cs) rfl hF' hr'
 rw [← hb0] at harr
 cases e with
 | normal =>
  obtain ⟨w₂, hbr, hbody⟩ := hq
  have s1 : StepsIn (Machine.fenced P (F.inRound l)) P (lone (b.atR a₁ [.beginRound, .code body]) (c :: cs) w₁) (lone (b.atR a₁ [.code body]) (c :: cs) w₂) :=
   .one (fenced_calm (fr := b.atR a₁ [.beginRound, .code body]) hF' hr' rfl) (stepR_beginRound rfl hbr)
  obtain ⟨e₂, a₂, w₃, ⟨ch, rfl, hd, hR⟩, harr₂⟩ := hbody b [] (c :: cs) rfl hF' hr'
  obtain ⟨todo, hs⟩ := harr₂
  exact ⟨.panicked ch, w₃, hR, (StepsIn.trans harr s1).trans (StepsIn.trans hs (.one (fenced_calm hF' hr' (by simp [Frame.about, Frame.atR, hd])) (step_leave_panicked ⟨rfl, hd, fn, hf⟩)))⟩
 | exit id => exact hq.elim
 | goto t => exact hq.elim
 | ret => exact hq.elim
 | panic chain => exact hq.elim
 | outgrown => exact hq.elim
theorem YC {s0 s : St} {ds : List Deferred} (h : DfOk s0 s false [] ds) : ds = [] := by
 cases h with
 | nil => rfl
 | mark hmk => cases hmk
def DRoundP (P : Program) (i : Nat) (args : List D) (Min : List Blk) (d : D) (Mout : List Blk) : Prop :=
 ∀ (s : St) (vs : List Value) (l : Nat), Ok s → s.M = Min → s.β[i]? = some (.pointer (some ⟨l, 0, none⟩)) → Reps s args vs →
  ∃ f tmps asg body, (Instr.yield l vs.toArray).run P s.w = .ok (.round l f tmps asg body) s.w ∧
   RoundIn Fence.wide 0 P l f tmps asg body s.w fun e w' => ∃ s' v, e = .panicked [{ v := v, recovered := false }] ∧ s'.w = w' ∧ Tr s s' ∧ s'.M = Mout ∧ Rep s' d v
def KrndP (m : Nat) (d : D) : Cont
 | .panic d0, _, M => ∃ σ Mo, okσ m σ = true ∧ vw σ jU M d0 = some d ∧ MFits σ jU M σ Mo ∧ Mo.length = m
 | _, _, _ => False
theorem QM {d : D} {fk : FuncId} {gk : Func} {i N : Nat} {F F1 : Fr} {ps : Array Tmp} {asg body : Code} {args : List D} {Min : List Blk} (m : Nat) (hfn : P.funcs[fk]? = some gk) (hMi : Min[i]? = some (.lp (some fk) N F ps asg body .ready none)) (hps : ps.size = args.length) (hpN : ps.all (fun p => Nat.blt p N) = true) (hF : Wb ps.toList args F = F1) (hm : Min.length = m)
  (h : ∀ s0 : St, s0.M.length ≤ m → dwp P s0 ⟨N, some i, m, [], false⟩ asg F1 Min (Kseq (fun F2 M2 => M2[i]? = some (.lp (some fk) N F ps asg body .ready none) ∧ dwp P s0 ⟨N, some i, m, [], false⟩ body F2 (M2.set i (.lp (some fk) N F ps asg body .busy none)) (KrndP m d)) (fun _ _ _ => False))) :
  DRoundP P i args Min d (Min.map fun _ => Blk.gone) := by
 subst hm hF
 intro s vs l hok hM hβ hr
 subst hM
 obtain ⟨l', fn, tmps, Df, e1, e2, e3, e4⟩ := hok.blk i _ _ hMi hβ
 cases e1
 replace e2 : s.w.heap[l]? = some (yy fk tmps Df ps asg body .ready none) := e2
 have hrun := run_yield (P := P) (args := vs.toArray) e2 (by simp [hr.1, hps])
 refine ⟨fk, _, asg, body, hrun, x9 trivial hfn ?_⟩
 have hρ : (Cx.mk N (some i) s.M.length [] false).ρ s = some l := by simp [Cx.ρ, hβ]
 have hs := h s (qby _)
 have hset := Gv (s := s) ps.toList args vs F { tmps, defers := [] } hr (by simpa using hps) (fun p hp => by
  have := Array.all_eq_true_iff_forall_mem.1 hpN p (by simpa using hp)
  rw [e3]; exact Nat.blt_eq.mp this) e4
 have hz : (ps.zip vs.toArray).foldl (fun t (p, v) => t.setIfInBounds p v) tmps = (ps.toList.zip vs).foldl (fun t (p, v) => t.setIfInBounds p v) tmps := by
  rw [← Array.foldl_toList]; simp
 rw [hz]
 have hinv : Inv s ⟨N, some i, s.M.length, [], false⟩ (Wb ps.toList args F) s.M { tmps := (ps.toList.zip vs).foldl (fun t (p, v) => t.setIfInBounds p v) tmps, defers := [] } s.w :=
  ⟨hok, s, rfl, rfl, Tr.refl hok, hset.1, hset.2.trans e3, .nil⟩
 have h1 := hs _ _ hinv
 rw [hρ] at h1
 refine wpIn_mono h1 ?_
 intro e a w hp
 cases e with
 | normal =>
  obtain ⟨F2, M2, ⟨h0, s1, q1, q2, q3, q4, q5, q6⟩, hM2, hbody⟩ := hp
  subst q2
  have hβ1 := q3.hnd.1 i _ hβ (by simp) (by simp)
  have hM1 : s1.M[i]? = some (.lp (some fk) N F ps asg body .ready none) := by rw [q1]; exact hM2
  obtain ⟨l1, fn1, tmps1, Df1, g1, g2, g3, g4⟩ := q3.ok.blk i _ _ hM1 hβ1
  cases g1
  have ht := Gu q3.ok .busy none hM1 hβ1 g2 g3 g4
  refine ⟨_, run_beginRound g2 rfl, ?_⟩
  have hb := hbody a _ ⟨h0, ⟨s1.β, s1.I, s1.M.set i (.lp (some fk) N F ps asg body .busy none), s1.w.putObj l (yy ((some fk).getD fn1) tmps1 Df1 ps asg body .busy none)⟩, by rw [q1], rfl, q3.trans ht, q4.mono q3.ok ht, q5, q6.mono q3.ok ht⟩
  rw [hρ] at hb
  refine wpIn_mono hb ?_
  intro e a w hp
  cases e with
  | normal => obtain ⟨_, _, _, hk⟩ := hp; exact hk.elim
  | ret => obtain ⟨_, _, _, hk⟩ := hp; exact hk.elim
  | exit id => obtain ⟨_, _, _, hk⟩ := hp; exact hk.elim
  | goto id => obtain ⟨_, _, _, hk⟩ := hp; exact hk.elim
  | panic ch =>
   obtain ⟨F3, M3, d3, ⟨h03, s3, v3, r0, r1, r2, r3, r4, r5, r6⟩, σ, Mo, hσ, hv, hMo, hlo⟩ := hp
   subst r0 r1
   obtain ⟨rfl, r7⟩ := r6
   have tv := wE hok r2 (jW σ Mo hMo) (qby _) hσ
   have hr := gw (M' := Mo) r2.ok r7 d hv
   refine ⟨_, rfl, YC r5, ⟨(vst s3 σ jU Mo).β, (vst s3 σ jU Mo).I, (vst s3 σ jU Mo).M.map fun _ => Blk.gone, (vst s3 σ jU Mo).w⟩, v3, rfl, rfl, tv.trans (Vy tv.ok), ?_, Rep.mono' (s := vst s3 σ jU Mo) (s' := ⟨(vst s3 σ jU Mo).β, (vst s3 σ jU Mo).I, (vst s3 σ jU Mo).M.map fun _ => Blk.gone, (vst s3 σ jU Mo).w⟩) (fun _ _ h _ => h) (fun _ h => h) (fun _ _ => rfl) hr⟩
   show (Mo.map fun _ => Blk.gone) = s.M.map fun _ => Blk.gone
   rw [List.map_const', List.map_const', hlo]
  | outgrown => exact hp.elim
 | ret => obtain ⟨_, _, _, hk⟩ := hp; exact hk
 | exit id => obtain ⟨_, _, _, hk⟩ := hp; exact hk
 | goto id => obtain ⟨_, _, _, hk⟩ := hp; exact hk
 | panic ch => obtain ⟨_, _, _, _, hk⟩ := hp; exact hk
 | outgrown => exact hp
theorem op_yP {pc : Bool} {o : Oper} {F : Fr} {M Min Mout : List Blk} {x : Operand} {asx : List Operand} {tys : Array TypeId} {ds cargs : List D} {i j : Nat} {d0 d : D} {wr : List (Nat × Blk)} (σ V ν : List Nat)
  (ho : o.op = .call { callee := .value x, args := asx.toArray, argTypes := tys }) (hx : Ev pc F x (.yld j)) (hds : EvL pc F asx ds) (hij : σ[i]? = some j)
  (hc : vwL σ (fun i => V.contains i) M ds = some cargs) (hMin : yi σ (fun i => V.contains i) M σ = some Min) (hy : DRoundP P i cargs Min d0 Mout)
  (hlive : Min.all (·.live) = true) (hn : decide (σ ++ ν).Nodup = true) (hν : ν.all (fun i => match M[i]? with | some .hole => true | _ => false) = true)
  (hwr : ve (σ ++ ν) (σ ++ ν) Mout = some wr) (hd : sb (σ ++ ν) d0 = some d) (hfl : (V.isEmpty || (d0.fl && Mout.all (·.fl))) = true) : DOpP P pc o F M (σ ++ V ++ ν) d wr := by
 intro hp a s hok hops hfp
 have hVM : ∀ i, V.contains i = true → M[i]? = s.M[i]? := fun i hi => (hfp i (by simp at hi; simp [hi])).symm
 rw [gn hVM] at hc
 rw [v7 hVM σ (fun i hi => (hfp i (by simp [hi])).symm)] at hMin
 have hopx : x ∈ o.op.operands ∧ ∀ y ∈ asx, y ∈ o.op.operands := by rw [ho]; simp [Op.operands, Call.operands]; intro y hy; exact .inr hy
 obtain ⟨dx, ex1, ex2⟩ := hx
 have hrx := ex2 s _ hp (hops x hopx.1 dx ex1)
 generalize hvx : a.eval x = vx at hrx
 cases hrx with
 | @yld _ l hβ =>
  have hn' : (σ ++ ν).Nodup := of_decide_eq_true hn
  have hreps := gR (a := a) (s := s) hp asx ds hds (fun y hy => hops y (hopx.2 y hy))
  have hreps' := Gt (Min := Min) hok hreps hc
  obtain ⟨f, tmps, asg, body, e1, e2⟩ := hy (vst s σ (fun i => V.contains i) Min) (asx.map a.eval) l (wD hok hMin (List.nodup_append.1 hn').1) rfl (jl hij hβ) hreps'
  rw [Jv ho hvx]
  have e1' : Sem.run P (Instr.yield l (asx.map a.eval).toArray) s.w = .ok (.round l f tmps asg body) s.w := e1
  rw [e1']
  refine ⟨rfl, RoundIn.mono e2 ?_⟩
  rintro e w'' ⟨s2, v, rfl, rfl, ht2, hM2, hrd⟩
  have hν' : ∀ i ∈ ν, s.M[i]? = some .hole := fun i hi => by
   have h1 := qbL.1 hν i hi
   rw [hfp i (by simp [hi])]
   split at h1
   ·rename_i h2; exact h2
   ·cases h1
  obtain ⟨q1, q2⟩ := yn (M3 := upd s.M wr) hok hMin hlive hn' hν' ht2 hM2 hwr rfl (fun h => (flV hfl h).2)
  exact ⟨back s s2 σ (fun i => V.contains i) ν (upd s.M wr), v, rfl, rfl, q1, rfl, q2 d0 v d hrd (fun h => (flV hfl h).1) hd⟩
section
variable {s0 : St} {n : Cx} {ops : Array Oper}
def xx (P : Program) (f : FuncId) (s0 : St) (n : Cx) (c : Code) (F : Fr) (M : List Blk) (K : Cont) : Prop :=
 ∀ a w, Inv s0 n F M a w → ∀ (b : Frame) (k : List Item) (cs : List Frame), b.roundOf = (wd (n.ρ s0)).round → b.fn = f →
  ∃ e a' w', PostK s0 n K e a' w' ∧ ArrivesIn (Machine.fenced P (wd (n.ρ s0))) P (lone (b.atR a (.code c :: k)) cs w) b k cs e a' w'
theorem gZ {f : FuncId} {c : Code} {F : Fr} {M : List Blk} {K : Cont} (h : dwp P s0 n c F M K) : xx P f s0 n c F M K :=
 fun a w hi b k cs hro _ => h a w hi b k cs hro trivial (yz _ _)
theorem j5 {f : FuncId} {x y : Code} {F : Fr} {M : List Blk} {K : Cont} (h : xx P f s0 n x F M (Kseq (fun F M => xx P f s0 n y F M K) K)) : xx P f s0 n (.seq x y) F M K := by
 intro a w hi b k cs hro hb
 have h0 : (lone (b.atR a (.code (.seq x y) :: k)) cs w).fenced P (wd (n.ρ s0)) := jM
 obtain ⟨e, a₁, w₁, hq, harr⟩ := h a w hi b (.code y :: k) cs hro hb
 cases e with
 | normal =>
  obtain ⟨F', M', hi', hk⟩ := hq
  obtain ⟨e₂, a₂, w₂, hq₂, harr₂⟩ := hk a₁ w₁ hi' b k cs hro hb
  exact ⟨e₂, a₂, w₂, hq₂, .of_steps (.head h0 stepR_seq harr) harr₂⟩
 | exit id => exact ⟨.exit id, a₁, w₁, hq, .of_steps (.one h0 stepR_seq) (.pass (x := .code y) rfl (fun _ _ => .inl (by simp)) harr)⟩
 | goto l => exact ⟨.goto l, a₁, w₁, hq, .of_steps (.one h0 stepR_seq) (.pass (x := .code y) rfl (fun _ _ => .inl (by simp)) harr)⟩
 | ret => exact ⟨.ret, a₁, w₁, hq, .of_steps (.one h0 stepR_seq) (.pass (x := .code y) rfl (fun _ _ => .inl (by simp)) harr)⟩
 | panic ch => exact ⟨.panic ch, a₁, w₁, hq, .of_steps (.one h0 stepR_seq) (.pass (x := .code y) rfl (fun _ _ => .inl (by simp)) harr)⟩
 | outgrown => exact hq.elim
theorem KC {f : FuncId} {id : Nat} {c : Code} {F : Fr} {M : List Blk} {K : Cont} (h : xx P f s0 n c F M (Kblk id K)) : xx P f s0 n (.block id c) F M K := by
 intro a w hi b k cs hro hb
 have h0 : (lone (b.atR a (.code (.block id c) :: k)) cs w).fenced P (wd (n.ρ s0)) := jM
 obtain ⟨e, a₁, w₁, hq, harr⟩ := h a w hi b (.inBlock id :: k) cs hro hb
 cases e with
 | normal => exact ⟨.normal, a₁, w₁, hq, .head h0 stepR_block (StepsIn.trans harr (.one jM stepR_inBlock))⟩
 | exit id' =>
  by_cases hid : id' = id
  ·obtain ⟨F', M', h1, h2⟩ := hq
   simp only [Kblk, hid, if_true] at h2
   exact ⟨.normal, a₁, w₁, ⟨F', M', h1, h2⟩, .head h0 stepR_block (harr.1 k (by simp [exitTo, hid]))⟩
  ·obtain ⟨F', M', h1, h2⟩ := hq
   simp only [Kblk, hid, if_false] at h2
   have this : (id == id') = false := by simp; exact fun h => hid h.symm
   have hx : exitTo id' (.inBlock id :: k) = exitTo id' k := by simp [exitTo, this]
   exact ⟨.exit id', a₁, w₁, ⟨F', M', h1, h2⟩, fun k' hk => .head h0 stepR_block (harr.1 k' (by rw [hx]; exact hk)),
    fun hr' hk => let ⟨k₁, h1, h2⟩ := harr.2 hr' (by rw [hx]; exact hk); ⟨k₁, h1, .head h0 stepR_block h2⟩⟩
 | goto l =>
  have hx : gotoIn l (.inBlock id :: k) = gotoIn l k := by simp [gotoIn]
  exact ⟨.goto l, a₁, w₁, hq, fun k' hk => .head h0 stepR_block (harr.1 k' (by rw [hx]; exact hk)),
   fun hr' hk => let ⟨k₁, h1, h2⟩ := harr.2 hr' (by rw [hx]; exact hk); ⟨k₁, h1, .head h0 stepR_block h2⟩⟩
 | ret => exact ⟨.ret, a₁, w₁, hq, .of_steps (.one h0 stepR_block) harr⟩
 | panic ch => exact ⟨.panic ch, a₁, w₁, hq, .of_steps (.one h0 stepR_block) harr⟩
 | outgrown => exact hq.elim
theorem Vz {fk : FuncId} {g : Operand} {ps : Array Tmp} {asg body : Code} {F FL : Fr} {M M1 Min : List Blk} {K : Cont} {f : FuncId} {first caps cargs : List D} {post pan : D → List Blk → Prop} (σ V ν : List Nat) (j : Nat)
  (hr : n.r = none) (hmk : n.mks = true) (hg : Ev true F g (.fn (.func f) first caps)) (hj : M[j]? = some .hole) (hFL : ∀ t d, lk FL t = some d → lk F t = some d) (hM1 : M.set j (.lp (some fk) n.n FL ps asg body .ready none) = M1)
  (hc : vwL σ (fun i => V.contains i) M1 (first ++ [.yld j] ++ caps) = some cargs) (hMin : yi σ (fun i => V.contains i) M1 σ = some Min) (hf : DCalls P f cargs Min post pan)
  (hlive : Min.all (·.live) = true) (hn : decide (σ ++ ν).Nodup = true) (hν : ν.all (fun i => match M1[i]? with | some .hole => true | _ => false) = true)
  (hpost : ∀ d Mout, post d Mout → ∃ wr M2 st pe, ve (σ ++ ν) (σ ++ ν) Mout = some wr ∧ (V.isEmpty || Mout.all (·.fl)) = true ∧ upd M1 wr = M2 ∧ M2[j]? = some (.lp (some fk) n.n FL ps asg body st pe) ∧ st ≠ .busy ∧
   (pe = none → K .normal F (M2.set j .gone)) ∧ (∀ c, pe = some c → dwp P s0 n c F (M2.set j .gone) K))
  (hpan : ∀ d Mout, pan d Mout → ∃ wr M2 d1, ve (σ ++ ν) (σ ++ ν) Mout = some wr ∧ (V.isEmpty || (d.fl && Mout.all (·.fl))) = true ∧ upd M1 wr = M2 ∧ sb (σ ++ ν) d = some d1 ∧ K (.panic d1) F M2) :
  xx P fk s0 n (.rangeFunc g ps asg body) F M K := by
 intro a w hi b k cs hro hbf
 have hρ : n.ρ s0 = none := by unfold Cx.ρ; rw [hr]
 rw [hρ] at hro ⊢
 have hb : (wd none).fn b.fn := trivial
 obtain ⟨l, mark, w₁, d, w₁', f, args, w₂, he, hres, hlead, hinv, hn1, hF, hcall⟩ := Ve (fn := b.fn) (by rw [hbf]; rfl) σ V ν j hr hmk hg hj hFL hM1 hc hMin hf hlive hn hν hpost hpan a w hi
 rw [← hro] at he
 have h0 : (lone (b.atR a (.code (.rangeFunc g ps asg body) :: k)) cs w).fenced P (wd none) := jM
 have henter := stepR_rangeFunc (P := P) (b := b) (a := a) (k := k) (cs := cs) (w := w) he hres hinv
 obtain ⟨e, w₃, fr, hR, hsteps, hfn, hleave⟩ := hcall (b.atR { a with defers := mark ++ a.defers } (.inRangeFunc l :: k) :: cs) (yz _ _)
 cases e with
 | outgrown =>
  obtain ⟨a₀, w₀, hq⟩ := hR
  exact hq.elim
 | returned v =>
  have hl : (lone fr (b.atR { a with defers := mark ++ a.defers } (.inRangeFunc l :: k) :: cs) w₃).fenced P (wd none) := jM
  obtain ⟨jump, w₄, hend, hj⟩ := hR
  have sback : StepsIn (Machine.fenced P (wd none)) P (lone (b.atR a (.code (.rangeFunc g ps asg body) :: k)) cs w) (lone (b.atR { a with defers := mark ++ a.defers } ((jump.map Item.code).toList ++ k)) cs w₄) := by
   refine .head h0 henter (StepsIn.trans hsteps (.head hl ?_ (.one jM (stepR_endRangeFunc hend))))
   rw [← finish_atR_inRangeFunc l v]; exact step_leave_returned hleave
  cases jump with
  | none => exact ⟨.normal, _, w₄, hj, sback⟩
  | some c =>
   obtain ⟨e', a'', w₅, hq, harr⟩ := hj b k cs hro hb (yz _ _)
   exact ⟨e', a'', w₅, hq, .of_steps sback harr⟩
 | panicked chain =>
  have hl : (lone fr (b.atR { a with defers := mark ++ a.defers } (.inRangeFunc l :: k) :: cs) w₃).fenced P (wd none) := jM
  refine ⟨.panic chain, _, w₃, hR, .inRangeFunc l :: k, .head h0 henter (StepsIn.trans hsteps (.one hl ?_))⟩
  rw [← Frame.raise_atR]; exact step_leave_panicked hleave
theorem KD {f : FuncId} {c : Code} {F : Fr} {M : List Blk} {K : Cont} (h : xx P f s0 n c F M (Kng K)) : xx P f s0 n (.scope c) F M K := by
 intro a w hi b k cs hro hb
 obtain ⟨e, a₁, w₁, hq, harr⟩ := h a w hi b (.inScope c :: k) cs hro hb
 have f : ∀ (m : Machine), m.fenced P (wd (n.ρ s0)) := fun _ => jM
 cases e with
 | normal => exact ⟨.normal, a₁, w₁, hq, .head (f _) k8 (StepsIn.trans harr (.one (f _) wN))⟩
 | exit id => exact ⟨.exit id, a₁, w₁, hq, fun k' hk => .head (f _) k8 (harr.1 k' (by simp [exitTo, hk])), fun h1 h2 => by
   obtain ⟨k1, h3, h4⟩ := harr.2 h1 (by simp [exitTo, h2])
   exact ⟨k1, h3, .head (f _) k8 h4⟩⟩
 | goto l => obtain ⟨_, _, _, hk⟩ := hq; exact hk.elim
 | ret => exact ⟨.ret, a₁, w₁, hq, .of_steps (.one (f _) k8) harr⟩
 | panic ch => exact ⟨.panic ch, a₁, w₁, hq, .of_steps (.one (f _) k8) harr⟩
 | outgrown => exact hq.elim
theorem JI {f : FuncId} {c : Code} {F : Fr} {M : List Blk} {K : Cont} (h : xx P f s0 n c F (M ++ [.hole]) K) : xx P f s0 n c F M K := fun a w hi => h a w (Kd hi)
theorem UO {fk : FuncId} {g : Operand} {ps : Array Tmp} {asg body : Code} {F FL : Fr} {M M1 M2 Min Mout : List Blk} {K : Cont} {f : FuncId} {first caps cargs : List D} {d0 : D} {wr : List (Nat × Blk)} {st : LoopState} {pe : Option Code} (σ V ν : List Nat) (j : Nat)
  (hr : n.r = none) (hmk : n.mks = true) (hg : Ev true F g (.fn (.func f) first caps)) (hj : M[j]? = some .hole) (hFL : ∀ t d, lk FL t = some d → lk F t = some d) (hM1 : M.set j (.lp (some fk) n.n FL ps asg body .ready none) = M1)
  (hc : vwL σ (fun i => V.contains i) M1 (first ++ [.yld j] ++ caps) = some cargs) (hMin : yi σ (fun i => V.contains i) M1 σ = some Min) (hf : DFun P f cargs Min d0 Mout)
  (hlive : Min.all (·.live) = true) (hn : decide (σ ++ ν).Nodup = true) (hν : ν.all (fun i => match M1[i]? with | some .hole => true | _ => false) = true)
  (hwr : ve (σ ++ ν) (σ ++ ν) Mout = some wr) (hfl : (V.isEmpty || Mout.all (·.fl)) = true) (hM2 : upd M1 wr = M2) (hj2 : M2[j]? = some (.lp (some fk) n.n FL ps asg body st pe)) (hst : st ≠ .busy)
  (hk0 : pe = none → K .normal F (M2.set j .gone)) (hk1 : ∀ c, pe = some c → dwp P s0 n c F (M2.set j .gone) K) : xx P fk s0 n (.rangeFunc g ps asg body) F M K :=
 Vz σ V ν j hr hmk hg hj hFL hM1 hc hMin hf hlive hn hν (by rintro d Mo ⟨rfl, rfl⟩; exact ⟨wr, M2, st, pe, hwr, hfl, hM2, hj2, hst, hk0, hk1⟩) (fun _ _ h => h.elim)
theorem UP {fk : FuncId} {g : Operand} {ps : Array Tmp} {asg body : Code} {F FL : Fr} {M M1 M2 Min Mout : List Blk} {K : Cont} {f : FuncId} {first caps cargs : List D} {d0 d1 : D} {wr : List (Nat × Blk)} (σ V ν : List Nat) (j : Nat)
  (hr : n.r = none) (hmk : n.mks = true) (hg : Ev true F g (.fn (.func f) first caps)) (hj : M[j]? = some .hole) (hFL : ∀ t d, lk FL t = some d → lk F t = some d) (hM1 : M.set j (.lp (some fk) n.n FL ps asg body .ready none) = M1)
  (hc : vwL σ (fun i => V.contains i) M1 (first ++ [.yld j] ++ caps) = some cargs) (hMin : yi σ (fun i => V.contains i) M1 σ = some Min) (hf : DPan P f cargs Min d0 Mout)
  (hlive : Min.all (·.live) = true) (hn : decide (σ ++ ν).Nodup = true) (hν : ν.all (fun i => match M1[i]? with | some .hole => true | _ => false) = true)
  (hwr : ve (σ ++ ν) (σ ++ ν) Mout = some wr) (hfl : (V.isEmpty || (d0.fl && Mout.all (·.fl))) = true) (hM2 : upd M1 wr = M2) (hd : sb (σ ++ ν) d0 = some d1) (hk : K (.panic d1) F M2) : xx P fk s0 n (.rangeFunc g ps asg body) F M K :=
 Vz σ V ν j hr hmk hg hj hFL hM1 hc hMin hf hlive hn hν (fun _ _ h => h.elim) (by rintro d Mo ⟨rfl, rfl⟩; exact ⟨wr, M2, d1, hwr, hfl, hM2, hd, hk⟩)
end
section
variable {s0 : St} {n : Cx}
theorem A7 {F : Fr} {M : List Blk} {a : Act} {w : World} {t j : Nat} {e : TypeId} {sz m : Nat} {L : List Value} (h : Inv s0 n F M a w) (ht : lk F t = some (.arr j)) (hj : M[j]? = some (.arr e sz m L)) : Inv s0 n ((t, .arr M.length) :: F) (M.set j .gone ++ [.arr e sz m L]) a w := by
 obtain ⟨h0, s, rfl, rfl, h3, h4, h5, h6⟩ := h
 have t1 := vK h3.ok
 have hlen := h3.ok.len
 have hjl := (qbd.1 hj).1
 obtain ⟨y, hy⟩ : ∃ y, s.β[j]? = some y := ⟨_, qbe (by omega)⟩
 have hb := h3.ok.blk j _ y hj hy
 have hsl : ∃ ad n' c, y = .slice ad n' c := by
  have hr := h4 t _ ht
  generalize hv : jA a t = v at hr
  cases hr with
  | @arr _ ad n' c hβ => rw [hy] at hβ; exact ⟨ad, n', c, qbn hβ⟩
 obtain ⟨ad, n', c, rfl⟩ := hsl
 have hy1 : (s.β ++ [Value.nilFunc])[j]? = some (.slice ad n' c) := by rw [qbx (by omega)]; exact hy
 have hj1 : (s.M ++ [Blk.hole])[j]? = some (.arr e sz m L) := by rw [qbx hjl]; exact hj
 have eM : ((s.M ++ [Blk.hole]).set j .gone).set s.M.length (.arr e sz m L) = s.M.set j .gone ++ [.arr e sz m L] := by
  rw [List.set_append_left _ _ hjl, List.set_append_right _ _ (by simp)]
  simp
 have eβ : (s.β ++ [Value.nilFunc]).set s.M.length (.slice ad n' c) = s.β ++ [.slice ad n' c] := by
  rw [← hlen, List.set_append_right _ _ (qby _)]
  simp
 have t2 := ji t1.ok s.M.length ((s.M ++ [Blk.hole]).set j .gone) (.slice ad n' c) (.arr e sz m L) s.w (by simp) (fun i k hk => by
   by_cases e' : j = i
   ·subst e'; rw [qbu (by simp; omega)] at hk; exact .inr (qbn hk).symm
   ·rw [qbt e'] at hk; exact .inl hk) (by simp) (.inl (by simp [hlen])) (by simp) hb
  (fun b hb' i k h hne hk hl hh ho => by
   by_cases e' : j = i
   ·subst e'; rw [qbu (by simp; omega)] at hk; obtain rfl := qbn hk; cases hl
   ·rw [qbt e'] at hk
    exact e' (t1.ok.inj j i _ k _ h b hj1 rfl hy1 hb' hk hl hh ho))
  (fun b hb' => .inr (qv hj1 rfl hy1 hb')) (fun b hb' => (t1.ok.lt b (qv hj1 rfl hy1 hb')).1) (fun _ => False) (fun _ h => h.elim) (fun _ _ _ _ => rfl) rfl rfl rfl (qby _)
 have tt := t1.trans t2
 simp only [eM, eβ] at tt
 refine ⟨h0, ⟨s.β ++ [.slice ad n' c], s.I, s.M.set j .gone ++ [.arr e sz m L], s.w⟩, rfl, rfl, h3.trans tt, fun z d hd => ?_, h5, h6.mono h3.ok tt⟩
 rw [j7] at hd
 split at hd
 ·rename_i e'
  subst e'
  obtain rfl := qbn hd
  have hr := h4 t _ ht
  generalize hv : jA a t = v at hr
  cases hr with
  | @arr _ ad2 n2 c2 hβ =>
   rw [hy] at hβ
   obtain ⟨rfl, rfl, rfl⟩ := Value.slice.inj (qbn hβ)
   exact .arr (by show (s.β ++ [_])[s.M.length]? = _; rw [← hlen]; simp)
 ·exact (h4 z d hd).mono h3.ok tt
theorem A8 {c : Code} {F : Fr} {M M' : List Blk} {K : Cont} (t : Nat) {m' j : Nat} {e : TypeId} {sz m : Nat} {L : List Value} (ht : lk F t = some (.arr j)) (hj : M[j]? = some (.arr e sz m L)) (hm : M.length = m') (hM' : M.set j .gone ++ [.arr e sz m L] = M') (h : dwp P s0 n c ((t, .arr m') :: F) M' K) : dwp P s0 n c F M K := by
 subst hM' hm
 exact fun a w hi => h a w (A7 hi ht hj)
end
theorem KE {f : FuncId} {fn : Func} {c : Code} {args : List D} {F0 : Fr} {Min : List Blk} {post pan : D → List Blk → Prop} {N : Nat} (m : Nat) (hcb : vp P f = true) (hf : P.funcs[f]? = some fn) (hc : fn.body = some c) (hn : fn.ntmps = N) (hle : Nat.ble args.length N = true) (hF : fr0 0 args = F0) (hm : Min.length = m)
  (h : ∀ s0 : St, s0.M.length ≤ m → xx P f s0 ⟨N, none, m, [], true⟩ c F0 Min (Kret P fn m [] post pan)) : DCalls P f args Min post pan := by
 subst hF hm
 refine ⟨hcb, ?_⟩
 intro s vs ho hM hr
 obtain ⟨hl, hr⟩ := hr
 have hle := qbr hle
 have hslot : ∀ t d, lk (fr0 0 args) t = some d → Rep s d (jA { tmps := vs.toArray ++ qbU (fn.ntmps - vs.toArray.size) undef, defers := [] } t) := by
  intro t d hd
  obtain ⟨_, h2⟩ := xR args 0 t d hd
  simp only [Nat.sub_zero] at h2
  have hlt : t < args.length := (qbd.1 h2).1
  have hv : vs[t]? = some vs[t] := qbe (by omega)
  have : jA { tmps := vs.toArray ++ qbU (fn.ntmps - vs.toArray.size) undef, defers := [] } t = vs[t] := by
   unfold jA
   simp only [Array.getD_eq_getD_getElem?]
   rw [Array.getElem?_append_left (by simp; omega)]
   simp [show t < vs.length by omega]
  rw [this]
  exact hr t d _ h2 hv
 refine (callsIn_wide (n := 0)).1 ⟨trivial, fun cs hrm => ?_⟩
 let b : Frame := { (default : Frame) with fn := f, kind := .normal, roundOf := none }
 have henter : Frame.enter P f vs.toArray .normal =
   b.atR { tmps := vs.toArray ++ qbU (fn.ntmps - vs.toArray.size) undef, defers := [] } [.code c] := by
  simp [Frame.enter, Frame.atR, hf, hc, b]
 obtain ⟨e, a', w', hq0, harr⟩ := h s (by rw [hM]; exact qby _) _ _ ⟨ho, s, hM, rfl, Tr.refl ho, hslot, by simp; omega, .nil⟩ b [] cs rfl rfl
 have hq : bodyPostM Fence.wide 0 P fn (Lv s post pan) e a' w' := by
  cases e with
  | normal => obtain ⟨F, M, ⟨h0, s1, q1, q2, q3, q4, q5, q6⟩, hk⟩ := hq0; subst q1 q2; exact v6 h0 (by rw [hM]; exact qby _) a' _ _ none _ _ _ q6 q3 q4 rfl hk
  | ret => obtain ⟨F, M, ⟨h0, s1, q1, q2, q3, q4, q5, q6⟩, hk⟩ := hq0; subst q1 q2; exact v6 h0 (by rw [hM]; exact qby _) a' _ _ none _ _ _ q6 q3 q4 rfl hk
  | exit id => obtain ⟨_, _, _, hk⟩ := hq0; exact hk
  | goto l => obtain ⟨_, _, _, hk⟩ := hq0; exact hk
  | panic ch => obtain ⟨F, M, d, ⟨h0, s1, v, q1, q2, q3, q4, q5, q6, q7, q8⟩, hk⟩ := hq0; subst q1 q2 q7; exact v6 h0 (by rw [hM]; exact qby _) a' _ _ (some d) _ _ _ q6 q3 q4 ⟨v, rfl, q8⟩ hk
  | outgrown => exact hq0.elim
 rw [← henter] at harr
 have hF : (Fence.wide).fn f := trivial
 cases e with
 | normal =>
  obtain ⟨e', w'', fr', hR, hs, hfn, hl⟩ := leaves_stepsInM a'.defers .returning w' { b.atR a' [] with mode := .returning } cs rfl rfl rfl hf rfl hF hrm hq
  exact ⟨e', w'', fr', hR, ComesIn.of_steps (StepsIn.trans harr (.one (fenced_calm (fr := b.atR a' []) hF hrm rfl) (stepR_end rfl))) hs, hfn, hl⟩
 | ret =>
  obtain ⟨todo, hs₀⟩ := harr.1 rfl
  obtain ⟨e', w'', fr', hR, hs, hfn, hl⟩ := leaves_stepsInM a'.defers .returning w' { b.atR a' todo with mode := .returning } cs rfl rfl rfl hf rfl hF hrm hq
  exact ⟨e', w'', fr', hR, ComesIn.of_steps hs₀ hs, hfn, hl⟩
 | panic chain =>
  obtain ⟨todo, hs₀⟩ := harr
  obtain ⟨e', w'', fr', hR, hs, hfn, hl⟩ := leaves_stepsInM a'.defers (.panicking chain) w' { b.atR a' todo with mode := .panicking chain } cs rfl rfl rfl hf rfl hF hrm hq
  exact ⟨e', w'', fr', hR, ComesIn.of_steps hs₀ hs, hfn, hl⟩
 | exit id => exact hq.elim
 | goto l => exact hq.elim
 | outgrown => exact hq0.elim
end
end Go.Proofs.YtofklkbfkoliiaaGreat
namespace Go.Proofs.YtofklkbfkoliiaaGreat
set_option linter.unusedVariables false
set_option linter.unusedSimpArgs false
open Go.RowKit
theorem qJ : Tryz.prog.follows .mixedOrders = true := by kernel_rfl
structure C4 where
 r : Int
 g : Int
 b : Int
 a : Int
deriving DecidableEq
def c4 (c : C4) : List Value := [.int .u8 c.r, .int .u8 c.g, .int .u8 c.b, .int .u8 c.a]
def zC4 : C4 := ⟨0, 0, 0, 0⟩
structure P2 where
 x : Int
 y : Int
deriving DecidableEq
def p2 (p : P2) : List Value := [.int .i64 p.x, .int .i64 p.y]
structure TL where
 l : List C4
 h : l.length = 64
theorem TL.ext {t u : TL} (h : t.l = u.l) : t = u := by cases t; cases u; cases h; rfl
instance : DecidableEq TL := fun t u => if h : t.l = u.l then isTrue (TL.ext h) else isFalse fun e => h (by rw [e])
abbrev tc (t : TL) : List Value := t.l.flatMap c4
abbrev tD (t : TL) : D := .val (.agg (tc t).toArray)
theorem UQ (c : C4) : (c4 c).length = 4 := rfl
theorem qb (t : TL) : (tc t).length = 256 := by rw [gi UQ, t.h]
theorem k7 (t : TL) : (tc t).all (·.oneCell') = true := jF (fun _ => rfl) t.l
def nT (c : C4) : TL := ⟨qbs 64 c, by simp⟩
def zT : TL := nT zC4
def TL.get (t : TL) (i : Nat) : C4 := t.l.getD i zC4
def TL.set (t : TL) (i : Nat) (c : C4) : TL := ⟨t.l.set i c, by rw [List.length_set, t.h]⟩
def wv (b : Bool) (n : Int) : Int := match b with | true => 0 | false => n
theorem KF (t : TL) (i : Nat) (c : C4) : (t.l.set i c).flatMap c4 = tc (t.set i c) := rfl
theorem VA {α : Type} {f : List Value → List Value → Option Bool} {en : α → List Value} {sz : Nat} [DecidableEq α] (hen : ∀ a, (en a).length = sz) (hf : ∀ a b, f (en a) (en b) = some (decide (a = b))) :
  ∀ (l r : List α), l.length = r.length → eqA f sz l.length (l.flatMap en) (r.flatMap en) = some (decide (l = r))
 | [], [], _ => by simp [eqA]
 | a :: l, b :: r, h => by
  have e1 : ((a :: l).flatMap en).take sz = en a := by rw [qbB, ← hen a, List.take_left]
  have e2 : ((b :: r).flatMap en).take sz = en b := by rw [qbB, ← hen b, List.take_left]
  have e3 : ((a :: l).flatMap en).drop sz = l.flatMap en := by rw [qbB, ← hen a, List.drop_left]
  have e4 : ((b :: r).flatMap en).drop sz = r.flatMap en := by rw [qbB, ← hen b, List.drop_left]
  rw [qbC, eqA, e1, e2, e3, e4, hf, VA hen hf l r (by simpa using h)]
  simp only [Option.some.injEq]
  rw [Bool.eq_iff_iff]
  simp
 | [], _ :: _, h => by simp at h
 | _ :: _, [], h => by simp at h
def eqC (a b : C4) : Bool := (a.r == b.r) && ((a.g == b.g) && ((a.b == b.b) && ((a.a == b.a) && true)))
theorem VB {u v : C4} : eqC u v = decide (u = v) := by
 obtain ⟨r, g, b, a⟩ := u
 obtain ⟨r', g', b', a'⟩ := v
 rw [Bool.eq_iff_iff]
 simp [eqC]
def KG (c : C4) : Nat → TL
 | 0 => zT
 | k + 1 => (KG c k).set k c
theorem Wo (c : C4) (k : Nat) : KG c (k + 1) = (KG c k).set k c := rfl
theorem H7 (c : C4) {i : Nat} (h : i < 64) : (nT c).l[i]? = some c := by
 show (qbs 64 c)[i]? = _
 rw [List.getElem?_replicate, if_pos h]
theorem VC (c : C4) : ∀ (k i : Nat), i < 64 → (KG c k).l[i]? = some (if i < k then c else zC4)
 | 0, i, h => by rw [KG, zT, H7 _ h]; simp
 | k + 1, i, h => by
  rw [KG]
  show ((KG c k).l.set k c)[i]? = _
  rw [List.getElem?_set]
  by_cases e : k = i
  ·subst e; simp [(KG c k).h, h]
  ·rw [if_neg e, VC c k i h]
   by_cases g : i < k
   ·rw [if_pos g, if_pos (by omega)]
   ·rw [if_neg g, if_neg (by omega)]
theorem UR (c : C4) : KG c 64 = nT c := by
 apply TL.ext
 apply List.ext_getElem?
 intro i
 by_cases h : i < 64
 ·rw [VC c 64 i h, if_pos h, H7 c h]
 ·rw [qbN (by rw [(KG c 64).h]; omega), qbN (by rw [(nT c).h]; omega)]
theorem bn_t {b : Bool} (h : (!b) = true) : b = false := by cases b <;> simp_all
theorem bn_f {b : Bool} (h : (!b) = false) : b = true := by cases b <;> simp_all
structure Dt where
 x : Int
 y : Int
 c : C4
deriving DecidableEq
def jV (w h : Int) : Bool := decide (1 ≤ w) && decide (w ≤ 4) && decide (1 ≤ h) && decide (h ≤ 4)
theorem KH {w h : Int} (hm : jV w h = true) : (1 ≤ w ∧ w ≤ 4) ∧ (1 ≤ h ∧ h ≤ 4) := by
 unfold jV at hm
 simp at hm
 omega
def onS (w h x y : Int) : Bool := decide (0 ≤ x) && decide (x < w * 8) && decide (0 ≤ y) && decide (y < h * 8)
def plN (w x y : Int) : Nat := (y / 8 * w + x / 8).toNat
def pxN (x y : Int) : Nat := (y % 8 * 8 + x % 8).toNat
def putC (w h : Int) (ts : List TL) (d : Dt) : List TL := if onS w h d.x d.y = true then ts.set (plN w d.x d.y) ((ts.getD (plN w d.x d.y) zT).set (pxN d.x d.y) d.c) else ts
theorem US (w h : Int) (ts : List TL) (d : Dt) : (putC w h ts d).length = ts.length := by unfold putC; split <;> simp
abbrev cvD (w h : Int) (ds : List D) : D := .dpm [.val (.int .i64 w), .val (.int .i64 h), .slm 1 ds.length ds]
abbrev shD (w h : Int) (ts : List TL) : D := .agg [.val (.int .i64 w), .val (.int .i64 h), .slf 256 ts.length (ts.flatMap tc)]
structure RowOk (ds : List D) (ts : List TL) : Prop where
 len : ds.length = ts.length
 nl : D.nlL ds = true
 oc : ds.all D.oc2 = true
 wk : ∀ (q : Nat) d t, ds[q]? = some d → ts[q]? = some t → Wk d (.dpf (tc t))
structure CvOk (w h : Int) (ts : List TL) : Prop where
 may : jV w h = true
 len : (ts.length : Int) = w * h
theorem CvOk.le {w h : Int} {ts : List TL} (hc : CvOk w h ts) : ts.length ≤ 16 ∧ 1 ≤ ts.length := by
 have hb := KH hc.may
 have h1 : w * h ≤ 4 * 4 := Int.mul_le_mul hb.1.2 hb.2.2 (by omega) (by omega)
 have h2 : 1 * 1 ≤ w * h := Int.mul_le_mul hb.1.1 hb.2.1 (by omega) (by omega)
 have := hc.len
 omega
abbrev dpR (ts : List TL) : List D := ts.map fun t => .dpf (tc t)
theorem A9 (ts : List TL) : RowOk (dpR ts) ts := by
 refine ⟨by simp, ?_, by simp [D.oc2], fun q d t h1 h2 => ?_⟩
 ·induction ts with
  | nil => rfl
  | cons t ts ih => rw [dpR, List.map_cons, D.nlL]; exact ih
 ·rw [List.getElem?_map, h2] at h1
  cases h1
  exact Wk.refl _
theorem RowOk.at {ds : List D} {ts : List TL} (h : RowOk ds ts) {q : Nat} (hq : q < ts.length) : ∃ d, ds[q]? = some d ∧ d ∈ ds ∧ d.nl = true ∧ d.oc2 = true ∧ Wk d (.dpf (tc (ts.getD q zT))) := by
 have hq2 : q < ds.length := by rw [h.len]; exact hq
 refine ⟨ds[q], qbe hq2, List.getElem_mem hq2, jC h.nl (qbe hq2), qbL.1 h.oc _ (List.getElem_mem hq2), ?_⟩
 refine h.wk q _ _ (qbe hq2) ?_
 rw [qbI, qbe hq]
 rfl
theorem RowOk.wkd {ds : List D} {ts : List TL} (h : RowOk ds ts) (w hh : Int) : Wk (cvD w hh ds) (cvD w hh (dpR ts)) := by
 have hl : WkL ds (dpR ts) := ⟨by simp [h.len], fun j d d' h1 h2 => by
  rw [List.getElem?_map] at h2
  cases e : ts[j]? with
  | none => rw [e] at h2; cases h2
  | some t => rw [e] at h2; cases h2; exact h.wk j d t h1 e⟩
 have hn : D.nlL (dpR ts) = true := (A9 ts).nl
 have e : (dpR ts).length = ds.length := by simp [h.len]
 rw [cvD, cvD, e]
 exact Wk.dpm (.cons (.refl _) (.cons (.refl _) (.cons (Wk.slm hl hn) .nil))) (by simp [D.nlL, D.nl])
def kR (w h : Int) (ts : List TL) : Bool := jV w h && decide ((ts.length : Int) = w * h)
theorem CvOk.right {w h : Int} {ts : List TL} (hc : CvOk w h ts) : kR w h ts = true := by
 unfold kR
 rw [hc.may, decide_eq_true hc.len]
 rfl
theorem wg {w h : Int} (hm : jV w h = true) : 1 ≤ w * h ∧ w * h ≤ 16 := by
 have hb := KH hm
 have h1 : w * h ≤ 4 * 4 := Int.mul_le_mul hb.1.2 hb.2.2 (by omega) (by omega)
 have h2 : 1 * 1 ≤ w * h := Int.mul_le_mul hb.1.1 hb.2.1 (by omega) (by omega)
 omega
theorem CvOk.put {w h : Int} {ts : List TL} (hc : CvOk w h ts) (d : Dt) : CvOk w h (putC w h ts d) := ⟨hc.may, by rw [US]; exact hc.len⟩
structure I3 where
 t : Int
 s : Int
 q : Int
deriving DecidableEq
def UT (n : Int) : Bool := decide (1 ≤ n) && decide (n ≤ 4611686018427387904)
def isSt (n : Int) : Bool := decide (1 ≤ n) && decide (n ≤ 8)
def xy (i : I3) : Bool := UT i.t && (isSt i.s && UT i.q)
def lessR (a b : I3) : Bool := if a.t ≠ b.t then decide (a.t < b.t) else if a.s ≠ b.s then decide (a.s < b.s) else decide (a.q < b.q)
def zI3 : I3 := ⟨0, 0, 0⟩
structure OpM where
 id : I3
 kd : Int
 x : Int
 y : Int
 x2 : Int
 y2 : Int
 sz : Int
 co : C4
 sw : Int
 sh : Int
 px : List C4
 tg : I3
deriving DecidableEq
abbrev pxD (l : List C4) : D := .slf 4 l.length (l.flatMap c4)
def opD (o : OpM) : List D := [.val (.int .u64 o.id.t), .val (.int .i64 o.id.s), .val (.int .u64 o.id.q), .val (.int .i64 o.kd), .val (.int .i64 o.x), .val (.int .i64 o.y), .val (.int .i64 o.x2), .val (.int .i64 o.y2), .val (.int .i64 o.sz),
 .val (.int .u8 o.co.r), .val (.int .u8 o.co.g), .val (.int .u8 o.co.b), .val (.int .u8 o.co.a), .val (.int .i64 o.sw), .val (.int .i64 o.sh), pxD o.px, .val (.int .u64 o.tg.t), .val (.int .i64 o.tg.s), .val (.int .u64 o.tg.q)]
def drB (n : Int) : Bool := decide (-64 ≤ n) && decide (n ≤ 127)
def siD (n : Int) : Bool := decide (1 ≤ n) && decide (n ≤ 8)
def stB (w h : Int) (l : List C4) : Bool := siD w && siD h && decide ((l.length : Int) = w * h)
def mostK (k : Int) : Int := if k = 5 then 1020 else if k = 1 ∨ k = 2 then 15 else 0
def opB (o : OpM) : Bool :=
 (decide (1 ≤ o.kd) && decide (o.kd ≤ 8)) && xy o.id
 && (if o.kd ≤ 6 then drB o.x && drB o.y else decide (o.x = 0) && decide (o.y = 0))
 && (if o.kd ≤ 4 then drB o.x2 && drB o.y2 else decide (o.x2 = 0) && decide (o.y2 = 0))
 && (if o.kd = 1 ∨ o.kd = 2 ∨ o.kd = 5 then decide (0 ≤ o.sz) && decide (o.sz ≤ mostK o.kd) else decide (o.sz = 0))
 && (decide (o.kd ≤ 5) || decide (o.co = zC4))
 && (if o.kd = 6 then stB o.sw o.sh o.px else decide (o.sw = 0) && decide (o.sh = 0) && decide (o.px = []))
 && (if 7 ≤ o.kd then xy o.tg && lessR o.tg o.id else decide (o.tg = zI3))
abbrev Vec := Nat → Nat
def c9 (v : Vec) : List Value := [.int .u64 (v 0), .int .u64 (v 1), .int .u64 (v 2), .int .u64 (v 3), .int .u64 (v 4), .int .u64 (v 5), .int .u64 (v 6), .int .u64 (v 7), .int .u64 (v 8)]
def upV {α : Type} (v : Nat → α) (j : Nat) (x : α) : Nat → α := fun i => if i = j then x else v i
theorem lt9 {P : Nat → Prop} (h0 : P 0) (h1 : P 1) (h2 : P 2) (h3 : P 3) (h4 : P 4) (h5 : P 5) (h6 : P 6) (h7 : P 7) (h8 : P 8) : ∀ j, j < 9 → P j
 | 0, _ => h0 | 1, _ => h1 | 2, _ => h2 | 3, _ => h3 | 4, _ => h4 | 5, _ => h5 | 6, _ => h6 | 7, _ => h7 | 8, _ => h8
 | n + 9, h => absurd h (by omega)
theorem GE (v : Vec) : (c9 v).length = 9 := rfl
theorem UU (v : Vec) : ∀ j, j < 9 → (c9 v)[j]? = some (.int .u64 (v j)) := lt9 rfl rfl rfl rfl rfl rfl rfl rfl rfl
theorem qaa (v : Vec) (x : Nat) : ∀ j, j < 9 → (c9 v).set j (.int .u64 x) = c9 (upV v j x) := lt9 rfl rfl rfl rfl rfl rfl rfl rfl rfl
def z9 : Vec := fun _ => 0
structure Pl where
 inn : Bool
 fl : Nat
 fs : Nat
 has : Vec
structure FrM where
 fo : Nat
 bv : Vec
 pr : Nat
 st : Nat → Pl
def FrM.sw (f : FrM) (j : Nat) (p : Pl) : FrM := { f with st := upV f.st j p }
def eqV (v w : Vec) : Bool := (qbW 9).all fun i => v i == w i
theorem all9 {P : Nat → Bool} : (qbW 9).all P = true ↔ ∀ i, i < 9 → P i = true := by
 simp
abbrev LAST : Nat := 4611686018427387904
def vB (v : Vec) : Bool := decide (v 0 = 0) && (qbW 9).all fun i => decide (v i ≤ LAST)
theorem vB_iff {v : Vec} : vB v = true ↔ v 0 = 0 ∧ ∀ i, i < 9 → v i ≤ LAST := by
 unfold vB
 rw [qbi, all9]
 simp
def flL (n : Nat) (l : List Pl) : Nat := l.foldl (fun m q => max m q.fl) n
def KI (v : Vec) (i : Nat) : Prop := v i ≤ 4611686018427387904 ∧ (i = 0 → v i = 0)
theorem vB_all {v : Vec} : vB v = true ↔ ∀ i, i < 9 → KI v i := by
 rw [vB_iff]
 constructor
 ·intro h i hi
  exact ⟨h.2 i hi, fun e => by rw [e]; exact h.1⟩
 ·intro h
  exact ⟨(h 0 (by omega)).2 rfl, fun i hi => (h i hi).1⟩
theorem H8 {v : Vec} {i : Nat} (hi : i < 9) (h : ¬ KI v i) : vB v = false := by
 rw [← Bool.not_eq_true, vB_all]
 exact fun e => h (e i hi)
theorem JJ {v : Vec} {k : Nat} (h : ∀ i, i < k → KI v i) (hk : KI v k) : ∀ i, i < k + 1 → KI v i := fun i hi => by
 by_cases e : i = k
 ·rw [e]; exact hk
 ·exact h i (by omega)
theorem qab {v : Vec} (h : ∀ i, i < 9 → v i = 0) : vB v = true := vB_all.2 fun i hi => ⟨by rw [h i hi]; omega, fun _ => h i hi⟩
theorem zQ {v : Vec} {x p j : Nat} (hp : p = j) (hj : j < 9) : (c9 v).set p (.int .u64 x) = c9 (upV v j x) := by rw [hp]; exact qaa v x j hj
def eqn (a b : Nat) : Bool := (a : Int) == (b : Int)
theorem qac (a b : Nat) : eqn a b = (a == b) := by
 unfold eqn
 rw [Bool.eq_iff_iff]
 simp
 omega
def eqVx (v w : Vec) : Bool := eqn (v 0) (w 0) && (eqn (v 1) (w 1) && (eqn (v 2) (w 2) && (eqn (v 3) (w 3) && (eqn (v 4) (w 4) && (eqn (v 5) (w 5) && (eqn (v 6) (w 6) && (eqn (v 7) (w 7) && (eqn (v 8) (w 8) && true))))))))
theorem ZW (v w : Vec) : eqVx v w = eqV v w := by
 unfold eqVx eqV
 simp only [qac, qbW, List.range.loop, List.all_cons, List.all_nil]
theorem qad {v : Vec} (h : eqV v z9 = true) : vB v = true := qab fun i hi => by
 unfold eqV at h
 rw [all9] at h
 simpa [z9] using h i hi
def uc8 (n : Int) : List Value := [.int .u8 n]
def ic (n : Int) : List Value := [.int .i64 n]
def uc (n : Int) : List Value := [.int .u64 n]
def isW (n : Int) : Bool := decide (1 ≤ n) && decide (n ≤ 8)
def JK (w : Nat) (n : Int) : Bool := decide (w = 8) || decide (n / 2 ^ (8 * w) = 0)
def Wp (n : Int) : Nat → List Int
 | 0 => qbs 8 0
 | k + 1 => (Wp n k).set (7 - k) (IntKind.u8.wrap (n / 2 ^ (8 * k)))
theorem xz (n : Int) : ∀ k, (Wp n k).length = 8
 | 0 => rfl
 | k + 1 => by rw [Wp, List.length_set, xz n k]
def wh (w : Nat) (n : Int) : List Int := (Wp n 8).drop (8 - w)
theorem QN {w : Nat} {n : Int} (h : w ≤ 8) : (wh w n).length = w := by rw [wh, qbF, xz]; omega
theorem GF {n : Int} : isW n = true ↔ 1 ≤ n ∧ n ≤ 8 := by simp [isW]
theorem ZX (n : Int) : (uc8 n).length = 1 := rfl
theorem fl8 (l : List Int) : (l.flatMap uc8).length = l.length := by rw [gi ZX, Nat.mul_one]
theorem VD {A B : List Value} {z : Value} {p m r : Nat} (hp : p = A.length) (hm : B.length = m) : ge (A ++ qbs (m + r) z) p B = A ++ B ++ qbs r z := by
 subst hp hm
 rw [gV _ _ _ (by simp), List.take_left, List.drop_append]
 congr 1
 rw [List.drop_of_length_le (by omega), qbq, List.drop_replicate]
 congr 1
 omega
theorem beh2 (l1 l2 : List Int) {z : Value} (p0 p1 k1 k2 : Nat) (h0 : p0 = 0) (h1 : k1 = l1.length) (h2 : p1 = l1.length) (h3 : k2 = l2.length) :
  ge (ge (qbs (l1.length + l2.length) z) p0 ((l1.flatMap uc8).take k1)) p1 ((l2.flatMap uc8).take k2) = (l1 ++ l2).flatMap uc8 := by
 rw [qbJ (by rw [fl8]; omega), qbJ (by rw [fl8]; omega)]
 have e1 := VD (A := []) (B := l1.flatMap uc8) (z := z) (p := p0) (m := l1.length) (r := l2.length) h0 (fl8 _)
 rw [qbq, qbq] at e1
 rw [e1]
 have e2 := VD (A := l1.flatMap uc8) (B := l2.flatMap uc8) (z := z) (p := p1) (m := l2.length) (r := 0) (by rw [fl8]; exact h2) (fl8 _)
 rw [Nat.add_zero] at e2
 rw [e2, List.flatMap_append]
 simp
def Wq (acc b : Int) : Int := orZ .u64 (IntKind.u64.wrap (acc * 2 ^ 8)) (IntKind.u64.wrap b)
def kw (w : Nat) (l : List Int) : Int := (l.take w).foldl Wq 0
theorem Wr {k : Nat} {l : List Int} (h : k < l.length) : kw (k + 1) l = Wq (kw k l) l[k] := by
 rw [kw, qbK h, List.foldl_append]; rfl
theorem UV {w : Nat} {l : List Int} (h : l.length ≤ w) : kw w l = kw l.length l := by
 rw [kw, kw, qbJ h, List.take_length]
def uS (n : Int) : Nat → List Int
 | 0 => []
 | k + 1 => IntKind.u8.wrap (n / 256 ^ k % 256) :: uS n k
theorem Ws (a w : Nat) : uS (a : Int) (w + 1) = ((a / 256 ^ w % 256 : Nat) : Int) :: uS (a : Int) w := by
 rw [uS]
 congr 1
 have e : ((a : Int) / 256 ^ w % 256) = ((a / 256 ^ w % 256 : Nat) : Int) := by
  rw [Int.natCast_emod, Int.natCast_ediv, Int.natCast_pow]; rfl
 rw [e]
 exact IntWalk.u8_in _ (by omega)
theorem Wt (n : Int) : ∀ w : Nat, 1 ≤ w ∧ w ≤ 8 → wh w n = uS n w := by
 intro w hw
 have wr : ∀ x : Int, IntKind.u8.wrap x = IntKind.u8.wrap (x % 256) := fun x => by rw [IntKind.wrap_u8, IntKind.wrap_u8]; omega
 have : w = 1 ∨ w = 2 ∨ w = 3 ∨ w = 4 ∨ w = 5 ∨ w = 6 ∨ w = 7 ∨ w = 8 := by omega
 rcases this with rfl | rfl | rfl | rfl | rfl | rfl | rfl | rfl <;> simp [wh, Wp, uS, ← wr]
theorem H9 : arE Tryz.prog 168 = some (8, 1) := by kernel_rfl
theorem YD : arE Tryz.prog 27 = some (9, 1) := by kernel_rfl
theorem vE : arE Tryz.prog 84 = some (64, 4) := by kernel_rfl
theorem aw27 : arW Tryz.prog 27 = some 9 := by kernel_rfl
theorem eq27 {v w : Vec} : eqT Tryz.prog 9 27 (c9 v) (c9 w) = some (eqV v w) := by
 rw [← ZW]; kernel_rfl
theorem UW {a b : C4} : eqT Tryz.prog 9 82 (c4 a) (c4 b) = some (decide (a = b)) := by
 rw [← VB]
 exact (show eqT Tryz.prog 9 82 [.int .u8 a.r, .int .u8 a.g, .int .u8 a.b, .int .u8 a.a] [.int .u8 b.r, .int .u8 b.g, .int .u8 b.b, .int .u8 b.a] = some (eqC a b) by kernel_rfl)
theorem xA {t u : TL} : eqT Tryz.prog 9 84 (tc t) (tc u) = some (decide (t = u)) := by
 have h : ∀ a b : C4, eqT Tryz.prog 8 82 (c4 a) (c4 b) = some (decide (a = b)) := fun a b => by
  rw [← VB]
  exact (show eqT Tryz.prog 8 82 [.int .u8 a.r, .int .u8 a.g, .int .u8 a.b, .int .u8 a.a] [.int .u8 b.r, .int .u8 b.g, .int .u8 b.b, .int .u8 b.a] = some (eqC a b) by kernel_rfl)
 have h2 := VA (en := c4) UQ h t.l u.l (by rw [t.h, u.h])
 rw [t.h] at h2
 have h3 : eqT Tryz.prog 9 84 (tc t) (tc u) = eqA (eqT Tryz.prog 8 82) 4 64 (tc t) (tc u) := by
  have e1 : Tryz.prog.underlying 84 = some (.array 64 82) := by kernel_rfl
  obtain ⟨_, i, _, e3, _, e4⟩ := gh (show tyB Tryz.prog 82 = some (true, 4) by kernel_rfl)
  unfold eqT
  simp only [e1, e3, e4]
 refine h3.trans (h2.trans ?_)
 congr 1
 rw [Bool.eq_iff_iff]
 simp only [decide_eq_true_eq]
 exact ⟨TL.ext, fun e => by rw [e]⟩
theorem UX : fdL Tryz.prog 122 = some [(0, 1), (1, 1)] := by kernel_rfl
theorem fl130 : fdL Tryz.prog 130 = some [(0, 1)] := by kernel_rfl
theorem UY : fdL Tryz.prog 150 = some [(0, 1), (1, 1)] := by kernel_rfl
theorem VE : fdL Tryz.prog 158 = some [(0, 3), (3, 1), (4, 1)] := by kernel_rfl
theorem Aa : fdL Tryz.prog 178 = some [(0, 1), (1, 19)] := by kernel_rfl
theorem YE : fdL Tryz.prog 181 = some [] := by kernel_rfl
theorem YF : fdL Tryz.prog 196 = some [(0, 1), (1, 4)] := by kernel_rfl
theorem fl203 : fdL Tryz.prog 203 = some [(0, 1)] := by kernel_rfl
theorem fl206 : fdL Tryz.prog 206 = some [(0, 2)] := by kernel_rfl
theorem fl210 : fdL Tryz.prog 210 = some [(0, 2), (2, 1)] := by kernel_rfl
theorem Wu : fdL Tryz.prog 24 = some [(0, 1), (1, 1), (2, 1)] := by kernel_rfl
theorem YG : fdL Tryz.prog 82 = some [(0, 1), (1, 1), (2, 1), (3, 1)] := by kernel_rfl
theorem GG : fdO Tryz.prog 122 0 = some 0 := by kernel_rfl
theorem GH : fdO Tryz.prog 122 1 = some 1 := by kernel_rfl
theorem ZY : fdO Tryz.prog 130 0 = some 0 := by kernel_rfl
theorem GI : fdO Tryz.prog 140 1 = some 19 := by kernel_rfl
theorem um : fdO Tryz.prog 150 0 = some 0 := by kernel_rfl
theorem yQ : fdO Tryz.prog 150 1 = some 1 := by kernel_rfl
theorem jn : fdO Tryz.prog 158 0 = some 0 := by kernel_rfl
theorem gd : fdO Tryz.prog 158 1 = some 3 := by kernel_rfl
theorem ja : fdO Tryz.prog 158 2 = some 4 := by kernel_rfl
theorem wj : fdO Tryz.prog 178 0 = some 0 := by kernel_rfl
theorem g8 : fdO Tryz.prog 196 0 = some 0 := by kernel_rfl
theorem yB : fdO Tryz.prog 196 1 = some 1 := by kernel_rfl
theorem ZZ : fdO Tryz.prog 203 0 = some 0 := by kernel_rfl
theorem gH : fdO Tryz.prog 206 0 = some 0 := by kernel_rfl
theorem VF : fdO Tryz.prog 210 1 = some 2 := by kernel_rfl
theorem gJ : fdO Tryz.prog 24 0 = some 0 := by kernel_rfl
theorem gK : fdO Tryz.prog 24 1 = some 1 := by kernel_rfl
theorem jR : fdO Tryz.prog 24 2 = some 2 := by kernel_rfl
theorem UZ : fdO Tryz.prog 82 0 = some 0 := by kernel_rfl
theorem U0 : fdO Tryz.prog 82 1 = some 1 := by kernel_rfl
theorem U1 : fdO Tryz.prog 82 2 = some 2 := by kernel_rfl
theorem U2 : fdO Tryz.prog 82 3 = some 3 := by kernel_rfl
theorem gd27 : Tryz.prog.eqGuardType Tryz.prog.depth 27 = false := by kernel_rfl
theorem U3 : Tryz.prog.eqGuardType Tryz.prog.depth 82 = false := by kernel_rfl
theorem xB : Tryz.prog.eqGuardType Tryz.prog.depth 84 = false := by kernel_rfl
theorem kn25 : knd Tryz.prog 25 = some .u64 := by kernel_rfl
theorem kn3 : knd Tryz.prog 3 = some .i64 := by kernel_rfl
theorem kn5 : knd Tryz.prog 5 = some .u8 := by kernel_rfl
theorem U4 : niF Tryz.prog 130 = true := by kernel_rfl
theorem KJ : niF Tryz.prog 181 = true := by kernel_rfl
theorem U5 : niF Tryz.prog 203 = true := by kernel_rfl
theorem VG : ptT Tryz.prog 174 = some 206 := by kernel_rfl
theorem JL : slE Tryz.prog 127 = some (25, 1, 8) := by kernel_rfl
theorem Ab : slE Tryz.prog 208 = some (194, 1, 8) := by kernel_rfl
theorem jo : slE Tryz.prog 22 = some (84, 256, 256) := by kernel_rfl
theorem qg : slE Tryz.prog 30 = some (5, 1, 1) := by kernel_rfl
theorem uT : slE Tryz.prog 47 = some (3, 1, 8) := by kernel_rfl
theorem g9 : slE Tryz.prog 59 = some (30, 1, 24) := by kernel_rfl
theorem KK : tyB Tryz.prog 122 = some (true, 2) := by kernel_rfl
theorem Ac : tyB Tryz.prog 130 = some (true, 1) := by kernel_rfl
theorem tb144 : tyB Tryz.prog 144 = some (false, 1) := by kernel_rfl
theorem Ad : tyB Tryz.prog 146 = some (false, 1) := by kernel_rfl
theorem VH : tyB Tryz.prog 158 = some (true, 5) := by kernel_rfl
theorem tb173 : tyB Tryz.prog 173 = some (false, 1) := by kernel_rfl
theorem gA : tyB Tryz.prog 174 = some (false, 1) := by kernel_rfl
theorem Ae : tyB Tryz.prog 181 = some (true, 0) := by kernel_rfl
theorem U6 : tyB Tryz.prog 183 = some (false, 1) := by kernel_rfl
theorem Af : tyB Tryz.prog 194 = some (false, 1) := by kernel_rfl
theorem JN : tyB Tryz.prog 196 = some (true, 5) := by kernel_rfl
theorem Ag : tyB Tryz.prog 203 = some (true, 1) := by kernel_rfl
theorem Ah : tyB Tryz.prog 208 = some (false, 1) := by kernel_rfl
theorem vS : tyB Tryz.prog 22 = some (false, 1) := by kernel_rfl
theorem gm : tyB Tryz.prog 24 = some (true, 3) := by kernel_rfl
theorem kC : tyB Tryz.prog 25 = some (false, 1) := by kernel_rfl
theorem jx : tyB Tryz.prog 27 = some (true, 9) := by kernel_rfl
theorem tb3 : tyB Tryz.prog 3 = some (false, 1) := by kernel_rfl
theorem jg : tyB Tryz.prog 30 = some (false, 1) := by kernel_rfl
theorem kc : tyB Tryz.prog 34 = some (false, 1) := by kernel_rfl
theorem tb5 : tyB Tryz.prog 5 = some (false, 1) := by kernel_rfl
theorem yG : tyB Tryz.prog 82 = some (true, 4) := by kernel_rfl
theorem qS : tyB Tryz.prog 84 = some (true, 256) := by kernel_rfl
theorem ty25 : (tyB Tryz.prog 25).isSome = true := by kernel_rfl
theorem ty3 : (tyB Tryz.prog 3).isSome = true := by kernel_rfl
theorem ty5 : (tyB Tryz.prog 5).isSome = true := by kernel_rfl
theorem JO : zrC Tryz.prog 122 = some [.int .i64 0, .int .i64 0] := by kernel_rfl
theorem U7 : zrC Tryz.prog 130 = some [.int .i64 0] := by kernel_rfl
theorem zr140 : zrC Tryz.prog 140 = some [.int .u64 0, .int .i64 0, .int .u64 0, .int .i64 0, .int .i64 0, .int .i64 0, .int .i64 0, .int .i64 0, .int .i64 0, .int .u8 0, .int .u8 0, .int .u8 0, .int .u8 0, .int .i64 0, .int .i64 0, .slice none 0 0, .int .u64 0, .int .i64 0, .int .u64 0, .slice none 0 0] := by kernel_rfl
theorem YH : zrC Tryz.prog 150 = some [.slice none 0 0, .int .i64 0] := by kernel_rfl
theorem zu : zrC Tryz.prog 158 = some [.int .i64 0, .int .i64 0, .slice none 0 0, .slice none 0 0, .int .i64 0] := by kernel_rfl
theorem zr168 : zrC Tryz.prog 168 = some [.int .u8 0, .int .u8 0, .int .u8 0, .int .u8 0, .int .u8 0, .int .u8 0, .int .u8 0, .int .u8 0] := by kernel_rfl
theorem Ai : zrC Tryz.prog 178 = some [.pointer none, .int .u64 0, .int .i64 0, .int .u64 0, .int .i64 0, .int .i64 0, .int .i64 0, .int .i64 0, .int .i64 0, .int .i64 0, .int .u8 0, .int .u8 0, .int .u8 0, .int .u8 0, .int .i64 0, .int .i64 0, .slice none 0 0, .int .u64 0, .int .i64 0, .int .u64 0] := by kernel_rfl
theorem KL : zrC Tryz.prog 181 = some [] := by kernel_rfl
theorem Aj : zrC Tryz.prog 194 = some [.pointer none] := by kernel_rfl
theorem uB : zrC Tryz.prog 196 = some [.int .i64 0, .int .u8 0, .int .u8 0, .int .u8 0, .int .u8 0] := by kernel_rfl
theorem U8 : zrC Tryz.prog 203 = some [.int .i64 0] := by kernel_rfl
theorem zr206 : zrC Tryz.prog 206 = some [.slice none 0 0, .int .i64 0] := by kernel_rfl
theorem zr210 : zrC Tryz.prog 210 = some [.int .i64 0, .int .i64 0, .slice none 0 0] := by kernel_rfl
theorem uv : zrC Tryz.prog 24 = some [.int .i64 0, .int .i64 0, .slice none 0 0] := by kernel_rfl
theorem zr25 : zrC Tryz.prog 25 = some [.int .u64 0] := by kernel_rfl
theorem wl : zrC Tryz.prog 27 = some (c9 z9) := by kernel_rfl
theorem zr3 : zrC Tryz.prog 3 = some [.int .i64 0] := by kernel_rfl
theorem U9 : zrC Tryz.prog 30 = some [.slice none 0 0] := by kernel_rfl
theorem gB : zrC Tryz.prog 34 = some [.int .i64 0] := by kernel_rfl
theorem zr5 : zrC Tryz.prog 5 = some [.int .u8 0] := by kernel_rfl
theorem GJ : zrC Tryz.prog 82 = some [.int .u8 0, .int .u8 0, .int .u8 0, .int .u8 0] := by kernel_rfl
theorem kN : zrC Tryz.prog 84 = some (tc zT) := by kernel_rfl
theorem zv130 : zrV Tryz.prog 130 = some (.agg #[.int .i64 0]) := by kernel_rfl
theorem zv181 : zrV Tryz.prog 181 = some (.agg #[]) := by kernel_rfl
theorem zv203 : zrV Tryz.prog 203 = some (.agg #[.int .i64 0]) := by kernel_rfl
end Go.Proofs.YtofklkbfkoliiaaGreat
namespace Go.Proofs.YtofklkbfkoliiaaGreat
set_option linter.unusedVariables false
set_option linter.unusedSimpArgs false
open Go.RowKit
theorem xC (v : Vec) : DFun Tryz.prog 42 [.val (.agg (c9 v).toArray)] [] (.val (.int .i64 (wv (vB v) 230))) [] := by
 refine zap (N := 24) 0 (by kernel_rfl) Tryz.func42 rfl rfl rfl (by simp only [fr0, qbh, qbj]; exact rfl) rfl fun s0 hs0 => ?_
 refine zad ?_
 refine zam 1 ?_
 refine zac ?_
 refine zal rfl (j8 0 rfl (ev1 rfl) rfl) ?_
 refine zaa 1 rfl ?_
 refine zab ?_
 refine zad ?_
 refine zai ?_
 refine za rfl (qL rfl jx (ev1 rfl) rfl rfl) ?_
 refine za rfl (js rfl YD wl) ?_
 refine za rfl (jY eq27 rfl gd27 jx (ev1 rfl) (ev1 rfl)) ?_
 refine zab ?_
 refine qi rfl (fun c1 => ?_) (fun c1 => ?_)
 ·refine zai ?_
  refine zaa 1 rfl ?_
  refine zab ?_
  refine zau ?_
  refine qo (rs1 rfl (qB rfl)) rfl ?_
  rw [qad c1]
  rfl
 ·refine zao ?_
  refine zad ?_
  refine zai ?_
  refine za rfl (qL rfl jx (ev1 rfl) rfl rfl) ?_
  refine zaa 1 rfl ?_
  refine zab ?_
  refine zav ?_
  refine qE ⟨hs0, rfl⟩ (α := Nat) (fun k => [(9, .val (.int .i64 (k : Int)))]) [(8, _)] (fun k => []) [_] (fun k => k ≤ 9 ∧ ∀ i, i < k → KI v i) (fun k => 9 - k) 0 [0] (⟨by omega, fun i hi => absurd hi (by omega)⟩) rfl ⟨rfl, trivial⟩ ⟨rfl, trivial⟩ ⟨rfl, trivial⟩ ?_
  intro k hx
  simp only [upd, zaf, zag, qbp, qbq]
  obtain ⟨hk, he⟩ := hx
  refine zai ?_
  refine za rfl (qq rfl (ev1 rfl) (ev1 rfl)) ?_
  refine zab ?_
  refine zad ?_
  refine qi rfl (fun c2 => ?_) (fun c2 => ?_)
  ·try simp only [decide_eq_true_eq, decide_eq_false_iff_not, beq_iff_eq, bne_iff_ne, beq_eq_false_iff_ne, bne_eq_false_iff_eq, qbl, qbm, qbi, qbo, qbk, ne_eq, Decidable.not_not, qbz, qbA] at c2
   refine zao ?_
   refine zad ?_
   refine zav ?_
   refine zai ?_
   refine zaa 1 rfl ?_
   refine za rfl (UL (k) rfl aw27 (ev1 rfl) (ev1 rfl) (fun _ => rfl) (by omega) (UU v _ (by omega))) ?_
   refine zaa 2 rfl ?_
   refine zab ?_
   refine zai ?_
   refine zaa 1 rfl ?_
   refine za rfl (kg rfl (ev1 rfl) (ev1 rfl)) ?_
   refine zaa 1 rfl ?_
   refine zah (qa rfl rfl rfl) rfl rfl rfl (zaj (.inl rfl) (ev1 rfl)) ?_
   refine zah (qa rfl rfl rfl) rfl rfl rfl (qj rfl (ev2 rfl) (ev1 rfl)) ?_
   refine zah (qa rfl rfl rfl) rfl rfl rfl (zaj (.inl rfl) (ev2 rfl)) ?_
   refine zah (jj rfl rfl rfl) rfl rfl rfl (zaj (.inl rfl) (ev1 rfl)) ?_
   refine zah (jj rfl rfl rfl) rfl rfl rfl (kg rfl (ev2 rfl) (ev1 rfl)) ?_
   refine zah (qa rfl rfl rfl) rfl rfl rfl (qF rfl (ev2 rfl) (ev2 rfl)) ?_
   refine za rfl (qK rfl (ev1 rfl) (ev3 rfl id)) ?_
   refine zab ?_
   refine qi rfl (fun c2 => ?_) (fun c2 => ?_)
   ·try simp only [decide_eq_true_eq, decide_eq_false_iff_not, beq_iff_eq, bne_iff_ne, beq_eq_false_iff_ne, bne_eq_false_iff_eq, qbl, qbm, qbi, qbo, qbk, ne_eq, Decidable.not_not, qbz, qbA] at c2
    refine zai ?_
    refine zaa 1 rfl ?_
    refine zab ?_
    refine zau ?_
    refine qo (rs1 rfl (qB rfl)) rfl ?_
    rw [H8 (i := k) (by omega) (fun h => by unfold KI at h; omega)]
    rfl
   ·try simp only [decide_eq_true_eq, decide_eq_false_iff_not, beq_iff_eq, bne_iff_ne, beq_eq_false_iff_ne, bne_eq_false_iff_eq, qbl, qbm, qbi, qbo, qbk, ne_eq, Decidable.not_not, qbz, qbA] at c2
    have hov : KI v k := ⟨by simp at c2; omega, fun e => by simp at c2; omega⟩
    refine zao ?_
    refine zac ?_
    refine za rfl (qc rfl (ev1 rfl) (ev1 rfl) (fun _ => qbg _ (by omega))) ?_
    refine zaa 1 rfl ?_
    refine zab ?_
    refine ⟨k + 1, [0], ⟨by omega, JJ he hov⟩, by simp only []; omega, rfl, ⟨rfl, rfl, trivial⟩, ⟨rfl, trivial⟩⟩
  ·try simp only [decide_eq_true_eq, decide_eq_false_iff_not, beq_iff_eq, bne_iff_ne, beq_eq_false_iff_ne, bne_eq_false_iff_eq, qbl, qbm, qbi, qbo, qbk, ne_eq, Decidable.not_not, qbz, qbA] at c2
   refine qz ?_
   refine zai ?_
   refine zaa 1 rfl ?_
   refine zab ?_
   refine zau ?_
   refine qo (rs1 rfl (qB rfl)) rfl ?_
   rw [vB_all.2 fun i hi => he i (by omega)]
   rfl
end Go.Proofs.YtofklkbfkoliiaaGreat
namespace Go.Proofs.YtofklkbfkoliiaaGreat
set_option linter.unusedVariables false
set_option linter.unusedSimpArgs false
open Go.RowKit
theorem qae (n : Int) : DFun Tryz.prog 106 [.val (.int .i64 n)] [] (.val (.bool (isW n))) [] := by
 refine zap (N := 9) 0 (by kernel_rfl) Tryz.func106 rfl rfl rfl (by simp only [fr0, qbh, qbj]; exact rfl) rfl fun s0 hs0 => ?_
 refine zai ?_
 refine zaa 1 rfl ?_
 refine zab ?_
 refine zai ?_
 refine zaa 1 rfl ?_
 refine za rfl (gI rfl (ev1 rfl) (ev1 rfl)) ?_
 refine zaa 1 rfl ?_
 refine zah (qd rfl rfl rfl) rfl rfl rfl (zaj (.inl rfl) (ev1 rfl)) ?_
 refine zah (qd rfl rfl rfl) rfl rfl rfl (gS rfl (ev2 rfl) (ev1 rfl)) ?_
 refine za rfl (qF rfl (ev1 rfl) (ev3 rfl id)) ?_
 refine zaa 1 rfl ?_
 refine zab ?_
 refine zau ?_
 refine qo (rs1 rfl (qB rfl)) rfl ?_
 rfl
theorem qaf (l : List Int) : DFun Tryz.prog 105 [.slf 1 (l).length ((l).flatMap ic), .fn (.func 106) [] []] [] (.val (.bool (l.all isW))) [] := by
 refine zap (N := 18) 0 (by kernel_rfl) Tryz.func105 rfl rfl rfl (by simp only [fr0, qbh, qbj]; exact rfl) rfl fun s0 hs0 => ?_
 refine ko (t := 0) rfl fun hl0 hL0 => ?_
 refine zai ?_
 refine zaa 1 rfl ?_
 refine zab ?_
 refine zad ?_
 refine zai ?_
 refine zaa 1 rfl ?_
 refine za rfl (qm rfl uT (ev1 rfl)) ?_
 refine zaa 1 rfl ?_
 refine zab ?_
 refine zav ?_
 refine qE ⟨hs0, rfl⟩ (α := Nat) (fun k => [(9, .val (.int .i64 (k : Int)))]) [(1, _), (7, _), (8, _)] (fun k => []) [] (fun k => k ≤ l.length ∧ l.all isW = (l.drop k).all isW) (fun k => l.length - k) 0 [] (by simp) rfl ⟨rfl, rfl, rfl, trivial⟩ ⟨rfl, trivial⟩ trivial ?_
 intro k hx
 simp only [upd, zaf, zag, qbp, qbq]
 obtain ⟨hk, he⟩ := hx
 refine zai ?_
 refine za rfl (qq rfl (ev1 rfl) (ev1 rfl)) ?_
 refine zab ?_
 refine zad ?_
 refine qi rfl (fun c1 => ?_) (fun c1 => ?_)
 ·try simp only [decide_eq_true_eq, decide_eq_false_iff_not, beq_iff_eq, bne_iff_ne, beq_eq_false_iff_ne, bne_eq_false_iff_eq, qbl, qbm, qbi, qbo, qbk, ne_eq, Decidable.not_not, qbz, qbA] at c1
  refine zao ?_
  refine zad ?_
  refine zav ?_
  refine zai ?_
  refine za rfl (qu (j := k) rfl uT (ev1 rfl) (ev1 rfl) (fun _ => rfl) (by decide) (by omega) (by omega)) ?_
  refine za rfl (qk rfl tb3 (ev1 rfl) rfl) ?_
  refine zaa 1 rfl ?_
  refine zab ?_
  refine zai ?_
  refine zaa 2 rfl ?_
  refine za rfl (zak [] [] [] rfl (ev1 rfl) (ec (ev1 rfl) en) rfl rfl (qae _) rfl rfl rfl rfl rfl rfl) ?_
  refine za rfl (ku rfl (ev1 rfl)) ?_
  refine zab ?_
  refine qi rfl (fun c2 => ?_) (fun c2 => ?_)
  ·refine zai ?_
   refine zaa 1 rfl ?_
   refine zab ?_
   refine zau ?_
   refine qo (rs1 rfl (qB rfl)) rfl ?_
   rw [he, List.drop_eq_getElem_cons (show k < l.length by omega), List.all_cons, bn_t c2]; rfl
  ·refine zao ?_
   refine zac ?_
   refine za rfl (qc rfl (ev1 rfl) (ev1 rfl) (fun _ => qbg _ (by omega))) ?_
   refine zaa 1 rfl ?_
   refine zab ?_
   refine ⟨k + 1, [], ⟨by omega, by rw [he, List.drop_eq_getElem_cons (show k < l.length by omega), List.all_cons, bn_f c2, Bool.true_and]⟩, by simp only []; omega, rfl, ⟨rfl, rfl, rfl, rfl, trivial⟩, trivial⟩
 ·try simp only [decide_eq_true_eq, decide_eq_false_iff_not, beq_iff_eq, bne_iff_ne, beq_eq_false_iff_ne, bne_eq_false_iff_eq, qbl, qbm, qbi, qbo, qbk, ne_eq, Decidable.not_not, qbz, qbA] at c1
  refine qz ?_
  refine zai ?_
  refine zaa 1 rfl ?_
  refine zab ?_
  refine zau ?_
  refine qo (rs1 rfl (qB rfl)) rfl ?_
  rw [he, List.drop_of_length_le (by omega)]; rfl
theorem vT (l : List Int) (h : l.all isW = true) : DFun Tryz.prog 82 [.slf 1 (l).length ((l).flatMap ic)] [] (.tup []) [] := by
 refine zap (N := 7) 0 (by kernel_rfl) Tryz.func82 rfl rfl rfl (by simp only [fr0, qbh, qbj]; exact rfl) rfl fun s0 hs0 => ?_
 refine ko (t := 0) rfl fun hl0 hL0 => ?_
 refine zai ?_
 refine zaa 1 rfl ?_
 refine za rfl (zak [] [] [] rfl (ev1 rfl) (ec (ev1 rfl) (ec (ev1 rfl) en)) rfl rfl (qaf _) rfl rfl rfl rfl rfl rfl) ?_
 refine za rfl (ku rfl (ev1 rfl)) ?_
 refine zab ?_
 refine qf rfl (by rw [h]; rfl) ?_
 refine zao ?_
 refine qo (qI rfl) rfl ?_
 rfl
theorem Z0 (w : Nat) (h : 1 ≤ w ∧ w ≤ 8) (n : Int) : DFun Tryz.prog 107 [.val (.int .i64 (w : Int)), .val (.int .u64 n)] [] (.val (.bool (JK w n))) [] := by
 refine zap (N := 14) 0 (by kernel_rfl) Tryz.func107 rfl rfl rfl (by simp only [fr0, qbh, qbj]; exact rfl) rfl fun s0 hs0 => ?_
 refine zai ?_
 refine zaa 1 rfl ?_
 refine zab ?_
 refine zai ?_
 refine zaa 1 rfl ?_
 refine za rfl (qj rfl (ev1 rfl) (ev1 rfl)) ?_
 refine zaa 1 rfl ?_
 refine zah (qa rfl rfl rfl) rfl rfl rfl (zaj (.inl rfl) (ev1 rfl)) ?_
 refine zah (qa rfl rfl rfl) rfl rfl rfl (zaj (.inl rfl) (ev1 rfl)) ?_
 refine zah (qa rfl rfl rfl) rfl rfl rfl (jL rfl (ev1 rfl) (ev2 rfl) (fun hp => qbg _ (by first | omega | (simp at hp; omega)))) ?_
 refine zah (qa rfl rfl rfl) rfl rfl rfl (Uu (8 * w) rfl (ev2 rfl) (ev2 rfl) (fun _ => ⟨by omega, by simp [IntKind.bits]; omega⟩)) ?_
 refine zah (qa rfl rfl rfl) rfl rfl rfl (qj rfl (ev2 rfl) (ev1 rfl)) ?_
 refine za rfl (qK rfl (ev1 rfl) (ev3 rfl id)) ?_
 refine zaa 1 rfl ?_
 refine zab ?_
 refine zau ?_
 refine qo (rs1 rfl (qB rfl)) rfl ?_
 rw [D.val.injEq, Value.bool.injEq]
 unfold JK
 congr 1
 rw [Bool.eq_iff_iff]; simp; omega
theorem Xa (w : Nat) (h : 1 ≤ w ∧ w ≤ 8) (n : Int) (hf : JK w n = true) : DFun Tryz.prog 84 [.val (.int .i64 (w : Int)), .val (.int .u64 n)] [] (.slf 1 (wh w n).length ((wh w n).flatMap uc8)) [] := by
 refine zap (N := 28) 0 (by kernel_rfl) Tryz.func84 rfl rfl rfl (by simp only [fr0, qbh, qbj]; exact rfl) rfl fun s0 hs0 => ?_
 refine zai ?_
 refine zaa 1 rfl ?_
 refine zab ?_
 refine zad ?_
 refine zai ?_
 refine zaa 2 rfl ?_
 refine za rfl (zak [] [] [] rfl (ev1 rfl) (ec (ev1 rfl) (ec (ev1 rfl) en)) rfl rfl (Z0 _ (by assumption) _) rfl rfl rfl rfl rfl rfl) ?_
 refine za rfl (ku rfl (ev1 rfl)) ?_
 refine zab ?_
 refine qf rfl (by rw [hf]; rfl) ?_
 refine zao ?_
 refine zad ?_
 refine zam 1 ?_
 refine zac ?_
 refine zal rfl (zan 0 rfl zr168 rfl) ?_
 refine zab ?_
 refine zad ?_
 refine zai ?_
 refine zaa 1 rfl ?_
 refine zab ?_
 refine zav ?_
 refine qE ⟨hs0, rfl⟩ (α := Nat) (fun k => [(13, .val (.int .i64 (k : Int)))]) [(0, _), (1, _), (5, _)] (fun k => [(0, .flat 168 ((Wp n k).flatMap uc8))]) [.hole] (fun k => k ≤ 8) (fun k => 8 - k) 0 [0] (by simp) rfl ⟨rfl, rfl, rfl, trivial⟩ ⟨rfl, trivial⟩ ⟨rfl, trivial⟩ ?_
 intro k hx
 simp only [upd, zaf, zag, qbp, qbq]
 have hk := hx
 refine zai ?_
 refine za rfl (qq rfl (ev1 rfl) (ev1 rfl)) ?_
 refine zab ?_
 refine zad ?_
 refine qi rfl (fun c2 => ?_) (fun c2 => ?_)
 ·try simp only [decide_eq_true_eq, decide_eq_false_iff_not, beq_iff_eq, bne_iff_ne, beq_eq_false_iff_ne, bne_eq_false_iff_eq, qbl, qbm, qbi, qbo, qbk, ne_eq, Decidable.not_not, qbz, qbA] at c2
  refine zao ?_
  refine zad ?_
  refine zav ?_
  refine zai ?_
  refine zaa 2 rfl ?_
  refine zab ?_
  refine zac ?_
  refine zaa 1 rfl ?_
  refine za rfl (je rfl (ev1 rfl) (ev1 rfl) (fun _ => qbg _ (by omega))) ?_
  refine zaa 2 rfl ?_
  refine za rfl (jL rfl (ev1 rfl) (ev1 rfl) (fun _ => qbg _ (by omega))) ?_
  refine za rfl (Uu (8 * k) rfl (ev1 rfl) (ev1 rfl) (fun _ => ⟨by omega, by simp [IntKind.bits]; omega⟩)) ?_
  refine za rfl (zK ty25 kn5 rfl (ev1 rfl)) ?_
  refine za rfl (gr (j := 7 - k) rfl H9 (ev1 rfl) (ev1 rfl) (fun _ => by omega) (fun _ => by omega)) ?_
  refine zaq rfl (wb (q := IntKind.u8.wrap (n / 2 ^ (8 * k))) rfl tb5 (ev1 rfl) (ev1 rfl) rfl rfl rfl (fun _ => rfl) (fun _ => by first | omega | (rw [xz]; omega))) ?_
  refine zab ?_
  refine zac ?_
  refine za rfl (qc rfl (ev1 rfl) (ev1 rfl) (fun _ => qbg _ (by omega))) ?_
  refine zaa 1 rfl ?_
  refine zab ?_
  refine ⟨k + 1, [0], by omega, by simp only []; omega, rfl, ⟨rfl, rfl, rfl, rfl, trivial⟩, ⟨rfl, trivial⟩⟩
 ·try simp only [decide_eq_true_eq, decide_eq_false_iff_not, beq_iff_eq, bne_iff_ne, beq_eq_false_iff_ne, bne_eq_false_iff_eq, qbl, qbm, qbi, qbo, qbk, ne_eq, Decidable.not_not, qbz, qbA] at c2
  refine qz ?_
  refine zad ?_
  refine Yr ⟨hs0, rfl⟩ [] [0] [(0, _), (5, _)] [] rfl ⟨rfl, rfl, trivial⟩ trivial ?_
  refine zac ?_
  refine zaa 1 rfl ?_
  refine za rfl (je rfl (ev1 rfl) (ev1 rfl) (fun _ => qbg _ (by omega))) ?_
  refine za rfl (Uv (8 - w) rfl H9 (ev1 rfl) (ev1 rfl) (ev1 rfl) (ev1 rfl) (fun _ => by omega) (fun _ => rfl) (fun _ => rfl) (fun _ => by omega) ((xz _ _)) (by decide) (fun _ => rfl)) ?_
  refine zaa 1 rfl ?_
  refine zab ?_
  refine zau ?_
  refine qo (rs1 rfl (qB rfl)) rfl ?_
  obtain rfl : k = 8 := by omega
  rfl
end Go.Proofs.YtofklkbfkoliiaaGreat
namespace Go.Proofs.YtofklkbfkoliiaaGreat
set_option linter.unusedVariables false
set_option linter.unusedSimpArgs false
open Go.RowKit
theorem qag (l1 l2 : List Int) (h : l1.length + l2.length ≤ 100000) : DFun Tryz.prog 126 [.slm 1 2 [.slf 1 (l1).length ((l1).flatMap uc8), .slf 1 (l2).length ((l2).flatMap uc8)]] [] (.arr 0) [.arr 5 1 (l1 ++ l2).length ((l1 ++ l2).flatMap uc8)] := by
 refine zap (N := 38) 0 (by kernel_rfl) Tryz.func126 rfl rfl rfl (by simp only [fr0, qbh, qbj]; exact rfl) rfl fun s0 hs0 => ?_
 refine xo (t := 0) rfl fun hl0 hL0 => ?_
 refine zai ?_
 refine zaa 1 rfl ?_
 refine zab ?_
 refine zai ?_
 refine zaa 1 rfl ?_
 refine zab ?_
 refine zad ?_
 refine zai ?_
 refine zaa 1 rfl ?_
 refine za rfl (gG rfl g9 (ev1 rfl)) ?_
 refine zaa 1 rfl ?_
 refine zab ?_
 refine zav ?_
 refine vP (k5 ?_)
 refine zai ?_
 refine za rfl (qq rfl (ev1 rfl) (ev1 rfl)) ?_
 refine zab ?_
 refine zad ?_
 refine qt rfl (rfl) ?_
 refine zao ?_
 refine zad ?_
 refine zav ?_
 refine zai ?_
 refine za rfl (wc (0) rfl g9 (ev1 rfl) (ev1 rfl) (fun _ => rfl) rfl) ?_
 refine za rfl (gY rfl jg (ev1 rfl) rfl) ?_
 refine zaa 1 rfl ?_
 refine zab ?_
 refine zac ?_
 refine zaa 2 rfl ?_
 refine za rfl (qm rfl qg (ev1 rfl)) ?_
 refine za rfl (qc rfl (ev1 rfl) (ev1 rfl) (fun _ => qbg _ (by omega))) ?_
 refine zaa 1 rfl ?_
 refine zab ?_
 refine zac ?_
 refine za rfl (qc rfl (ev1 rfl) (ev1 rfl) (fun _ => qbg _ (by omega))) ?_
 refine zaa 1 rfl ?_
 refine zab ?_
 refine k5 ?_
 refine zai ?_
 refine za rfl (qq rfl (ev1 rfl) (ev1 rfl)) ?_
 refine zab ?_
 refine zad ?_
 refine qt rfl (rfl) ?_
 refine zao ?_
 refine zad ?_
 refine zav ?_
 refine zai ?_
 refine za rfl (wc (1) rfl g9 (ev1 rfl) (ev1 rfl) (fun _ => rfl) rfl) ?_
 refine za rfl (gY rfl jg (ev1 rfl) rfl) ?_
 refine zaa 1 rfl ?_
 refine zab ?_
 refine zac ?_
 refine zaa 2 rfl ?_
 refine za rfl (qm rfl qg (ev1 rfl)) ?_
 refine za rfl (qc rfl (ev1 rfl) (ev1 rfl) (fun _ => qbg _ (by omega))) ?_
 refine zaa 1 rfl ?_
 refine zab ?_
 refine zac ?_
 refine za rfl (qc rfl (ev1 rfl) (ev1 rfl) (fun _ => qbg _ (by omega))) ?_
 refine zaa 1 rfl ?_
 refine zab ?_
 refine k5 ?_
 refine zai ?_
 refine za rfl (qq rfl (ev1 rfl) (ev1 rfl)) ?_
 refine zab ?_
 refine zad ?_
 refine qf rfl (rfl) ?_
 refine qz ?_
 refine zad ?_
 refine zam 1 ?_
 refine zac ?_
 refine zaa 1 rfl ?_
 refine zal rfl (AR 0 (l1.length + l2.length) (.int .u8 0) rfl qg zr5 (ev1 rfl) (ev1 rfl) (fun _ => by omega) (fun _ => by omega) rfl (fun _ => by omega)) ?_
 refine zaa 1 rfl ?_
 refine zab ?_
 refine zai ?_
 refine zaa 1 rfl ?_
 refine zab ?_
 refine zad ?_
 refine zai ?_
 refine zaa 1 rfl ?_
 refine za rfl (gG rfl g9 (ev1 rfl)) ?_
 refine zaa 1 rfl ?_
 refine zab ?_
 refine zav ?_
 refine vP (k5 ?_)
 refine zai ?_
 refine za rfl (qq rfl (ev1 rfl) (ev1 rfl)) ?_
 refine zab ?_
 refine zad ?_
 refine qt rfl (rfl) ?_
 refine zao ?_
 refine zad ?_
 refine zav ?_
 refine zai ?_
 refine za rfl (wc (0) rfl g9 (ev1 rfl) (ev1 rfl) (fun _ => rfl) rfl) ?_
 refine za rfl (gY rfl jg (ev1 rfl) rfl) ?_
 refine zaa 1 rfl ?_
 refine zab ?_
 refine zac ?_
 refine zaa 3 rfl ?_
 refine za rfl (Ug rfl qg (ev1 rfl) rfl (qR (ev1 rfl)) xj (fun _ => by omega)) ?_
 refine zaa 1 rfl ?_
 refine zal rfl (Us rfl qg (ev1 rfl) (ev1 rfl) j9 rfl (fun _ => jF (fun _ => rfl) _)) ?_
 refine za rfl (qc rfl (ev1 rfl) (ev1 rfl) (fun _ => qbg _ (by omega))) ?_
 refine zaa 1 rfl ?_
 refine zab ?_
 refine zac ?_
 refine za rfl (qc rfl (ev1 rfl) (ev1 rfl) (fun _ => qbg _ (by omega))) ?_
 refine zaa 1 rfl ?_
 refine zab ?_
 refine k5 ?_
 refine zai ?_
 refine za rfl (qq rfl (ev1 rfl) (ev1 rfl)) ?_
 refine zab ?_
 refine zad ?_
 refine qt rfl (rfl) ?_
 refine zao ?_
 refine zad ?_
 refine zav ?_
 refine zai ?_
 refine za rfl (wc (1) rfl g9 (ev1 rfl) (ev1 rfl) (fun _ => rfl) rfl) ?_
 refine za rfl (gY rfl jg (ev1 rfl) rfl) ?_
 refine zaa 1 rfl ?_
 refine zab ?_
 refine zac ?_
 refine zaa 3 rfl ?_
 refine za rfl (Ug rfl qg (ev1 rfl) rfl (qR (ev1 rfl)) xj (fun _ => by omega)) ?_
 refine zaa 1 rfl ?_
 refine zal rfl (Us rfl qg (ev1 rfl) (ev1 rfl) j9 rfl (fun _ => jF (fun _ => rfl) _)) ?_
 refine za rfl (qc rfl (ev1 rfl) (ev1 rfl) (fun _ => qbg _ (by omega))) ?_
 refine zaa 1 rfl ?_
 refine zab ?_
 refine zac ?_
 refine za rfl (qc rfl (ev1 rfl) (ev1 rfl) (fun _ => qbg _ (by omega))) ?_
 refine zaa 1 rfl ?_
 refine zab ?_
 refine k5 ?_
 refine zai ?_
 refine za rfl (qq rfl (ev1 rfl) (ev1 rfl)) ?_
 refine zab ?_
 refine zad ?_
 refine qf rfl (rfl) ?_
 refine qz ?_
 refine zai ?_
 refine zaa 2 rfl ?_
 refine zab ?_
 refine zau ?_
 refine km [0] (rs1 rfl (qB rfl)) rfl rfl ?_ ⟨?_, trivial⟩
 rfl
 exact jm (by simp; try omega) (beh2 _ _ _ _ _ _ (by omega) (by omega) (by omega) (by omega))
theorem qah (l1 l2 : List Int) (h : l1.length + l2.length ≤ 100000) : DFun Tryz.prog 126 [.slm 1 2 [.slf 1 (l1).length ((l1).flatMap uc8), .slf 1 (l2).length ((l2).flatMap uc8)]] [] (.slf 1 (l1 ++ l2).length ((l1 ++ l2).flatMap uc8)) [] := gz (qag l1 l2 h) rfl
end Go.Proofs.YtofklkbfkoliiaaGreat
namespace Go.Proofs.YtofklkbfkoliiaaGreat
set_option linter.unusedVariables false
set_option linter.unusedSimpArgs false
open Go.RowKit
theorem vU : DFun Tryz.prog 81 [.val .nilIface] [] (.val (.int .i64 0)) [] := by
 refine zap (N := 13) 0 (by kernel_rfl) Tryz.func81 rfl rfl rfl (by simp only [fr0, qbh, qbj]; exact rfl) rfl fun s0 hs0 => ?_
 refine zai ?_
 refine zaa 1 rfl ?_
 refine zab ?_
 refine zad ?_
 refine zad ?_
 refine zam 1 ?_
 refine zac ?_
 refine zaa 1 rfl ?_
 refine za rfl (Gr rfl U4 zv130 (ev1 rfl)) ?_
 refine zaa 3 rfl ?_
 refine zal rfl (zan 0 rfl U7 rfl) ?_
 refine zaq rfl (qr rfl Ac (ev1 rfl) (ev1 rfl) rfl rfl rfl rfl) ?_
 refine zaa 1 rfl ?_
 refine zab ?_
 refine zai ?_
 refine zaa 1 rfl ?_
 refine zab ?_
 refine qf rfl (rfl) ?_
 refine zao ?_
 refine zai ?_
 refine zaa 1 rfl ?_
 refine zab ?_
 refine zau ?_
 refine qo (rs1 rfl (qB rfl)) rfl ?_
 rfl
theorem zR (n : Int) : DFun Tryz.prog 81 [.ifc 130 (.val (.agg #[.int .i64 n]))] [] (.val (.int .i64 n)) [] := by
 refine zap (N := 13) 0 (by kernel_rfl) Tryz.func81 rfl rfl rfl (by simp only [fr0, qbh, qbj]; exact rfl) rfl fun s0 hs0 => ?_
 refine zai ?_
 refine zaa 1 rfl ?_
 refine zab ?_
 refine zad ?_
 refine zad ?_
 refine zam 1 ?_
 refine zac ?_
 refine zaa 1 rfl ?_
 refine za rfl (Gq rfl U4 (ev1 rfl)) ?_
 refine zaa 3 rfl ?_
 refine zal rfl (zan 0 rfl U7 rfl) ?_
 refine zaq rfl (qr rfl Ac (ev1 rfl) (ev1 rfl) rfl rfl rfl rfl) ?_
 refine zaa 1 rfl ?_
 refine zab ?_
 refine zai ?_
 refine zaa 1 rfl ?_
 refine zab ?_
 refine qt rfl (rfl) ?_
 refine zai ?_
 refine za rfl (zas rfl ZY (ev1 rfl)) ?_
 refine za rfl (qx rfl kc (ev1 rfl) rfl rfl) ?_
 refine zaa 1 rfl ?_
 refine zab ?_
 refine zau ?_
 refine qo (rs1 rfl (qB rfl)) rfl ?_
 rfl
theorem QO (e : Int) : DDef Tryz.prog 125 [.loc 0 0] [.flat 34 [.int .i64 e]] none none [.flat 34 [.int .i64 0]] := by
 refine jE (dr := .tup []) (t := 1) (N := 3) 1 (by kernel_rfl) Tryz.func125 rfl rfl rfl (by simp only [fr0, qbh, qbj]; exact rfl) rfl rfl rfl rfl rfl fun s0 hs0 => ?_
 refine za rfl (zak [] [] [] rfl (ev1 rfl) (ec (ev1 rfl) en) rfl rfl (vU) rfl rfl rfl rfl rfl rfl) ?_
 refine zaq rfl (qN rfl kc (ev1 rfl) (ev1 rfl) rfl) ?_
 refine zab ?_
 refine km [0] (qI rfl) rfl rfl ?_ ⟨rfl, trivial⟩
 rfl
theorem Z1 (l : List Int) (w : Nat) (n : Int) (hl : l.length ≤ 90000) (h : 1 ≤ w ∧ w ≤ 8) (hf : JK w n = true) : DFun Tryz.prog 108 [.slf 1 l.length (l.flatMap uc8), .val (.int .i64 (w : Int)), .val (.int .u64 n)] [] (.tup [.slf 1 (l ++ wh w n).length ((l ++ wh w n).flatMap uc8), .val (.int .i64 0)]) [] := by
 refine qA (N := 18) 0 (by kernel_rfl) Tryz.func108 rfl rfl rfl (by simp only [fr0, qbh, qbj]; exact rfl) rfl fun s0 hs0 => ?_
 refine qP rfl hs0 ?_
 refine zam 1 ?_
 refine zac ?_
 refine zaa 1 rfl ?_
 refine zal rfl (zan 0 rfl gB rfl) ?_
 refine zab ?_
 refine qD (l0 := [_]) rfl rfl rfl rfl rfl hs0 ?_
 refine za rfl (ki rfl en (ec (ev1 rfl) en)) ?_
 refine zab ⟨_, _, _, 1, ev1 rfl, qbE hs0 (by decide), rfl, ?_⟩
 have hs1 : s0.M.length ≤ 1 := qbE hs0 (by decide)
 refine qO rfl hs0 ?_
 refine zai ?_
 refine zaa 1 rfl ?_
 refine za rfl (xk (ps := [(0, .tmp 9)]) rfl uT zr3 rfl (vc (ev1 rfl) vn) rfl (by decide) (by decide)) ?_
 refine za rfl (zak [] [] [] rfl (ev1 rfl) (ec (ev1 rfl) en) rfl rfl (vT [(w : Int)] (by simp [GF]; omega)) rfl rfl rfl rfl rfl rfl) ?_
 refine zab ?_
 refine zai ?_
 refine zaa 3 rfl ?_
 refine za rfl (zak [] [] [] rfl (ev1 rfl) (ec (ev1 rfl) (ec (ev1 rfl) en)) rfl rfl (Xa w h n hf) rfl rfl rfl rfl rfl rfl) ?_
 refine za rfl (Uw (ps := [(0, .tmp 12), (1, .tmp 15)]) rfl g9 U9 rfl (ec (ev1 rfl) (ec (ev1 rfl) en)) rfl (by decide)) ?_
 refine za rfl (zak [] [] [] rfl (ev1 rfl) (ec (ev1 rfl) en) rfl rfl (qah _ _ (by rw [QN h.2]; omega)) rfl rfl rfl rfl rfl rfl) ?_
 refine zaa 1 rfl ?_
 refine zaq rfl (qN rfl kc (ev1 rfl) (ev1 rfl) rfl) ?_
 refine zab ?_
 refine zau ?_
 refine gq (kU [0] [] rfl rfl (QO _) rfl rfl rfl rfl rfl) ?_
 refine qo (rs2 rfl (qB rfl) (j4 kc rfl rfl rfl)) rfl ?_
 rfl
end Go.Proofs.YtofklkbfkoliiaaGreat
namespace Go.Proofs.YtofklkbfkoliiaaGreat
set_option linter.unusedVariables false
set_option linter.unusedSimpArgs false
open Go.RowKit
theorem Wv (T : TypeId) (l : List Int) (e : Int) (n : Nat) (h : n ≤ l.length) : DFun Tryz.prog 128 [.loc 0 0, .val (.int .i64 (n : Int))] [.mix T [.slf 1 (l).length ((l).flatMap uc8), .val (.int .i64 e)]] (.tup []) [.mix T [.slf 1 (l).length ((l).flatMap uc8), .val (.int .i64 e)]] := by
 refine zap (N := 13) 1 (by kernel_rfl) Tryz.func128 rfl rfl rfl (by simp only [fr0, qbh, qbj]; exact rfl) rfl fun s0 hs0 => ?_
 refine zai ?_
 refine zaa 1 rfl ?_
 refine za rfl (qC rfl (ev1 rfl) (fun s v h => by cases h; exact ⟨_, rfl⟩)) ?_
 refine za rfl (zas rfl um (ev1 rfl)) ?_
 refine za rfl (zat rfl jg (ev1 rfl) rfl rfl) ?_
 refine za rfl (qm rfl qg (ev1 rfl)) ?_
 refine zaa 1 rfl ?_
 refine za rfl (qq rfl (ev1 rfl) (ev1 rfl)) ?_
 refine zab ?_
 refine qf rfl (decide_eq_false (by omega)) ?_
 refine zao ?_
 refine km [0] (qI rfl) rfl rfl ?_ ⟨rfl, trivial⟩
 rfl
theorem Ww (T : TypeId) (l : List Int) (e : Int) (n : Nat) (h : l.length < n) : DPan Tryz.prog 128 [.loc 0 0, .val (.int .i64 (n : Int))] [.mix T [.slf 1 (l).length ((l).flatMap uc8), .val (.int .i64 e)]] (.ifc 130 (.val (.agg #[.int .i64 110]))) [.mix T [.slf 1 (l).length ((l).flatMap uc8), .val (.int .i64 e)]] := by
 refine zap (N := 13) 1 (by kernel_rfl) Tryz.func128 rfl rfl rfl (by simp only [fr0, qbh, qbj]; exact rfl) rfl fun s0 hs0 => ?_
 refine zai ?_
 refine zaa 1 rfl ?_
 refine za rfl (qC rfl (ev1 rfl) (fun s v h => by cases h; exact ⟨_, rfl⟩)) ?_
 refine za rfl (zas rfl um (ev1 rfl)) ?_
 refine za rfl (zat rfl jg (ev1 rfl) rfl rfl) ?_
 refine za rfl (qm rfl qg (ev1 rfl)) ?_
 refine zaa 1 rfl ?_
 refine za rfl (qq rfl (ev1 rfl) (ev1 rfl)) ?_
 refine zab ?_
 refine qt rfl (decide_eq_true (by omega)) ?_
 refine zac ?_
 refine za rfl (kJ (ps := [(0, .const (.int .i64 110))]) rfl fl130 U7 (vc (ev1 rfl) vn) rfl rfl) ?_
 refine za rfl (zr rfl U4 (ev1 rfl)) ?_
 refine kz rfl (wM rfl (ev1 rfl)) rfl ?_
 refine Gp [0] rfl rfl ?_ ⟨rfl, trivial⟩
 rfl
theorem Xb (T : TypeId) (l : List Int) (e : Int) : DFun Tryz.prog 129 [.loc 0 0] [.mix T [.slf 1 (l).length ((l).flatMap uc8), .val (.int .i64 e)]] (.fn (.func 136) [] [.loc 1 0]) [.mix T [.slf 1 (l).length ((l).flatMap uc8), .val (.int .i64 e)], .mix 173 [.loc 0 0]] := by
 refine zap (N := 4) 1 (by kernel_rfl) Tryz.func129 rfl rfl rfl (by simp only [fr0, qbh, qbj]; exact rfl) rfl fun s0 hs0 => ?_
 refine zad ?_
 refine zam 1 ?_
 refine zac ?_
 refine zal rfl (gW 1 rfl (ev1 rfl) (fun s v h => by cases h <;> rfl) rfl) ?_
 refine zaa 1 rfl ?_
 refine zab ?_
 refine zai ?_
 refine za rfl (ki rfl en (ec (ev1 rfl) en)) ?_
 refine zaa 1 rfl ?_
 refine zab ?_
 refine zau ?_
 refine km [0, 1] (rs1 rfl (qB rfl)) rfl rfl ?_ ⟨rfl, rfl, trivial⟩
 rfl
noncomputable def Wx : Code := rfA (pth [1, 0, 1, 1, 1, 0, 1, 0] (wO Tryz.f113))
noncomputable def Wy : Code := rfB (pth [1, 0, 1, 1, 1, 0, 1, 0] (wO Tryz.f113))
theorem YI (i w acc b : Int) (h : i ≠ w) : DRound Tryz.prog 0 [.val (.int .i64 i), .val (.int .u8 b)] [.lp none 24 [(3, .loc 1 0), (5, .loc 2 0)] #[13, 14] Wx Wy .ready none, .flat 3 [.int .i64 w], .flat 25 [.int .u64 acc]] true [.lp none 24 [(3, .loc 1 0), (5, .loc 2 0)] #[13, 14] Wx Wy .ready none, .flat 3 [.int .i64 w], .flat 25 [.int .u64 (Wq acc b)]] := by
 refine yZ 3 rfl rfl (by simp) rfl rfl fun s0 hs0 => ?_
 refine zai ?_
 refine zaa 1 rfl ?_
 refine zab ?_
 refine zac ?_
 refine zaa 1 rfl ?_
 refine zab ?_
 refine ⟨rfl, ?_⟩
 simp only [zaf, zag]
 refine zav ?_
 refine zad ?_
 refine zai ?_
 refine zaa 1 rfl ?_
 refine za rfl (qx rfl tb3 (ev1 rfl) rfl rfl) ?_
 refine za rfl (qj rfl (ev1 rfl) (ev1 rfl)) ?_
 refine zab ?_
 refine qf rfl (by simp [h]) ?_
 refine zao ?_
 refine zac ?_
 refine za rfl (qx rfl kC (ev1 rfl) rfl rfl) ?_
 refine za rfl (AV (8) rfl (ev1 rfl) (ev1 rfl) (fun _ => ⟨rfl, by decide⟩)) ?_
 refine zaa 1 rfl ?_
 refine za rfl (zK ty5 kn25 rfl (ev1 rfl)) ?_
 refine za rfl (AW rfl (ev1 rfl) (ev1 rfl)) ?_
 refine zaq rfl (qN rfl kC (ev1 rfl) (ev1 rfl) rfl) ?_
 refine zab ?_
 refine ⟨by first | rfl | assumption | simp_all, rfl, [0, 1, 2], rfl, ⟨rfl, rfl, rfl, trivial⟩⟩
theorem Jd (i w acc b : Int) (h : i = w) : DRound Tryz.prog 0 [.val (.int .i64 i), .val (.int .u8 b)] [.lp none 24 [(3, .loc 1 0), (5, .loc 2 0)] #[13, 14] Wx Wy .ready none, .flat 3 [.int .i64 w], .flat 25 [.int .u64 acc]] false [.lp none 24 [(3, .loc 1 0), (5, .loc 2 0)] #[13, 14] Wx Wy .done (some (.exit 0)), .flat 3 [.int .i64 w], .flat 25 [.int .u64 acc]] := by
 refine yZ 3 rfl rfl (by simp) rfl rfl fun s0 hs0 => ?_
 refine zai ?_
 refine zaa 1 rfl ?_
 refine zab ?_
 refine zac ?_
 refine zaa 1 rfl ?_
 refine zab ?_
 refine ⟨rfl, ?_⟩
 simp only [zaf, zag]
 refine zav ?_
 refine zad ?_
 refine zai ?_
 refine zaa 1 rfl ?_
 refine za rfl (qx rfl tb3 (ev1 rfl) rfl rfl) ?_
 refine za rfl (qj rfl (ev1 rfl) (ev1 rfl)) ?_
 refine zab ?_
 refine qt rfl (by simp [h]) ?_
 refine qz ?_
 refine ⟨by first | rfl | assumption | simp_all, rfl, [0, 1, 2], rfl, ⟨rfl, rfl, rfl, trivial⟩⟩
theorem QP (T : TypeId) (l : List Int) (hL : l.length ≤ 9223372036854775807) (e : Int) (w : Nat) : DFun Tryz.prog 136 [.yld 0, .loc 3 0] [.lp none 24 [(3, .loc 1 0), (5, .loc 2 0)] #[13, 14] Wx Wy .ready none, .flat 3 [.int .i64 (w : Int)], .flat 25 [.int .u64 0], .mix 173 [.loc 4 0], .mix T [.slf 1 (l).length ((l).flatMap uc8), .val (.int .i64 e)]] (.tup []) [.lp none 24 [(3, .loc 1 0), (5, .loc 2 0)] #[13, 14] Wx Wy (rst (decide (l.length ≤ w))) (rpe (.exit 0) (decide (l.length ≤ w))), .flat 3 [.int .i64 (w : Int)], .flat 25 [.int .u64 (kw w l)], .mix 173 [.loc 4 0], .mix T [.slf 1 (l).length ((l).flatMap uc8), .val (.int .i64 e)]] := by
 refine zap (N := 21) 5 (by kernel_rfl) Tryz.func136 rfl rfl rfl (by simp only [fr0, qbh, qbj]; exact rfl) rfl fun s0 hs0 => ?_
 refine zai ?_
 refine za rfl (zat rfl tb173 (ev1 rfl) rfl rfl) ?_
 refine za rfl (qC rfl (ev1 rfl) (fun s v h => by cases h; exact ⟨_, rfl⟩)) ?_
 refine za rfl (zas rfl um (ev1 rfl)) ?_
 refine za rfl (zat rfl jg (ev1 rfl) rfl rfl) ?_
 refine za rfl (qm rfl qg (ev1 rfl)) ?_
 refine zaa 1 rfl ?_
 refine zab ?_
 refine zav ?_
 refine qE ⟨hs0, rfl⟩ (α := Nat) (fun k => [(10, .val (.int .i64 (k : Int)))]) [(0, _), (8, _), (9, _)] (fun k => [(2, .flat 25 [.int .u64 (kw k l)])]) [_, _, .hole, _, _] (fun k => k ≤ l.length ∧ k ≤ w) (fun k => l.length - k) 0 [0, 1, 2, 3, 4] (by simp) rfl ⟨rfl, rfl, rfl, trivial⟩ ⟨rfl, trivial⟩ ⟨rfl, rfl, rfl, rfl, rfl, trivial⟩ ?_
 intro k hx
 simp only [upd, zaf, zag, qbp, qbq]
 obtain ⟨hk, hkw⟩ := hx
 refine zai ?_
 refine za rfl (qq rfl (ev1 rfl) (ev1 rfl)) ?_
 refine zab ?_
 refine zad ?_
 refine qi rfl (fun c1 => ?_) (fun c1 => ?_)
 ·try simp only [decide_eq_true_eq, decide_eq_false_iff_not, beq_iff_eq, bne_iff_ne, beq_eq_false_iff_ne, bne_eq_false_iff_eq, qbl, qbm, qbi, qbo, qbk, ne_eq, Decidable.not_not, qbz, qbA] at c1
  refine zao ?_
  refine zad ?_
  refine zav ?_
  refine zai ?_
  refine zaa 1 rfl ?_
  refine za rfl (qu (j := k) rfl qg (ev1 rfl) (ev1 rfl) (fun _ => rfl) (by decide) (by omega) (by omega)) ?_
  refine za rfl (qk rfl tb5 (ev1 rfl) rfl) ?_
  refine zaa 2 rfl ?_
  refine zab ?_
  refine zad ?_
  by_cases hw : k = w
  ·refine zac ?_
   refine zaa 3 rfl ?_
   refine zal rfl (Yn (i := 0) [0, 1, 2] [] [] rfl (ev1 rfl) (ec (ev1 rfl) (ec (ev1 rfl) en)) rfl rfl rfl (Jd _ _ _ _ (by omega)) rfl rfl rfl rfl rfl) ?_
   refine za rfl (ku rfl (ev1 rfl)) ?_
   refine zab ?_
   refine qt rfl (rfl) ?_
   refine zau ?_
   have e1 : decide (l.length ≤ w) = false := decide_eq_false (by omega)
   subst hw
   rw [e1]
   refine km [0, 1, 2, 3, 4] (qI rfl) rfl rfl ?_ ⟨rfl, rfl, rfl, rfl, rfl, trivial⟩
   rfl
  ·refine zac ?_
   refine zaa 3 rfl ?_
   refine zal rfl (Yn (i := 0) [0, 1, 2] [] [] rfl (ev1 rfl) (ec (ev1 rfl) (ec (ev1 rfl) en)) rfl rfl rfl (YI _ _ _ _ (by omega)) rfl rfl rfl rfl rfl) ?_
   refine za rfl (ku rfl (ev1 rfl)) ?_
   refine zab ?_
   refine qf rfl (rfl) ?_
   refine zao ?_
   refine zac ?_
   refine za rfl (qc rfl (ev1 rfl) (ev1 rfl) (fun _ => qbg _ (by omega))) ?_
   refine zaa 1 rfl ?_
   refine zab ?_
   refine ⟨k + 1, [0, 1, 2, 3, 4], ⟨by omega, by omega⟩, by simp only []; omega, rfl, ⟨rfl, rfl, rfl, rfl, trivial⟩, ⟨rfl, rfl, by rw [Wr (by omega)]; rfl, rfl, rfl, trivial⟩⟩
 ·try simp only [decide_eq_true_eq, decide_eq_false_iff_not, beq_iff_eq, bne_iff_ne, beq_eq_false_iff_ne, bne_eq_false_iff_eq, qbl, qbm, qbi, qbo, qbk, ne_eq, Decidable.not_not, qbz, qbA] at c1
  refine qz ?_
  have e1 : decide (l.length ≤ w) = true := decide_eq_true (by omega)
  have e2 : k = l.length := by omega
  rw [e1, UV (show l.length ≤ w by omega), e2]
  refine km [0, 1, 2, 3, 4] (qI rfl) rfl rfl ?_ ⟨rfl, rfl, rfl, rfl, rfl, trivial⟩
  rfl
theorem Z2 (T : TypeId) (l : List Int) (hL : l.length ≤ 9223372036854775807) (e : Int) (w : Nat) (h : w ≤ l.length) : DFun Tryz.prog 113 [.loc 0 0, .val (.int .i64 (w : Int))] [.mix T [.slf 1 (l).length ((l).flatMap uc8), .val (.int .i64 e)]] (.val (.int .u64 (kw w l))) [.mix T [.slf 1 (l).length ((l).flatMap uc8), .val (.int .i64 e)]] := by
 refine zap (N := 24) 1 (by kernel_rfl) Tryz.func113 rfl rfl rfl (by simp only [fr0, qbh, qbj]; exact rfl) rfl fun s0 hs0 => ?_
 refine zad ?_
 refine zam 1 ?_
 refine zac ?_
 refine zal rfl (xi 1 rfl (ev1 rfl) rfl) ?_
 refine zaa 1 rfl ?_
 refine zab ?_
 refine Jw ?_
 refine zai ?_
 refine zaa 1 rfl ?_
 refine za rfl (qx rfl tb3 (ev1 rfl) rfl rfl) ?_
 refine zal rfl (zak [0] [] [] rfl (ev1 rfl) (ec (ev1 rfl) (ec (ev1 rfl) en)) rfl rfl (Wv _ _ _ w h) rfl rfl rfl rfl rfl rfl) ?_
 refine zab ?_
 refine zad ?_
 refine zam 1 ?_
 refine zac ?_
 refine zal rfl (zan 2 rfl zr25 rfl) ?_
 refine zaq rfl (qN rfl kC (ev1 rfl) (ev1 rfl) rfl) ?_
 refine zab ?_
 refine zad ?_
 refine xQ ?_
 refine zad ?_
 refine zad ?_
 refine zam 1 ?_
 refine zac ?_
 refine zaa 1 rfl ?_
 refine zal rfl (zak [0] [] [3] rfl (ev1 rfl) (ec (ev1 rfl) en) rfl rfl (Xb _ _ _) rfl rfl rfl rfl rfl rfl) ?_
 refine zab ?_
 refine zav ?_
 refine vd ?_
 simp only [qbp, qbq]
 refine Qz (FL := [(3, _), (5, _)]) (st := (rst (decide (l.length ≤ w)))) (pe := (rpe (.exit 0) (decide (l.length ≤ w)))) [4, 1, 2, 3, 0] [] [] 4 rfl rfl (ev1 rfl) rfl (ui ⟨rfl, rfl, trivial⟩) rfl rfl rfl (QP _ l hL e w) rfl rfl rfl rfl rfl rfl rfl (Uq _) (fun e => ?_) (fun c e => ?_)
 ·simp only [upd, zaf, zag]
  refine zai ?_
  refine za rfl (qx rfl kC (ev1 rfl) rfl rfl) ?_
  refine zaa 1 rfl ?_
  refine zab ?_
  refine zau ?_
  refine km [0] (rs1 rfl (qB rfl)) rfl rfl ?_ ⟨rfl, trivial⟩
  rfl
 ·obtain ⟨e1, rfl⟩ : decide (l.length ≤ w) = false ∧ c = .exit 0 := by
   cases h : decide (l.length ≤ w) <;> simp_all [rpe]
  simp only [upd, zaf, zag]
  refine qz ?_
  refine zai ?_
  refine za rfl (qx rfl kC (ev1 rfl) rfl rfl) ?_
  refine zaa 1 rfl ?_
  refine zab ?_
  refine zau ?_
  refine km [0] (rs1 rfl (qB rfl)) rfl rfl ?_ ⟨rfl, trivial⟩
  rfl
theorem JP (T : TypeId) (l : List Int) (hL : l.length ≤ 9223372036854775807) (e : Int) (w : Nat) (h : w ≤ l.length) : DFun Tryz.prog 92 [.loc 0 0, .val (.int .i64 (w : Int))] [.mix T [.slf 1 (l).length ((l).flatMap uc8), .val (.int .i64 e)]] (.val (.int .u64 (kw w l))) [.mix T [.slf 1 (l.drop w).length ((l.drop w).flatMap uc8), .val (.int .i64 e)]] := by
 refine zap (N := 19) 1 (by kernel_rfl) Tryz.func92 rfl rfl rfl (by simp only [fr0, qbh, qbj]; exact rfl) rfl fun s0 hs0 => ?_
 refine zai ?_
 refine zaa 1 rfl ?_
 refine zab ?_
 refine zai ?_
 refine zaa 2 rfl ?_
 refine zal rfl (zak [0] [] [] rfl (ev1 rfl) (ec (ev1 rfl) (ec (ev1 rfl) en)) rfl rfl (Z2 _ _ hL _ w h) rfl rfl rfl rfl rfl rfl) ?_
 refine zaa 1 rfl ?_
 refine zab ?_
 refine zai ?_
 refine zaa 2 rfl ?_
 refine za rfl (qC rfl (ev1 rfl) (fun s v h => by cases h; exact ⟨_, rfl⟩)) ?_
 refine za rfl (zas rfl um (ev1 rfl)) ?_
 refine za rfl (zat rfl jg (ev1 rfl) rfl rfl) ?_
 refine zaa 1 rfl ?_
 refine za rfl (kY (i := w) rfl qg (ev1 rfl) (qR (ev1 rfl)) (fun _ => by omega) (fun _ => by omega) (fun _ => rfl)) ?_
 refine za rfl (qC rfl (ev1 rfl) (fun s v h => by cases h; exact ⟨_, rfl⟩)) ?_
 refine za rfl (zas rfl um (ev1 rfl)) ?_
 refine zaq rfl (kQ rfl jg (ev1 rfl) (ev1 rfl) (fun s v h => by cases h <;> exact ⟨rfl, rfl⟩) rfl (by first | decide | exact qbr rfl | simp)) ?_
 refine zab ?_
 refine zai ?_
 refine zaa 2 rfl ?_
 refine zab ?_
 refine zau ?_
 refine km [0] (rs1 rfl (qB rfl)) rfl rfl ?_ ⟨rfl, trivial⟩
 rfl
theorem Xc (T : TypeId) (l : List Int) (e : Int) (w : Nat) (h : l.length < w) : DPan Tryz.prog 113 [.loc 0 0, .val (.int .i64 (w : Int))] [.mix T [.slf 1 (l).length ((l).flatMap uc8), .val (.int .i64 e)]] (.ifc 130 (.val (.agg #[.int .i64 110]))) [.mix T [.slf 1 (l).length ((l).flatMap uc8), .val (.int .i64 e)]] := by
 refine zap (N := 24) 1 (by kernel_rfl) Tryz.func113 rfl rfl rfl (by simp only [fr0, qbh, qbj]; exact rfl) rfl fun s0 hs0 => ?_
 refine zad ?_
 refine zam 1 ?_
 refine zac ?_
 refine zal rfl (xi 1 rfl (ev1 rfl) rfl) ?_
 refine zaa 1 rfl ?_
 refine zab ?_
 refine Jw ?_
 refine zai ?_
 refine zaa 1 rfl ?_
 refine za rfl (qx rfl tb3 (ev1 rfl) rfl rfl) ?_
 refine kz rfl (qQ [0] [] [] rfl (ev1 rfl) (ec (ev1 rfl) (ec (ev1 rfl) en)) rfl rfl (Ww _ _ _ w h) rfl rfl rfl rfl rfl rfl) rfl ?_
 refine Gp [0] rfl rfl ?_ ⟨rfl, trivial⟩
 rfl
theorem KM (T : TypeId) (l : List Int) (e : Int) (w : Nat) (h : l.length < w) : DPan Tryz.prog 92 [.loc 0 0, .val (.int .i64 (w : Int))] [.mix T [.slf 1 (l).length ((l).flatMap uc8), .val (.int .i64 e)]] (.ifc 130 (.val (.agg #[.int .i64 110]))) [.mix T [.slf 1 (l).length ((l).flatMap uc8), .val (.int .i64 e)]] := by
 refine zap (N := 19) 1 (by kernel_rfl) Tryz.func92 rfl rfl rfl (by simp only [fr0, qbh, qbj]; exact rfl) rfl fun s0 hs0 => ?_
 refine zai ?_
 refine zaa 1 rfl ?_
 refine zab ?_
 refine zai ?_
 refine zaa 2 rfl ?_
 refine kz rfl (qQ [0] [] [] rfl (ev1 rfl) (ec (ev1 rfl) (ec (ev1 rfl) en)) rfl rfl (Xc _ _ _ w h) rfl rfl rfl rfl rfl rfl) rfl ?_
 refine Gp [0] rfl rfl ?_ ⟨rfl, trivial⟩
 rfl
end Go.Proofs.YtofklkbfkoliiaaGreat
namespace Go.Proofs.YtofklkbfkoliiaaGreat
set_option linter.unusedVariables false
set_option linter.unusedSimpArgs false
open Go.RowKit
theorem QQ (w h : Int) : DFun Tryz.prog 78 [.val (.agg #[.int .i64 w, .int .i64 h])] [] (.val (.bool (jV w h))) [] := by
 refine zap (N := 21) 0 (by kernel_rfl) Tryz.func78 rfl rfl rfl (by simp only [fr0, qbh, qbj]; exact rfl) rfl fun s0 hs0 => ?_
 refine zad ?_
 refine zam 1 ?_
 refine zac ?_
 refine zal rfl (j8 0 rfl (ev1 rfl) rfl) ?_
 refine zaa 1 rfl ?_
 refine zab ?_
 refine zai ?_
 refine za rfl (zas rfl GG (ev1 rfl)) ?_
 refine za rfl (qx rfl tb3 (ev1 rfl) rfl rfl) ?_
 refine za rfl (gI rfl (ev1 rfl) (ev1 rfl)) ?_
 refine zaa 1 rfl ?_
 refine zah (qd rfl rfl rfl) rfl rfl rfl (zas rfl GG (ev1 rfl)) ?_
 refine zah (qd rfl rfl rfl) rfl rfl rfl (qx rfl tb3 (ev2 rfl) rfl rfl) ?_
 refine zah (qd rfl rfl rfl) rfl rfl rfl (gS rfl (ev2 rfl) (ev1 rfl)) ?_
 refine za rfl (qF rfl (ev1 rfl) (ev3 rfl id)) ?_
 refine zaa 1 rfl ?_
 refine zah (qd rfl rfl rfl) rfl rfl rfl (zas rfl GH (ev1 rfl)) ?_
 refine zah (qd rfl rfl rfl) rfl rfl rfl (qx rfl tb3 (ev2 rfl) rfl rfl) ?_
 refine zah (qd rfl rfl rfl) rfl rfl rfl (gI rfl (ev2 rfl) (ev1 rfl)) ?_
 refine za rfl (qF rfl (ev1 rfl) (ev3 rfl id)) ?_
 refine zaa 1 rfl ?_
 refine zah (qd rfl rfl rfl) rfl rfl rfl (zas rfl GH (ev1 rfl)) ?_
 refine zah (qd rfl rfl rfl) rfl rfl rfl (qx rfl tb3 (ev2 rfl) rfl rfl) ?_
 refine zah (qd rfl rfl rfl) rfl rfl rfl (gS rfl (ev2 rfl) (ev1 rfl)) ?_
 refine za rfl (qF rfl (ev1 rfl) (ev3 rfl id)) ?_
 refine zaa 1 rfl ?_
 refine zab ?_
 refine zau ?_
 refine qo (rs1 rfl (qB rfl)) rfl ?_
 unfold jV
 simp [Bool.and_assoc]
end Go.Proofs.YtofklkbfkoliiaaGreat
namespace Go.Proofs.YtofklkbfkoliiaaGreat
set_option linter.unusedVariables false
set_option linter.unusedSimpArgs false
open Go.RowKit
theorem qai (l r : List TL) : DFun Tryz.prog 79 [.slf 256 l.length (l.flatMap tc), .slf 256 r.length (r.flatMap tc)] [] (.val (.bool (decide (l = r)))) [] := by
 refine zap (N := 26) 0 (by kernel_rfl) Tryz.func79 rfl rfl rfl (by simp only [fr0, qbh, qbj]; exact rfl) rfl fun s0 hs0 => ?_
 refine ko (t := 0) rfl fun hl0 hL0 => ?_
 refine ko (t := 1) rfl fun hl1 hL1 => ?_
 refine zai ?_
 refine zaa 1 rfl ?_
 refine zab ?_
 refine zad ?_
 refine zai ?_
 refine zaa 1 rfl ?_
 refine za rfl (qm rfl jo (ev1 rfl)) ?_
 refine zaa 1 rfl ?_
 refine za rfl (qm rfl jo (ev1 rfl)) ?_
 refine za rfl (qV rfl (ev1 rfl) (ev1 rfl)) ?_
 refine zab ?_
 refine qi rfl (fun c1 => ?_) (fun c1 => ?_)
 ·try simp only [decide_eq_true_eq, decide_eq_false_iff_not, beq_iff_eq, bne_iff_ne, beq_eq_false_iff_ne, bne_eq_false_iff_eq, qbl, qbm, qbi, qbo, qbk, ne_eq, Decidable.not_not, qbz, qbA] at c1
  refine zai ?_
  refine zaa 1 rfl ?_
  refine zab ?_
  refine zau ?_
  refine qo (rs1 rfl (qB rfl)) rfl ?_
  have hne : l ≠ r := fun e => by subst e; exact c1 rfl
  rw [decide_eq_false hne]
 ·try simp only [decide_eq_true_eq, decide_eq_false_iff_not, beq_iff_eq, bne_iff_ne, beq_eq_false_iff_ne, bne_eq_false_iff_eq, qbl, qbm, qbi, qbo, qbk, ne_eq, Decidable.not_not, qbz, qbA] at c1
  have hlen : l.length = r.length := by omega
  refine zao ?_
  refine zad ?_
  refine zai ?_
  refine zaa 1 rfl ?_
  refine za rfl (qm rfl jo (ev1 rfl)) ?_
  refine zaa 1 rfl ?_
  refine zab ?_
  refine zav ?_
  refine qE ⟨hs0, rfl⟩ (α := Nat) (fun k => [(13, .val (.int .i64 (k : Int)))]) [(0, _), (1, _), (12, _)] (fun k => []) [] (fun k => k ≤ l.length ∧ l.take k = r.take k) (fun k => l.length - k) 0 [] (by simp) rfl ⟨rfl, rfl, rfl, trivial⟩ ⟨rfl, trivial⟩ trivial ?_
  intro k hx
  simp only [upd, zaf, zag, qbp, qbq]
  obtain ⟨hk, he⟩ := hx
  refine zai ?_
  refine za rfl (qq rfl (ev1 rfl) (ev1 rfl)) ?_
  refine zab ?_
  refine zad ?_
  refine qi rfl (fun c2 => ?_) (fun c2 => ?_)
  ·try simp only [decide_eq_true_eq, decide_eq_false_iff_not, beq_iff_eq, bne_iff_ne, beq_eq_false_iff_ne, bne_eq_false_iff_eq, qbl, qbm, qbi, qbo, qbk, ne_eq, Decidable.not_not, qbz, qbA] at c2
   refine zao ?_
   refine zad ?_
   refine zav ?_
   refine zai ?_
   refine zaa 2 rfl ?_
   refine zab ?_
   refine zad ?_
   refine qh [([], []), ([], []), ([], []), ([], []), ([], []), ([], []), ([], []), ([], []), ([], [])] qJ (by kernel_rfl) ?_
   refine zae rfl rfl (zaj (.inl rfl) (ev1 rfl)) ?_
   refine zae rfl rfl (zaj (.inl rfl) (ev1 rfl)) ?_
   refine zae rfl rfl (qu (j := k) rfl jo (ev1 rfl) (ev1 rfl) qb (by decide) (by omega) (by omega)) ?_
   refine zae rfl rfl (vr rfl qS (ev1 rfl) (qb _)) ?_
   refine zae rfl rfl (zaj (.inl rfl) (ev1 rfl)) ?_
   refine zae rfl rfl (zaj (.inl rfl) (ev1 rfl)) ?_
   refine zae rfl rfl (qu (j := k) rfl jo (ev1 rfl) (ev1 rfl) qb (by decide) (by omega) (by omega)) ?_
   refine zae rfl rfl (vr rfl qS (ev1 rfl) (qb _)) ?_
   refine zae rfl rfl (QA xA rfl xB qS (ev1 rfl) (ev1 rfl)) ?_
   refine ql ?_
   refine qi rfl (fun c2 => ?_) (fun c2 => ?_)
   ·have c3 : l[k] ≠ r[k] := by simpa using c2
    refine zai ?_
    refine zaa 1 rfl ?_
    refine zab ?_
    refine zau ?_
    refine qo (rs1 rfl (qB rfl)) rfl ?_
    have hne : l ≠ r := fun e => by subst e; exact c3 rfl
    rw [decide_eq_false hne]
   ·have c3 : l[k] = r[k] := by simpa using c2
    refine zao ?_
    refine zac ?_
    refine za rfl (qc rfl (ev1 rfl) (ev1 rfl) (fun _ => qbg _ (by omega))) ?_
    refine zaa 1 rfl ?_
    refine zab ?_
    refine ⟨k + 1, [], ⟨by omega, by rw [qbK (by omega), qbK (by omega), he, c3]⟩, by simp only []; omega, rfl, ⟨rfl, rfl, rfl, rfl, trivial⟩, trivial⟩
  ·try simp only [decide_eq_true_eq, decide_eq_false_iff_not, beq_iff_eq, bne_iff_ne, beq_eq_false_iff_ne, bne_eq_false_iff_eq, qbl, qbm, qbi, qbo, qbk, ne_eq, Decidable.not_not, qbz, qbA] at c2
   refine qz ?_
   refine zai ?_
   refine zaa 1 rfl ?_
   refine zab ?_
   refine zau ?_
   refine qo (rs1 rfl (qB rfl)) rfl ?_
   have e : l = r := by
    have h := he
    rw [qbJ (by omega), qbJ (by omega)] at h
    exact h
   rw [decide_eq_true e]
theorem qaj (l : List TL) (h : l.length ≤ 5000) : DFun Tryz.prog 38 [.slf 256 l.length (l.flatMap tc)] [] (.arr 0) [.arr 84 256 l.length (l.flatMap tc)] := by
 refine zap (N := 8) 0 (by kernel_rfl) Tryz.func38 rfl rfl rfl (by simp only [fr0, qbh, qbj]; exact rfl) rfl fun s0 hs0 => ?_
 refine ko (t := 0) rfl fun hl0 hL0 => ?_
 refine zai ?_
 refine zaa 1 rfl ?_
 refine zab ?_
 refine zad ?_
 refine zai ?_
 refine zaa 1 rfl ?_
 refine Jx rfl rfl rfl rfl jo (ev1 rfl) fun nb4 hnb4 => ?_
 refine zab ?_
 refine qi rfl (fun c1 => ?_) (fun c1 => ?_)
 ·try simp only [decide_eq_true_eq, decide_eq_false_iff_not, beq_iff_eq, bne_iff_ne, beq_eq_false_iff_ne, bne_eq_false_iff_eq, qbl, qbm, qbi, qbo, qbk, ne_eq, Decidable.not_not, qbz, qbA] at c1
  refine zai ?_
  refine zaa 1 rfl ?_
  refine zab ?_
  refine gP 2 84 256 rfl rfl rfl ?_
  refine zau ?_
  refine km [0] (rs1 rfl (qB rfl)) rfl rfl ?_ ⟨?_, trivial⟩
  rfl
  exact (by obtain ⟨h1, h2⟩ := hnb4 c1; simp_all [MFits, vwB])
 ·try simp only [decide_eq_true_eq, decide_eq_false_iff_not, beq_iff_eq, bne_iff_ne, beq_eq_false_iff_ne, bne_eq_false_iff_eq, qbl, qbm, qbi, qbo, qbk, ne_eq, Decidable.not_not, qbz, qbA] at c1
  refine zao ?_
  refine zad ?_
  refine zam 2 ?_
  refine zac ?_
  refine zal rfl (gj (ps := []) 0 rfl jo kN rfl vn rfl (by decide) (by decide) rfl) ?_
  refine zaa 1 rfl ?_
  refine zal rfl (jd (j := 1) rfl jo kN rfl (ev1 rfl) (ev1 rfl) j9 rfl rfl (fun _ => jF (fun t => jF (fun _ => rfl) t.l) l) (fun _ => ⟨by omega, by omega⟩)) ?_
  refine zaa 1 rfl ?_
  refine zab ?_
  refine zau ?_
  refine km [1] (rs1 rfl (qB rfl)) rfl rfl ?_ ⟨?_, trivial⟩
  rfl
  simp [vwB]
theorem Xd (l : List TL) (h : l.length ≤ 5000) : DFun Tryz.prog 38 [.slf 256 l.length (l.flatMap tc)] [] (.slf 256 l.length (l.flatMap tc)) [] := gz (qaj l h) rfl
theorem YJ (w h : Int) (ts : List TL) : DFun Tryz.prog 41 [shD w h ts] [] (.val (.int .i64 (wv (kR w h ts) 150))) [] := by
 refine zap (N := 23) 0 (by kernel_rfl) Tryz.func41 rfl rfl rfl (by simp only [fr0, qbh, qbj]; exact rfl) rfl fun s0 hs0 => ?_
 refine zad ?_
 refine zam 1 ?_
 refine zac ?_
 refine zal rfl (qp 0 rfl (ev1 rfl) rfl) ?_
 refine zaa 1 rfl ?_
 refine zab ?_
 refine zad ?_
 refine zad ?_
 refine zam 1 ?_
 refine zac ?_
 refine za rfl (zas rfl gJ (ev1 rfl)) ?_
 refine za rfl (zat rfl tb3 (ev1 rfl) rfl rfl) ?_
 refine za rfl (zas rfl gK (ev1 rfl)) ?_
 refine za rfl (zat rfl tb3 (ev1 rfl) rfl rfl) ?_
 refine za rfl (kJ (ps := [(0, .tmp 5), (1, .tmp 7)]) rfl UX JO (vc (ev1 rfl) (vc (ev1 rfl) vn)) rfl rfl) ?_
 refine zal rfl (zan 1 rfl JO rfl) ?_
 refine zaq rfl (qr rfl KK (ev1 rfl) (ev1 rfl) rfl rfl rfl rfl) ?_
 refine zab ?_
 refine zai ?_
 refine za rfl (qL rfl KK (ev1 rfl) rfl rfl) ?_
 refine za rfl (zak [] [] [] rfl (ev1 rfl) (ec (ev1 rfl) en) rfl rfl (QQ _ _) rfl rfl rfl rfl rfl rfl) ?_
 refine za rfl (ku rfl (ev1 rfl)) ?_
 refine zaa 1 rfl ?_
 refine zah (qa rfl rfl rfl) rfl rfl rfl (zas rfl jR (ev1 rfl)) ?_
 refine zah (qa rfl rfl rfl) rfl rfl rfl (zat rfl vS (ev2 rfl) rfl rfl) ?_
 refine zah (qa rfl rfl rfl) rfl rfl rfl (qm rfl jo (ev2 rfl)) ?_
 refine zah (qa rfl rfl rfl) rfl rfl rfl (zas rfl GG (ev1 rfl)) ?_
 refine zah (qa rfl rfl rfl) rfl rfl rfl (qx rfl tb3 (ev2 rfl) rfl rfl) ?_
 refine zah (qa rfl rfl rfl) rfl rfl rfl (zas rfl GH (ev1 rfl)) ?_
 refine zah (qa rfl rfl rfl) rfl rfl rfl (qx rfl tb3 (ev2 rfl) rfl rfl) ?_
 refine zah (qa rfl rfl rfl) rfl rfl rfl (Qv rfl (ev2 rfl) (ev2 rfl)) ?_
 refine zah (qa rfl rfl rfl) rfl rfl rfl (qV rfl (ev2 rfl) (ev2 rfl)) ?_
 refine za rfl (qK rfl (ev1 rfl) (ev3 rfl id)) ?_
 refine zab ?_
 refine qi rfl (fun c1 => ?_) (fun c1 => ?_)
 ·have hr : kR w h ts = false := by
   cases hm : jV w h with
   | false => unfold kR; rw [hm]; rfl
   | true =>
    have hb := wg hm
    rw [hm, qbg _ (by omega)] at c1
    simp at c1
    unfold kR
    rw [decide_eq_false (by omega)]
    exact Bool.and_false _
  refine zai ?_
  refine zaa 1 rfl ?_
  refine zab ?_
  refine zau ?_
  refine qo (rs1 rfl (qB rfl)) rfl ?_
  rw [hr]
  rfl
 ·have hr : kR w h ts = true := by
   cases hm : jV w h with
   | false => rw [hm] at c1; simp at c1
   | true =>
    have hb := wg hm
    rw [hm, qbg _ (by omega)] at c1
    simp at c1
    unfold kR
    rw [hm, decide_eq_true (by omega)]
    rfl
  refine zao ?_
  refine zai ?_
  refine zaa 1 rfl ?_
  refine zab ?_
  refine zau ?_
  refine qo (rs1 rfl (qB rfl)) rfl ?_
  rw [hr]
  rfl
theorem Z3 (w h w2 h2 : Int) (ts us : List TL) : DFun Tryz.prog 43 [shD w h ts, shD w2 h2 us] [] (.val (.bool (decide (w = w2 ∧ h = h2 ∧ ts = us)))) [] := by
 refine zap (N := 24) 0 (by kernel_rfl) Tryz.func43 rfl rfl rfl (by simp only [fr0, qbh, qbj]; exact rfl) rfl fun s0 hs0 => ?_
 refine zad ?_
 refine zam 2 ?_
 refine zac ?_
 refine zal rfl (qp 0 rfl (ev1 rfl) rfl) ?_
 refine zal rfl (qp 1 rfl (ev1 rfl) rfl) ?_
 refine zaa 1 rfl ?_
 refine zab ?_
 refine zai ?_
 refine za rfl (zas rfl gJ (ev1 rfl)) ?_
 refine za rfl (zat rfl tb3 (ev1 rfl) rfl rfl) ?_
 refine za rfl (zas rfl gJ (ev1 rfl)) ?_
 refine za rfl (zat rfl tb3 (ev1 rfl) rfl rfl) ?_
 refine za rfl (qj rfl (ev1 rfl) (ev1 rfl)) ?_
 refine zaa 1 rfl ?_
 refine zah (qd rfl rfl rfl) rfl rfl rfl (zas rfl gK (ev1 rfl)) ?_
 refine zah (qd rfl rfl rfl) rfl rfl rfl (zat rfl tb3 (ev2 rfl) rfl rfl) ?_
 refine zah (qd rfl rfl rfl) rfl rfl rfl (zas rfl gK (ev1 rfl)) ?_
 refine zah (qd rfl rfl rfl) rfl rfl rfl (zat rfl tb3 (ev2 rfl) rfl rfl) ?_
 refine zah (qd rfl rfl rfl) rfl rfl rfl (qj rfl (ev2 rfl) (ev2 rfl)) ?_
 refine za rfl (qF rfl (ev1 rfl) (ev3 rfl id)) ?_
 refine zaa 1 rfl ?_
 refine zah (qd rfl rfl rfl) rfl rfl rfl (zas rfl jR (ev1 rfl)) ?_
 refine zah (qd rfl rfl rfl) rfl rfl rfl (zat rfl vS (ev2 rfl) rfl rfl) ?_
 refine zah (qd rfl rfl rfl) rfl rfl rfl (zas rfl jR (ev1 rfl)) ?_
 refine zah (qd rfl rfl rfl) rfl rfl rfl (zat rfl vS (ev2 rfl) rfl rfl) ?_
 refine zah (qd rfl rfl rfl) rfl rfl rfl (zak [] [] [] rfl (ev1 rfl) (ec (ev2 rfl) (ec (ev2 rfl) en)) rfl rfl (qai _ _) rfl rfl rfl rfl rfl rfl) ?_
 refine za rfl (qF rfl (ev1 rfl) (ev3 rfl id)) ?_
 refine zaa 1 rfl ?_
 refine zab ?_
 refine zau ?_
 refine qo (rs1 rfl (qB rfl)) rfl ?_
 rw [D.val.injEq, Value.bool.injEq, Bool.eq_iff_iff]
 simp [and_assoc]
theorem qak (w h w2 h2 : Int) (ts us : List TL) (hn : ts.length ≤ 5000) : DFun Tryz.prog 44 [shD w h ts, shD w2 h2 us] [] (.val (.bool (decide (w = w2 ∧ h = h2 ∧ ts = us)))) [] := by
 refine zap (N := 44) 0 (by kernel_rfl) Tryz.func44 rfl rfl rfl (by simp only [fr0, qbh, qbj]; exact rfl) rfl fun s0 hs0 => ?_
 refine zad ?_
 refine zam 2 ?_
 refine zac ?_
 refine zal rfl (qp 0 rfl (ev1 rfl) rfl) ?_
 refine zal rfl (qp 1 rfl (ev1 rfl) rfl) ?_
 refine zaa 1 rfl ?_
 refine zab ?_
 refine zad ?_
 refine zai ?_
 refine za rfl (zas rfl gJ (ev1 rfl)) ?_
 refine za rfl (zat rfl tb3 (ev1 rfl) rfl rfl) ?_
 refine za rfl (zas rfl gJ (ev1 rfl)) ?_
 refine za rfl (zat rfl tb3 (ev1 rfl) rfl rfl) ?_
 refine za rfl (qV rfl (ev1 rfl) (ev1 rfl)) ?_
 refine zaa 1 rfl ?_
 refine zah (qa rfl rfl rfl) rfl rfl rfl (zas rfl gK (ev1 rfl)) ?_
 refine zah (qa rfl rfl rfl) rfl rfl rfl (zat rfl tb3 (ev2 rfl) rfl rfl) ?_
 refine zah (qa rfl rfl rfl) rfl rfl rfl (zas rfl gK (ev1 rfl)) ?_
 refine zah (qa rfl rfl rfl) rfl rfl rfl (zat rfl tb3 (ev2 rfl) rfl rfl) ?_
 refine zah (qa rfl rfl rfl) rfl rfl rfl (qV rfl (ev2 rfl) (ev2 rfl)) ?_
 refine za rfl (qK rfl (ev1 rfl) (ev3 rfl id)) ?_
 refine zaa 1 rfl ?_
 refine zah (qa rfl rfl rfl) rfl rfl rfl (zas rfl jR (ev1 rfl)) ?_
 refine zah (qa rfl rfl rfl) rfl rfl rfl (zat rfl vS (ev2 rfl) rfl rfl) ?_
 refine zah (qa rfl rfl rfl) rfl rfl rfl (qm rfl jo (ev2 rfl)) ?_
 refine zah (qa rfl rfl rfl) rfl rfl rfl (zas rfl jR (ev1 rfl)) ?_
 refine zah (qa rfl rfl rfl) rfl rfl rfl (zat rfl vS (ev2 rfl) rfl rfl) ?_
 refine zah (qa rfl rfl rfl) rfl rfl rfl (qm rfl jo (ev2 rfl)) ?_
 refine zah (qa rfl rfl rfl) rfl rfl rfl (qV rfl (ev2 rfl) (ev2 rfl)) ?_
 refine za rfl (qK rfl (ev1 rfl) (ev3 rfl id)) ?_
 refine zab ?_
 refine qi rfl (fun c1 => ?_) (fun c1 => ?_)
 ·have hne : ¬ (w = w2 ∧ h = h2 ∧ ts = us) := by
   rintro ⟨rfl, rfl, rfl⟩
   simp at c1
  refine zai ?_
  refine zaa 1 rfl ?_
  refine zab ?_
  refine zau ?_
  refine qo (rs1 rfl (qB rfl)) rfl ?_
  rw [decide_eq_false hne]
 ·obtain ⟨rfl, rfl, hlen⟩ : w = w2 ∧ h = h2 ∧ ts.length = us.length := by
   simp at c1
   omega
  refine zao ?_
  refine zad ?_
  refine zai ?_
  refine za rfl (zas rfl jR (ev1 rfl)) ?_
  refine za rfl (zat rfl vS (ev1 rfl) rfl rfl) ?_
  refine za rfl (qm rfl jo (ev1 rfl)) ?_
  refine zaa 1 rfl ?_
  refine zab ?_
  refine zav ?_
  refine qE ⟨hs0, rfl⟩ (α := Nat) (fun k => [(31, .val (.int .i64 (k : Int)))]) [(3, _), (29, _), (30, _)] (fun k => []) [_, _] (fun k => k ≤ ts.length ∧ ts.take k = us.take k) (fun k => ts.length - k) 0 [0, 1] (by simp) rfl ⟨rfl, rfl, rfl, trivial⟩ ⟨rfl, trivial⟩ ⟨rfl, rfl, trivial⟩ ?_
  intro k hx
  simp only [upd, zaf, zag, qbp, qbq]
  obtain ⟨hk, he⟩ := hx
  refine zai ?_
  refine za rfl (qq rfl (ev1 rfl) (ev1 rfl)) ?_
  refine zab ?_
  refine zad ?_
  refine qi rfl (fun c2 => ?_) (fun c2 => ?_)
  ·try simp only [decide_eq_true_eq, decide_eq_false_iff_not, beq_iff_eq, bne_iff_ne, beq_eq_false_iff_ne, bne_eq_false_iff_eq, qbl, qbm, qbi, qbo, qbk, ne_eq, Decidable.not_not, qbz, qbA] at c2
   refine zao ?_
   refine zad ?_
   refine zav ?_
   refine zad ?_
   refine zam 1 ?_
   refine zac ?_
   refine zaa 1 rfl ?_
   refine za rfl (qu (j := k) rfl jo (ev1 rfl) (ev1 rfl) qb (by decide) (by omega) (by omega)) ?_
   refine za rfl (vr rfl qS (ev1 rfl) (qb _)) ?_
   refine zal rfl (zan 2 rfl kN rfl) ?_
   refine zaa 1 rfl ?_
   refine zaq rfl (qr rfl qS (ev1 rfl) (ev1 rfl) rfl (qb _) (k7 _) ((qb _).trans (qb _).symm)) ?_
   refine zab ?_
   refine zad ?_
   refine qh [([2], []), ([], []), ([1], []), ([], []), ([], []), ([], []), ([], [])] qJ (by kernel_rfl) ?_
   refine zae rfl rfl (qL rfl qS (ev1 rfl) rfl (qb _)) ?_
   refine zae rfl rfl (zas rfl jR (ev1 rfl)) ?_
   refine zae rfl rfl (zat rfl vS (ev1 rfl) rfl rfl) ?_
   refine zae rfl rfl (zaj (.inl rfl) (ev1 rfl)) ?_
   refine zae rfl rfl (qu (j := k) rfl jo (ev1 rfl) (ev1 rfl) qb (by decide) (by omega) (by omega)) ?_
   refine zae rfl rfl (vr rfl qS (ev1 rfl) (qb _)) ?_
   refine zae rfl rfl (QA xA rfl xB qS (ev1 rfl) (ev1 rfl)) ?_
   refine ql ?_
   refine qi rfl (fun c2 => ?_) (fun c2 => ?_)
   ·have c3 : ts[k] ≠ us[k] := by simpa using c2
    refine zai ?_
    refine zaa 1 rfl ?_
    refine zab ?_
    refine zau ?_
    refine qo (rs1 rfl (qB rfl)) rfl ?_
    have hne : ¬ (w = w ∧ h = h ∧ ts = us) := by
     rintro ⟨_, _, rfl⟩
     exact c3 rfl
    have hne : ts ≠ us := fun e => hne ⟨rfl, rfl, e⟩
    simp [hne]
   ·have c3 : ts[k] = us[k] := by simpa using c2
    refine zao ?_
    refine zac ?_
    refine za rfl (qc rfl (ev1 rfl) (ev1 rfl) (fun _ => qbg _ (by omega))) ?_
    refine zaa 1 rfl ?_
    refine zab ?_
    refine ⟨k + 1, [0, 1], ⟨by omega, by rw [qbK (by omega), qbK (by omega), he, c3]⟩, by simp only []; omega, rfl, ⟨rfl, rfl, rfl, rfl, trivial⟩, ⟨rfl, rfl, trivial⟩⟩
  ·try simp only [decide_eq_true_eq, decide_eq_false_iff_not, beq_iff_eq, bne_iff_ne, beq_eq_false_iff_ne, bne_eq_false_iff_eq, qbl, qbm, qbi, qbo, qbk, ne_eq, Decidable.not_not, qbz, qbA] at c2
   refine qz ?_
   refine zai ?_
   refine zaa 1 rfl ?_
   refine zab ?_
   refine zau ?_
   refine qo (rs1 rfl (qB rfl)) rfl ?_
   have e : ts = us := by
    have h := he
    rw [qbJ (by omega), qbJ (by omega)] at h
    exact h
   simp [e]
end Go.Proofs.YtofklkbfkoliiaaGreat
namespace Go.Proofs.YtofklkbfkoliiaaGreat
set_option linter.unusedVariables false
set_option linter.unusedSimpArgs false
open Go.RowKit
theorem uC (t : TL) : ([Value.agg (tc t).toArray].all fun v => v.cells.size == 256) = true := by
 show ((tc t).toArray.size == 256 && true) = true
 rw [List.size_toArray, qb]; rfl
theorem Ak (t : TL) : ([Value.agg (tc t).toArray].flatMap fun v => v.cells.toList) = tc t := by rw [qbB]; exact qbV _
theorem vF (t : TL) : ([Value.agg (tc t).toArray].flatMap fun v => v.cells.toList).all (·.oneCell') = true := by rw [Ak]; exact k7 t
theorem new_d (c : C4) : DFun Tryz.prog 132 [.val (.agg (c4 c).toArray)] [] (tD (nT c)) [] := by
 refine zap (N := 13) 0 (by kernel_rfl) Tryz.func132 rfl rfl rfl (by simp only [fr0, qbh, qbj]; exact rfl) rfl fun s0 hs0 => ?_
 refine zad ?_
 refine zam 2 ?_
 refine zac ?_
 refine zal rfl (j8 0 rfl (ev1 rfl) rfl) ?_
 refine zal rfl (zan 1 rfl kN rfl) ?_
 refine zab ?_
 refine zad ?_
 refine zam 1 ?_
 refine zac ?_
 refine zal rfl (zan 2 rfl kN rfl) ?_
 refine zab ?_
 refine zad ?_
 refine zai ?_
 refine zaa 1 rfl ?_
 refine zab ?_
 refine zav ?_
 refine qE ⟨hs0, rfl⟩ (α := Nat) (fun k => [(5, .val (.int .i64 (k : Int)))]) [(1, _), (2, _), (3, _)] (fun k => [(2, .flat 84 (tc (KG c k)))]) [_, _, .hole] (fun k => k ≤ 64) (fun k => 64 - k) 0 [0, 1, 2] (by simp) rfl ⟨rfl, rfl, rfl, trivial⟩ ⟨rfl, trivial⟩ ⟨rfl, rfl, rfl, trivial⟩ ?_
 intro k hx
 simp only [upd, zaf, zag, qbp, qbq]
 have hk := hx
 refine zai ?_
 refine za rfl (qq rfl (ev1 rfl) (ev1 rfl)) ?_
 refine zab ?_
 refine zad ?_
 refine qi rfl (fun c1 => ?_) (fun c1 => ?_)
 ·try simp only [decide_eq_true_eq, decide_eq_false_iff_not, beq_iff_eq, bne_iff_ne, beq_eq_false_iff_ne, bne_eq_false_iff_eq, qbl, qbm, qbi, qbo, qbk, ne_eq, Decidable.not_not, qbz, qbA] at c1
  refine zao ?_
  refine zad ?_
  refine zav ?_
  refine zai ?_
  refine zaa 2 rfl ?_
  refine zab ?_
  refine zac ?_
  refine zaa 1 rfl ?_
  refine za rfl (qL rfl yG (ev1 rfl) rfl rfl) ?_
  refine za rfl (gr (j := k) rfl vE (ev1 rfl) (ev1 rfl) (fun _ => by omega) (fun _ => by omega)) ?_
  refine zaq rfl (wb (q := c) rfl yG (ev1 rfl) (ev1 rfl) rfl rfl rfl (fun _ => rfl) (fun _ => by rw [TL.h]; omega)) ?_
  refine zab ?_
  refine zac ?_
  refine za rfl (qc rfl (ev1 rfl) (ev1 rfl) (fun _ => qbg _ (by omega))) ?_
  refine zaa 1 rfl ?_
  refine zab ?_
  refine ⟨k + 1, [0, 1, 2], by omega, by simp only []; omega, rfl, ⟨rfl, rfl, rfl, rfl, trivial⟩, ⟨rfl, rfl, by rw [Wo]; rfl, trivial⟩⟩
 ·try simp only [decide_eq_true_eq, decide_eq_false_iff_not, beq_iff_eq, bne_iff_ne, beq_eq_false_iff_ne, bne_eq_false_iff_eq, qbl, qbm, qbi, qbo, qbk, ne_eq, Decidable.not_not, qbz, qbA] at c1
  refine qz ?_
  refine zai ?_
  refine za rfl (qL rfl qS (ev1 rfl) rfl (qb _)) ?_
  refine zaq rfl (qr rfl qS (ev1 rfl) (ev1 rfl) rfl (qb _) (k7 _) ((qb _).trans (qb _).symm)) ?_
  refine zab ?_
  refine zau ?_
  refine qo (rs1 rfl (gy qS rfl rfl (qb _))) rfl ?_
  rw [show k = 64 by omega, UR]
def vV (A : List Nat) (ts : List TL) : List D := (A.zip ts).map fun p => .pin p.1 (tc p.2)
theorem JQ {A : List Nat} {ts : List TL} (h : A.length = ts.length) : (vV A ts).length = ts.length := by simp [vV, h]
theorem YK {A : List Nat} {ts : List TL} {q : Nat} {d : D} (hd : (vV A ts)[q]? = some d) : ∃ b t, A[q]? = some b ∧ ts[q]? = some t ∧ d = .pin b (tc t) := by
 unfold vV at hd
 rw [List.getElem?_map] at hd
 cases e : (A.zip ts)[q]? with
 | none => rw [e] at hd; cases hd
 | some p =>
  rw [e] at hd
  obtain ⟨h1, h2⟩ := List.getElem?_zip_eq_some.1 e
  cases hd
  exact ⟨p.1, p.2, h1, h2, rfl⟩
theorem Z4 {l : List D} (h : ∀ d ∈ l, d.nl = true) : D.nlL l = true := by
 induction l with
 | nil => rfl
 | cons d l ih => rw [D.nlL, h d (by simp), ih fun e he => h e (by simp [he])]; rfl
theorem KN {A : List Nat} {ts : List TL} (h : A.length = ts.length) : RowOk (vV A ts) ts := by
 have hm : ∀ d ∈ vV A ts, ∃ b t, d = .pin b (tc t) := fun d hd => by
  obtain ⟨q, hq⟩ := List.getElem?_of_mem hd
  obtain ⟨b, t, _, _, e⟩ := YK hq
  exact ⟨b, t, e⟩
 refine ⟨JQ h, Z4 fun d hd => ?_, qbL.2 fun d hd => ?_, fun q d t h1 h2 => ?_⟩
 ·obtain ⟨b, t, rfl⟩ := hm d hd; rfl
 ·obtain ⟨b, t, rfl⟩ := hm d hd; rfl
 ·obtain ⟨b, u, h3, h4, rfl⟩ := YK h1
  rw [h2] at h4
  cases h4
  exact Wk.pin _ _
theorem Wz {A : List Nat} {ts : List TL} (h : A.length = ts.length) (b : Nat) (t : TL) : vV (A ++ [b]) (ts ++ [t]) = vV A ts ++ [.pin b (tc t)] := by
 unfold vV
 rw [List.zip_append h, List.map_append]
 rfl
theorem JR (A : List Nat) (b : Nat) (t : TL) : vV A (qbs A.length t) ++ List.flatMap D.cs [.pin b (tc t)] = vV (A ++ [b]) (qbs (A ++ [b]).length t) := by
 rw [qbf, show A.length + [b].length = A.length + 1 from rfl, List.replicate_succ', Wz (by simp)]
 rfl
def NewCv (I : Nat → Prop) (w h : Int) (ts : List TL) (d : D) : Prop := ∃ A : List Nat, A.length = ts.length ∧ (∀ b ∈ A, ¬ I b) ∧ d = cvD w h (vV A ts)
def Okd (Q : D → Prop) (d : D) : Prop := ∃ e, Q e ∧ d = .tup [e, .val (.int .i64 0)]
theorem qal (w h : Int) (hm : jV w h = false) : DFun Tryz.prog 121 [.val (.int .i64 w), .val (.int .i64 h)] [] (.tup [.val (.pointer none), .val (.int .i64 2)]) [] := by
 refine zap (N := 36) 0 (by kernel_rfl) Tryz.func121 rfl rfl rfl (by simp only [fr0, qbh, qbj]; exact rfl) rfl fun s0 hs0 => ?_
 refine zai ?_
 refine zaa 2 rfl ?_
 refine zab ?_
 refine zad ?_
 refine zam 1 ?_
 refine zac ?_
 refine zaa 2 rfl ?_
 refine za rfl (kJ (ps := [(0, .tmp 9), (1, .tmp 10)]) rfl UX JO (vc (ev1 rfl) (vc (ev1 rfl) vn)) rfl rfl) ?_
 refine zal rfl (zan 0 rfl JO rfl) ?_
 refine zaq rfl (qr rfl KK (ev1 rfl) (ev1 rfl) rfl rfl rfl rfl) ?_
 refine zab ?_
 refine zad ?_
 refine zai ?_
 refine za rfl (qL rfl KK (ev1 rfl) rfl rfl) ?_
 refine za rfl (zak [] [] [] rfl (ev1 rfl) (ec (ev1 rfl) en) rfl rfl (QQ _ _) rfl rfl rfl rfl rfl rfl) ?_
 refine za rfl (ku rfl (ev1 rfl)) ?_
 refine zab ?_
 refine qt rfl (by rw [hm]; rfl) ?_
 refine zai ?_
 refine zaa 2 rfl ?_
 refine zab ?_
 refine zau ?_
 refine qo (rs2 rfl (qB rfl) (qB rfl)) rfl ?_
 rfl
theorem qam (w h : Int) (n : Nat) (hm : jV w h = true) (hn : w * h = (n : Int)) : DFunI Tryz.prog 121 [.val (.int .i64 w), .val (.int .i64 h)] [] (fun I => Okd (NewCv I w h (qbs n (nT zC4)))) [] := by
 have hb := wg hm
 refine QI (N := 36) 0 (by kernel_rfl) Tryz.func121 rfl rfl rfl (by simp only [fr0, qbh, qbj]; exact rfl) rfl fun s0 hs0 => ?_
 refine zai ?_
 refine zaa 2 rfl ?_
 refine zab ?_
 refine zad ?_
 refine zam 1 ?_
 refine zac ?_
 refine zaa 2 rfl ?_
 refine za rfl (kJ (ps := [(0, .tmp 9), (1, .tmp 10)]) rfl UX JO (vc (ev1 rfl) (vc (ev1 rfl) vn)) rfl rfl) ?_
 refine zal rfl (zan 0 rfl JO rfl) ?_
 refine zaq rfl (qr rfl KK (ev1 rfl) (ev1 rfl) rfl rfl rfl rfl) ?_
 refine zab ?_
 refine zad ?_
 refine zai ?_
 refine za rfl (qL rfl KK (ev1 rfl) rfl rfl) ?_
 refine za rfl (zak [] [] [] rfl (ev1 rfl) (ec (ev1 rfl) en) rfl rfl (QQ _ _) rfl rfl rfl rfl rfl rfl) ?_
 refine za rfl (ku rfl (ev1 rfl)) ?_
 refine zab ?_
 refine qf rfl (by rw [hm]; rfl) ?_
 refine zao ?_
 refine zad ?_
 refine zam 1 ?_
 refine zac ?_
 refine za rfl (qL rfl KK (ev1 rfl) rfl rfl) ?_
 refine za rfl (kJ (ps := [(0, .tmp 15)]) rfl fl210 zr210 (vc (ev1 rfl) vn) rfl rfl) ?_
 refine zal rfl (j8 1 rfl (ev1 rfl) rfl) ?_
 refine zaa 1 rfl ?_
 refine zab ?_
 refine zad ?_
 refine zad ?_
 refine jf 1 yO rfl rfl (by simp only [qbp, qbq, zaf, zag, List.map]; exact rfl) ?_
 refine we (l' := [.val (.int .i64 w), .val (.int .i64 h), .arr 2]) 1 2 194 1 rfl rfl rfl rfl (by simp only [qbp, qbq, zaf, zag]; exact rfl) ?_
 refine zac ?_
 refine zaa 2 rfl ?_
 refine za rfl (jL rfl (ev1 rfl) (ev1 rfl) (fun _ => qbg _ (by omega))) ?_
 refine zaa 1 rfl ?_
 refine zab ?_
 refine zav ?_
 refine qE ⟨hs0, rfl⟩ (α := List Nat) (fun A => [(21, .val (.int .i64 (A.length : Int)))]) [(7, _), (20, _)] (fun A => [(2, .arx 194 1 A.length (vV A (qbs A.length (nT zC4))))]) [_, _, .hole] (fun A => A.length ≤ n ∧ ∀ b ∈ A, ¬ s0.I b) (fun A => n - A.length) [] [0, 1, 2] (⟨qbO _, fun b hb => by simp at hb⟩) rfl ⟨rfl, rfl, trivial⟩ ⟨rfl, trivial⟩ ⟨rfl, rfl, rfl, trivial⟩ ?_
 intro A hx
 simp only [upd, zaf, zag, qbp, qbq]
 obtain ⟨hA, hAI⟩ := hx
 refine zai ?_
 refine za rfl (qq rfl (ev1 rfl) (ev1 rfl)) ?_
 refine zab ?_
 refine zad ?_
 refine qi rfl (fun c2 => ?_) (fun c2 => ?_)
 ·try simp only [decide_eq_true_eq, decide_eq_false_iff_not, beq_iff_eq, bne_iff_ne, beq_eq_false_iff_ne, bne_eq_false_iff_eq, qbl, qbm, qbi, qbo, qbk, ne_eq, Decidable.not_not, qbz, qbA] at c2
  refine zao ?_
  refine zad ?_
  refine zav ?_
  refine zad ?_
  refine zam 1 ?_
  refine zac ?_
  refine za rfl (kH rfl YG GJ) ?_
  refine za rfl (zak [] [] [] rfl (ev1 rfl) (ec (ev1 rfl) en) rfl rfl (new_d zC4) rfl rfl rfl rfl rfl rfl) ?_
  refine zal rfl (zan 3 rfl kN rfl) ?_
  refine zaq rfl (qr rfl qS (ev1 rfl) (ev1 rfl) rfl (qb _) (k7 _) ((qb _).trans (qb _).symm)) ?_
  refine zab ?_
  refine ZV 8 rfl rfl (by simp only [zaf, zag]; exact rfl) fun b hb => ?_
  refine zam 1 ?_
  refine zac ?_
  refine zaa 2 rfl ?_
  refine za rfl (qC rfl (ev1 rfl) (fun s v h => by cases h; exact ⟨_, rfl⟩)) ?_
  refine za rfl (zas rfl VF (ev1 rfl)) ?_
  refine za rfl (zat rfl Ah (ev1 rfl) rfl rfl) ?_
  refine za rfl (QG (ps := [(0, .tmp 8)]) rfl Ab Aj rfl (ec (ev1 rfl) en) rfl rfl rfl (by rfl) rfl (by decide) (by decide)) ?_
  refine zal rfl (Vt (j := 4) rfl Ab Aj rfl (ev1 rfl) (ev1 rfl) rfl rfl (rfl) (fun _ => ⟨by omega, by omega⟩)) ?_
  refine za rfl (qC rfl (ev1 rfl) (fun s v h => by cases h; exact ⟨_, rfl⟩)) ?_
  refine za rfl (zas rfl VF (ev1 rfl)) ?_
  refine zaq rfl (kQ rfl Ah (ev1 rfl) (ev1 rfl) (fun s v h => by cases h <;> exact ⟨rfl, rfl⟩) rfl (by first | decide | exact qbr rfl | simp)) ?_
  refine zab ?_
  refine zac ?_
  refine za rfl (qc rfl (ev1 rfl) (ev1 rfl) (fun _ => qbg _ (by omega))) ?_
  refine zaa 1 rfl ?_
  refine zab ?_
  refine ⟨A ++ [b], [0, 1, 4], ⟨by simp; omega, fun c hc => by
  rcases List.mem_append.1 hc with hc | hc
  ·exact hAI c hc
  ·simp at hc; subst hc; exact hb⟩, by simp; omega, rfl, ⟨by rw [qbf]; rfl, rfl, rfl, trivial⟩, ⟨rfl, rfl, Wn (by rw [JR]; exact (KN (by simp)).nl) (by simp) (JR _ _ _), trivial⟩⟩
 ·try simp only [decide_eq_true_eq, decide_eq_false_iff_not, beq_iff_eq, bne_iff_ne, beq_eq_false_iff_ne, bne_eq_false_iff_eq, qbl, qbm, qbi, qbo, qbk, ne_eq, Decidable.not_not, qbz, qbA] at c2
  refine qz ?_
  refine zai ?_
  refine zaa 3 rfl ?_
  refine zab ?_
  refine JD 1 2 ((KN (by simp)).nl) rfl rfl rfl (by simp only [zaf, zag]; exact rfl) ?_
  refine zau ?_
  refine kendI (post := fun I => Okd (NewCv I w h (qbs n (nT zC4)))) (I := s0.I) (Mo := []) [] (rs2 rfl (qB rfl) (qB rfl)) rfl rfl ?_ trivial
  obtain rfl : A.length = n := by omega
  exact ⟨_, ⟨A, by simp, hAI, rfl⟩, by rw [cvD, JQ (by simp), qbv]; rfl⟩
end Go.Proofs.YtofklkbfkoliiaaGreat
namespace Go.Proofs.YtofklkbfkoliiaaGreat
set_option linter.unusedVariables false
set_option linter.unusedSimpArgs false
inductive Tk (α : Type) where
 | ok (a : α) (r : List Int)
 | err (e : Int)
def Tk.bind {α β : Type} (t : Tk α) (f : α → List Int → Tk β) : Tk β := match t with
 | .ok a r => f a r
 | .err e => .err e
abbrev Tkr (α : Type) := List Int → Tk α
def isB (l : List Int) : Prop := ∀ x ∈ l, 0 ≤ x ∧ x ≤ 255
theorem isB_app {a b : List Int} : isB (a ++ b) ↔ isB a ∧ isB b := by
 unfold isB
 constructor
 ·intro h
  exact ⟨fun x hx => h x (List.mem_append_left _ hx), fun x hx => h x (List.mem_append_right _ hx)⟩
 ·rintro ⟨h1, h2⟩ x hx
  rcases List.mem_append.1 hx with h | h
  ·exact h1 x h
  ·exact h2 x h
structure Cd {α : Type} (S : Int) (ok : α → Prop) (lay : α → List Int) (tk : Tkr α) : Prop where
 fwd : ∀ a r, ok a → tk (lay a ++ r) = .ok a r
 bwd : ∀ b a r, isB b → tk b = .ok a r → b = lay a ++ r ∧ ok a
 sh : ∀ a k, ok a → k < (lay a).length → tk ((lay a).take k) = .err S
section
variable {α β : Type} {S : Int} {ok : α → Prop} {lay : α → List Int} {tk : Tkr α} {ok2 : β → Prop} {lay2 : β → List Int} {tk2 : Tkr β}
theorem Cd.seq (c : Cd S ok lay tk) (d : Cd S ok2 lay2 tk2) : Cd S (fun p : α × β => ok p.1 ∧ ok2 p.2) (fun p => lay p.1 ++ lay2 p.2) (fun b => (tk b).bind fun a r => (tk2 r).bind fun x r => .ok (a, x) r) where
 fwd p r h := by
  rw [qbM, c.fwd _ _ h.1]
  show (tk2 _).bind _ = _
  rw [d.fwd _ _ h.2]
  rfl
 bwd b p r hb h := by
  cases h1 : tk b with
  | err e => rw [h1] at h; cases h
  | ok a r1 =>
   rw [h1] at h
   have h : (tk2 r1).bind (fun x r => Tk.ok (a, x) r) = .ok p r := h
   obtain ⟨e1, k1⟩ := c.bwd b a r1 hb h1
   cases h2 : tk2 r1 with
   | err e => rw [h2] at h; cases h
   | ok x r2 =>
    rw [h2] at h
    cases h
    obtain ⟨e2, k2⟩ := d.bwd r1 x r (by rw [e1] at hb; exact (isB_app.1 hb).2) h2
    exact ⟨by rw [e1, e2, qbM], k1, k2⟩
 sh p k h hk := by
  by_cases h1 : k < (lay p.1).length
  ·rw [List.take_append_of_le_length (by omega), c.sh _ _ h.1 h1]
   rfl
  ·rw [qbf] at hk
   rw [List.take_append, qbJ (by omega), c.fwd _ _ h.1]
   show (tk2 _).bind _ = _
   rw [d.sh _ _ h.2 (by omega)]
   rfl
theorem Cd.map (f : α → β) (g : β → α) (c : Cd S ok lay tk) (h1 : ∀ a, ok a → g (f a) = a ∧ ok2 (f a)) (h2 : ∀ x, ok2 x → ok (g x) ∧ f (g x) = x) : Cd S ok2 (fun x => lay (g x)) (fun b => (tk b).bind fun a r => .ok (f a) r) where
 fwd x r h := by
  rw [c.fwd _ _ (h2 x h).1]
  show Tk.ok (f (g x)) r = _
  rw [(h2 x h).2]
 bwd b x r hb h := by
  cases e : tk b with
  | err e' => rw [e] at h; cases h
  | ok a r1 =>
   rw [e] at h
   cases h
   obtain ⟨e1, k1⟩ := c.bwd b a r hb e
   exact ⟨by rw [(h1 a k1).1]; exact e1, (h1 a k1).2⟩
 sh x k h hk := by
  rw [c.sh _ _ (h2 x h).1 hk]
  rfl
theorem Cd.need (C : Int) (p : α → Bool) (c : Cd S ok lay tk) : Cd S (fun a => ok a ∧ p a = true) lay (fun b => (tk b).bind fun a r => if p a then .ok a r else .err C) where
 fwd a r h := by
  rw [c.fwd _ _ h.1]
  show (if p a = true then _ else _) = _
  rw [if_pos h.2]
 bwd b a r hb h := by
  cases e : tk b with
  | err e' => rw [e] at h; cases h
  | ok x r1 =>
   rw [e] at h
   have h : (if p x = true then Tk.ok x r1 else .err C) = .ok a r := h
   by_cases hp : p x = true
   ·rw [if_pos hp] at h
    cases h
    obtain ⟨e1, k1⟩ := c.bwd b a r hb e
    exact ⟨e1, k1, hp⟩
   ·rw [if_neg hp] at h
    cases h
 sh a k h hk := by
  rw [c.sh _ _ h.1 hk]
  rfl
def yl (tk : Tkr α) : Nat → Tkr (List α)
 | 0, b => .ok [] b
 | n + 1, b => (tk b).bind fun a r => (yl tk n r).bind fun l r => .ok (a :: l) r
theorem Cd.rep (c : Cd S ok lay tk) : ∀ n, Cd S (fun l : List α => l.length = n ∧ ∀ a ∈ l, ok a) (fun l => l.flatMap lay) (yl tk n)
 | 0 => {
   fwd := fun l r h => by
    cases l with
    | nil => rfl
    | cons a l => cases h.1
   bwd := fun b l r _ h => by
    cases h
    exact ⟨rfl, rfl, fun a h => by cases h⟩
   sh := fun l k h hk => by
    cases l with
    | nil => exact absurd hk (Nat.not_lt_zero _)
    | cons a l => cases h.1 }
 | n + 1 => {
   fwd := fun l r h => by
    cases l with
    | nil => cases h.1
    | cons a l =>
     have := (c.seq (c.rep n)).fwd (a, l) r ⟨h.2 a (qbR ..), by simpa using h.1, fun x hx => h.2 x (qbT _ hx)⟩
     show (tk ((lay a ++ l.flatMap lay) ++ r)).bind _ = _
     cases e : tk ((lay a ++ l.flatMap lay) ++ r) with
     | err e' => simp only [e] at this; cases this
     | ok x r1 =>
      simp only [e, Tk.bind] at this ⊢
      cases e2 : yl tk n r1 with
      | err e' => rw [e2] at this; cases this
      | ok y r2 => rw [e2] at this; cases this; rfl
   bwd := fun b l r hb h => by
    have h : (tk b).bind (fun a r => (yl tk n r).bind fun l r => Tk.ok (a :: l) r) = .ok l r := h
    cases e : tk b with
    | err e' => rw [e] at h; cases h
    | ok a r1 =>
     rw [e] at h
     have h : (yl tk n r1).bind (fun l r => Tk.ok (a :: l) r) = .ok l r := h
     obtain ⟨e1, k1⟩ := c.bwd b a r1 hb e
     cases e2 : yl tk n r1 with
     | err e' => rw [e2] at h; cases h
     | ok y r2 =>
      rw [e2] at h
      cases h
      obtain ⟨e3, k3, k4⟩ := (c.rep n).bwd r1 y r (by rw [e1] at hb; exact (isB_app.1 hb).2) e2
      refine ⟨by rw [e1, e3, qbB, qbM], by simp [k3], fun x hx => ?_⟩
      rcases List.mem_cons.1 hx with rfl | hx
      ·exact k1
      ·exact k4 x hx
   sh := fun l k h hk => by
    cases l with
    | nil => cases h.1
    | cons a l =>
     have := (c.seq (c.rep n)).sh (a, l) k ⟨h.2 a (qbR ..), by simpa using h.1, fun x hx => h.2 x (qbT _ hx)⟩ (by simpa using hk)
     show (tk ((lay a ++ l.flatMap lay).take k)).bind _ = _
     cases e : tk ((lay a ++ l.flatMap lay).take k) with
     | err e' => simp only [e, Tk.bind] at this ⊢; cases this; rfl
     | ok x r1 =>
      simp only [e, Tk.bind] at this ⊢
      cases e2 : yl tk n r1 with
      | err e' => rw [e2] at this; cases this; rfl
      | ok y r2 => rw [e2] at this; cases this }
end
end Go.Proofs.YtofklkbfkoliiaaGreat
namespace Go.Proofs.YtofklkbfkoliiaaGreat
set_option linter.unusedVariables false
set_option linter.unusedSimpArgs false
open Go.RowKit
def qX : List C4 → List (Nat × C4)
 | [] => []
 | c :: l => match qX l with
  | [] => [(1, c)]
  | (n, d) :: r => if c = d then (n + 1, d) :: r else (1, c) :: (n, d) :: r
def kV (rs : List (Nat × C4)) : List C4 := rs.flatMap fun r => qbs r.1 r.2
def ww : List (Nat × C4) → Prop
 | [] => True
 | [r] => 1 ≤ r.1
 | r :: q :: rs => 1 ≤ r.1 ∧ r.2 ≠ q.2 ∧ ww (q :: rs)
theorem wm {r : Nat × C4} {rs : List (Nat × C4)} (h : ww (r :: rs)) : ww rs := by
 cases rs with
 | nil => trivial
 | cons q rs => exact h.2.2
theorem gQ : ∀ {rs : List (Nat × C4)}, ww rs → ∀ r ∈ rs, 1 ≤ r.1
 | [], _, r, hr => by simp at hr
 | [a], h, r, hr => by obtain rfl := List.mem_singleton.1 hr; exact h
 | a :: b :: rs, h, r, hr => by
  rcases List.mem_cons.1 hr with rfl | hr
  ·exact h.1
  ·exact gQ h.2.2 r hr
theorem jS : ∀ l : List C4, kV (qX l) = l
 | [] => rfl
 | c :: l => by
  have ih := jS l
  rw [qX]
  cases hr : qX l with
  | nil =>
   rw [hr] at ih
   simp only [kV, List.flatMap_nil] at ih
   subst ih
   rfl
  | cons a r =>
   obtain ⟨n, d⟩ := a
   rw [hr] at ih
   simp only
   split
   ·rename_i e
    subst e
    rw [← ih]
    simp only [kV, qbB, List.replicate_succ, qbp]
   ·rw [← ih]
    simp only [kV, qbB, List.replicate_succ, List.replicate_zero, qbp, qbq]
theorem y7 : ∀ l : List C4, ww (qX l)
 | [] => trivial
 | c :: l => by
  have ih := y7 l
  rw [qX]
  cases hr : qX l with
  | nil => exact qby 1
  | cons a r =>
   obtain ⟨n, d⟩ := a
   rw [hr] at ih
   simp only
   split
   ·cases r with
    | nil => exact Nat.le_add_left 1 n
    | cons b r => exact ⟨Nat.le_add_left 1 n, ih.2.1, ih.2.2⟩
   ·rename_i e
    exact ⟨qby 1, e, ih⟩
theorem YL (c : C4) (rs : List (Nat × C4)) : ∀ n : Nat, ww ((n + 1, c) :: rs) → qX (kV rs) = rs → qX (qbs (n + 1) c ++ kV rs) = (n + 1, c) :: rs
 | 0, h, hr => by
  rw [List.replicate_succ, List.replicate_zero, qbp, qbq, qX, hr]
  cases rs with
  | nil => rfl
  | cons q rs =>
   obtain ⟨m, d⟩ := q
   simp only
   rw [if_neg h.2.1]
 | n + 1, h, hr => by
  have hg : ww ((n + 1, c) :: rs) := by
   cases rs with
   | nil => exact Nat.le_add_left 1 n
   | cons q rs => exact ⟨Nat.le_add_left 1 n, h.2.1, h.2.2⟩
  rw [List.replicate_succ, qbp, qX, YL c rs n hg hr]
  exact if_pos rfl
theorem JS : ∀ rs : List (Nat × C4), ww rs → qX (kV rs) = rs
 | [], _ => rfl
 | (n, c) :: rs, h => by
  have hr := JS rs (wm h)
  have hn : 1 ≤ n := gQ h (n, c) (qbR ..)
  obtain ⟨m, rfl⟩ : ∃ m, n = m + 1 := ⟨n - 1, by omega⟩
  have e : kV ((m + 1, c) :: rs) = qbs (m + 1) c ++ kV rs := by unfold kV; rw [qbB]
  rw [e]
  exact YL c rs m h hr
def YM (r : Nat × C4) : List Int := [(r.1 : Int), r.2.r, r.2.g, r.2.b, r.2.a]
def kI (rs : List (Nat × C4)) : List Int := rs.flatMap YM
theorem uU (rs : List (Nat × C4)) : (kI rs).length = rs.length * 5 := by
 induction rs with
 | nil => rfl
 | cons r rs ih =>
  unfold kI at *
  rw [qbB, qbf, ih, qbC]
  show 5 + rs.length * 5 = _
  omega
def ya (acc : List C4) (n : Int) (c : C4) : Bool := decide (1 ≤ n) && decide (n ≤ 64 - (acc.length : Int)) && !decide (acc.getLast? = some c)
def rdG : Nat → List C4 → List Int → Option (List C4 × List Int)
 | 0, _, _ => none
 | f + 1, acc, n :: r :: g :: b :: a :: rest => if ya acc n ⟨r, g, b, a⟩ = true then (if acc.length + n.toNat = 64 then some (acc ++ qbs n.toNat ⟨r, g, b, a⟩, rest) else rdG f (acc ++ qbs n.toNat ⟨r, g, b, a⟩) rest) else none
 | _ + 1, _, _ => none
theorem VI : ∀ (f : Nat) (acc : List C4) (b : List Int) (l : List C4) (rest : List Int), rdG f acc b = some (l, rest) → acc.length < 64 →
  ∃ rs : List (Nat × C4), rs ≠ [] ∧ l = acc ++ kV rs ∧ b = kI rs ++ rest ∧ ww rs ∧ l.length = 64 ∧ ∀ r ∈ rs.head?, acc.getLast? ≠ some r.2
 | 0, acc, b, l, rest, h, _ => by cases h
 | f + 1, acc, [], l, rest, h, _ => by cases h
 | f + 1, acc, [_], l, rest, h, _ => by cases h
 | f + 1, acc, [_, _], l, rest, h, _ => by cases h
 | f + 1, acc, [_, _, _], l, rest, h, _ => by cases h
 | f + 1, acc, [_, _, _, _], l, rest, h, _ => by cases h
 | f + 1, acc, n :: r :: g :: b :: a :: bs, l, rest, h, hl => by
  rw [rdG] at h
  by_cases hm : ya acc n ⟨r, g, b, a⟩ = true
  ·rw [if_pos hm] at h
   unfold ya at hm
   simp only [qbi, decide_eq_true_eq, qbl, decide_eq_false_iff_not] at hm
   obtain ⟨⟨h1, h2⟩, h3⟩ := hm
   obtain ⟨m, hm⟩ : ∃ m : Nat, n = (m : Int) := ⟨n.toNat, by omega⟩
   subst hm
   rw [qbS] at h
   have he : YM (m, ⟨r, g, b, a⟩) = [(m : Int), r, g, b, a] := rfl
   by_cases h64 : acc.length + m = 64
   ·rw [if_pos h64] at h
    obtain ⟨e1, e2⟩ := Prod.mk.inj (qbn h)
    subst e1 e2
    refine ⟨[(m, ⟨r, g, b, a⟩)], by simp, by simp [kV], rfl, by show 1 ≤ m; omega, by rw [qbf, qbv]; exact h64, fun q hq => ?_⟩
    obtain rfl := qbn hq
    exact h3
   ·rw [if_neg h64] at h
    obtain ⟨rs, g0, g1, g2, g3, g4, g5⟩ := VI f _ bs l rest h (by rw [qbf, qbv]; omega)
    refine ⟨(m, ⟨r, g, b, a⟩) :: rs, by simp, ?_, ?_, ?_, g4, fun q hq => ?_⟩
    ·rw [g1, qbM]; simp [kV]
    ·rw [g2]; rfl
    ·cases rs with
     | nil => exact absurd rfl g0
     | cons q rs =>
      refine ⟨by show 1 ≤ m; omega, fun e => ?_, g3⟩
      refine g5 q rfl ?_
      rw [List.getLast?_append, List.getLast?_replicate, if_neg (by omega)]
      simp only [Option.some_or]
      exact congrArg some e
    ·obtain rfl := qbn hq
     exact h3
  ·rw [if_neg hm] at h; cases h
theorem YN : ∀ (rs : List (Nat × C4)) (f : Nat) (acc : List C4) (rest : List Int), rs ≠ [] → ww rs → (acc ++ kV rs).length = 64 → (∀ r ∈ rs.head?, acc.getLast? ≠ some r.2) → rs.length ≤ f → rdG f acc (kI rs ++ rest) = some (acc ++ kV rs, rest)
 | [], _, _, _, h, _, _, _, _ => absurd rfl h
 | (m, c) :: rs, 0, _, _, _, _, _, _, h => by simp at h
 | (m, c) :: rs, f + 1, acc, rest, _, hg, hl, hh, hf => by
  have h1 : 1 ≤ m := gQ hg (m, c) (qbR ..)
  have efl : kV ((m, c) :: rs) = qbs m c ++ kV rs := by unfold kV; rw [qbB]
  have eb : kI ((m, c) :: rs) ++ rest = (m : Int) :: c.r :: c.g :: c.b :: c.a :: (kI rs ++ rest) := by unfold kI; rw [qbB]; rfl
  rw [efl, qbf, qbf, qbv] at hl
  rw [eb, rdG, efl]
  have hm : ya acc (m : Int) ⟨c.r, c.g, c.b, c.a⟩ = true := by
   unfold ya
   simp only [qbi, decide_eq_true_eq, qbl, decide_eq_false_iff_not]
   exact ⟨⟨by omega, by omega⟩, hh _ rfl⟩
  rw [if_pos hm, qbS]
  cases rs with
  | nil =>
   have e0 : (kV ([] : List (Nat × C4))).length = 0 := rfl
   rw [if_pos (by omega)]
   simp [kV, kI]
  | cons q rs =>
   have hq : 1 ≤ q.1 := gQ (wm hg) q (qbR ..)
   have e0 : (kV (q :: rs)).length = q.1 + (kV rs).length := by unfold kV; rw [qbB, qbf, qbv]
   rw [if_neg (by omega), ← qbM]
   refine YN (q :: rs) f (acc ++ qbs m c) rest (by simp) (wm hg) (by rw [qbf, qbf, qbv]; omega) (fun r hr => ?_) (by simpa using hf)
   obtain rfl := qbn hr
   rw [List.getLast?_append, List.getLast?_replicate, if_neg (by omega)]
   simp only [Option.some_or]
   exact fun e => hg.2.1 (qbn e)
theorem wR : ∀ l : List C4, (qX l).length ≤ l.length
 | [] => qby 0
 | c :: l => by
  have ih := wR l
  rw [qX]
  cases hr : qX l with
  | nil => exact Nat.le_add_left 1 _
  | cons a r =>
   obtain ⟨n, d⟩ := a
   rw [hr] at ih
   simp only
   split
   ·rw [qbC] at ih ⊢; rw [qbC]; omega
   ·rw [qbC] at ih ⊢; rw [qbC, qbC]; omega
theorem xD {f : Nat} (hf : 64 ≤ f) {b : List Int} {l : List C4} {rest : List Int} : rdG f [] b = some (l, rest) ↔ l.length = 64 ∧ b = kI (qX l) ++ rest := by
 constructor
 ·intro h
  obtain ⟨rs, _, h1, h2, h3, h4, _⟩ := VI f [] b l rest h (by decide)
  rw [qbq] at h1
  have e : qX l = rs := by rw [h1]; exact JS rs h3
  exact ⟨h4, by rw [e]; exact h2⟩
 ·rintro ⟨h1, h2⟩
  have hl := wR l
  have hne : qX l ≠ [] := fun e => by
   have := jS l
   rw [e] at this
   rw [← this] at h1
   exact absurd h1 (by decide)
  have := YN (qX l) f [] rest hne (y7 l) (by rw [qbq, jS]; exact h1) (fun r _ => by simp) (by omega)
  rw [qbq, jS] at this
  rw [h2]
  exact this
def kA (t : TL) : List Int := kI (qX t.l)
def rdT (b : List Int) : Option (TL × List Int) := match h : rdG 64 [] b with
 | some x => some (⟨x.1, ((xD (qby 64)).1 (h.trans (by rfl) : rdG 64 [] b = some (x.1, x.2))).1⟩, x.2)
 | none => none
theorem rdT_iff {b : List Int} {t : TL} {rest : List Int} : rdT b = some (t, rest) ↔ b = kA t ++ rest := by
 unfold rdT kA
 constructor
 ·intro h
  split at h
  ·rename_i x hx
   have hx : rdG 64 [] b = some (x.1, x.2) := hx
   obtain ⟨e1, e2⟩ := Prod.mk.inj (qbn h)
   subst e1 e2
   exact ((xD (qby 64)).1 hx).2
  ·cases h
 ·intro h
  have hx : rdG 64 [] b = some (t.l, rest) := (xD (qby 64)).2 ⟨t.h, h⟩
  split
  ·rename_i x hy
   rw [hx] at hy
   obtain rfl := qbn hy
   rfl
  ·rename_i hy
   rw [hx] at hy
   cases hy
theorem zw (t : TL) : ∃ n : Nat, 1 ≤ n ∧ ∃ bs, kA t = (n : Int) :: bs := by
 unfold kA
 have hg := y7 t.l
 cases hr : qX t.l with
 | nil =>
  have := jS t.l
  rw [hr] at this
  have h := t.h
  rw [← this] at h
  exact absurd h (by decide)
 | cons r rs =>
  rw [hr] at hg
  refine ⟨r.1, gQ hg r (qbR ..), [r.2.r, r.2.g, r.2.b, r.2.a] ++ kI rs, ?_⟩
  unfold kI
  rw [qbB]
  rfl
def qM (kn : List TL → TL) : List TL → List TL → List Int
 | _, [] => []
 | acc, t :: ts => (if t = kn acc then [0] else kA t) ++ qM kn (acc ++ [t]) ts
def Je (kn : List TL → TL) : Nat → List TL → List Int → Option (List TL × List Int)
 | 0, acc, b => some (acc, b)
 | n + 1, acc, b => if b.head? = some 0 then Je kn n (acc ++ [kn acc]) (b.drop 1) else match rdT b with
  | some x => if x.1 = kn acc then none else Je kn n (acc ++ [x.1]) x.2
  | none => none
theorem zb (kn : List TL → TL) : ∀ (ts acc : List TL) (more : List Int), Je kn ts.length acc (qM kn acc ts ++ more) = some (acc ++ ts, more)
 | [], acc, more => by rw [qbV]; rfl
 | t :: ts, acc, more => by
  have ih := zb kn ts (acc ++ [t]) more
  rw [qbM] at ih
  rw [qbC, Je, qM, qbM]
  by_cases e : t = kn acc
  ·rw [if_pos e]
   have hz : (([0] : List Int) ++ (qM kn (acc ++ [t]) ts ++ more)).head? = some 0 := rfl
   rw [if_pos hz, ← e]
   exact ih
  ·rw [if_neg e]
   obtain ⟨n, hn, cs, he⟩ := zw t
   have h0 : ¬ (kA t ++ (qM kn (acc ++ [t]) ts ++ more)).head? = some (0 : Int) := by
    rw [he]
    intro h
    have := qbn (show some (n : Int) = some (0 : Int) from h)
    omega
   rw [if_neg h0, rdT_iff.2 rfl]
   simp only
   rw [if_neg e]
   exact ih
theorem KO (kn : List TL → TL) : ∀ (n : Nat) (acc : List TL) (b : List Int) (l : List TL) (rest : List Int), Je kn n acc b = some (l, rest) → ∃ ts : List TL, ts.length = n ∧ l = acc ++ ts ∧ b = qM kn acc ts ++ rest
 | 0, acc, b, l, rest, h => by
  obtain ⟨e1, e2⟩ := Prod.mk.inj (qbn h)
  subst e1 e2
  exact ⟨[], rfl, (qbV _).symm, rfl⟩
 | n + 1, acc, b, l, rest, h => by
  rw [Je] at h
  split at h
  ·rename_i h0
   obtain ⟨ts, g1, g2, g3⟩ := KO kn n _ _ l rest h
   refine ⟨kn acc :: ts, by rw [qbC, g1], by rw [g2, qbM]; rfl, ?_⟩
   rw [qM, if_pos rfl, qbM, ← g3]
   cases b with
   | nil => cases h0
   | cons x bs =>
    obtain rfl := qbn h0
    rfl
  ·split at h
   ·rename_i x hx
    split at h
    ·cases h
    ·rename_i hne
     obtain ⟨ts, g1, g2, g3⟩ := KO kn n _ _ l rest h
     refine ⟨x.1 :: ts, by rw [qbC, g1], by rw [g2, qbM]; rfl, ?_⟩
     rw [qM, if_neg hne, qbM, ← g3]
     exact rdT_iff.1 (show rdT b = some (x.1, x.2) from hx)
   ·cases h
theorem rdTs_iff {kn : List TL → TL} {n : Nat} {acc l : List TL} {b rest : List Int} : Je kn n acc b = some (l, rest) ↔ ∃ ts : List TL, ts.length = n ∧ l = acc ++ ts ∧ b = qM kn acc ts ++ rest := by
 constructor
 ·exact KO kn n acc b l rest
 ·rintro ⟨ts, rfl, rfl, rfl⟩
  exact zb kn ts acc rest
def qy (acc : List TL) : TL := acc.getLastD zT
def qT (w h : Int) (ts : List TL) : List Int := w :: h :: qM qy [] ts
def jK (rs : List (Nat × C4)) (i : Nat) : Nat := (kV (rs.take i)).length
theorem JT (a b : List (Nat × C4)) : kV (a ++ b) = kV a ++ kV b := by unfold kV; rw [List.flatMap_append]
theorem WA (r : Nat × C4) : kV [r] = qbs r.1 r.2 := by simp [kV]
theorem JU (rs : List (Nat × C4)) : jK rs 0 = 0 := rfl
theorem KP {rs : List (Nat × C4)} {i : Nat} (hi : i < rs.length) : jK rs (i + 1) = jK rs i + rs[i].1 := by
 unfold jK
 rw [qbK hi, JT, qbf, WA, qbv]
theorem YO (rs : List (Nat × C4)) : jK rs rs.length = (kV rs).length := by unfold jK; rw [List.take_length]
theorem KQ {rs : List (Nat × C4)} {i : Nat} (hi : i < rs.length) : kV rs = kV (rs.take i) ++ (qbs rs[i].1 rs[i].2 ++ kV (rs.drop (i + 1))) := by
 conv => lhs; rw [← List.take_append_drop i rs, List.drop_eq_getElem_cons hi]
 rw [JT]
 congr 1
theorem VJ {rs : List (Nat × C4)} {i : Nat} (hi : i < rs.length) : jK rs i + rs[i].1 ≤ (kV rs).length := by
 have h1 := congrArg List.length (KQ hi)
 rw [qbf, qbf, qbv] at h1
 unfold jK
 omega
theorem YP {rs : List (Nat × C4)} {i m : Nat} (hi : i < rs.length) (hm : m < rs[i].1) : (kV rs)[jK rs i + m]? = some rs[i].2 := by
 rw [KQ hi]
 unfold jK
 rw [qbG (by omega), Nat.add_sub_cancel_left, qbx (by rw [qbv]; exact hm), List.getElem?_replicate, if_pos hm]
theorem WB {rs : List (Nat × C4)} (hg : ww rs) {i : Nat} (hi : i < rs.length) : (kV rs)[jK rs i + rs[i].1]? ≠ some rs[i].2 := by
 rw [← KP hi]
 by_cases h : i + 1 < rs.length
 ·have hp : 1 ≤ rs[i + 1].1 := gQ hg _ (List.getElem_mem h)
  have := YP h (m := 0) (by omega)
  rw [Nat.add_zero] at this
  rw [this]
  have key : ∀ (l : List (Nat × C4)) (hl : ww l) (j : Nat) (hj : j + 1 < l.length), l[j].2 ≠ l[j + 1].2 := by
   intro l
   induction l with
   | nil => intro _ j hj; simp at hj
   | cons a l ih =>
    intro hl j hj
    cases j with
    | zero =>
     cases l with
     | nil => simp at hj
     | cons b l => exact hl.2.1
    | succ j => exact ih (wm hl) j (by simpa using hj)
  exact fun e => key rs hg i h (qbn e).symm
 ·have e : i + 1 = rs.length := by omega
  rw [e, YO, qbN (qby _)]
  exact fun h => by cases h
theorem YQ (t : TL) : jK (qX t.l) (qX t.l).length = 64 := by rw [YO, jS, t.h]
theorem uo {t : TL} {i : Nat} (hi : i < (qX t.l).length) : 1 ≤ (qX t.l)[i].1 ∧ jK (qX t.l) i + (qX t.l)[i].1 ≤ 64 := by
 refine ⟨gQ (y7 t.l) _ (List.getElem_mem hi), ?_⟩
 have := VJ hi
 rw [jS, t.h] at this
 exact this
theorem zS {t : TL} {i m : Nat} (hi : i < (qX t.l).length) (hm : m < (qX t.l)[i].1) : t.get (jK (qX t.l) i + m) = (qX t.l)[i].2 := by
 have := YP hi hm
 rw [jS] at this
 unfold TL.get
 rw [qbI, this]
 rfl
theorem YR {t : TL} {i : Nat} (hi : i < (qX t.l).length) (h64 : jK (qX t.l) i + (qX t.l)[i].1 < 64) : t.get (jK (qX t.l) i + (qX t.l)[i].1) ≠ (qX t.l)[i].2 := by
 have := WB (y7 t.l) hi
 rw [jS] at this
 unfold TL.get
 rw [qbI, qbe (by rw [t.h]; exact h64)]
 rw [qbe (by rw [t.h]; exact h64)] at this
 exact fun e => this (congrArg some e)
theorem KR : kI [] = [] := rfl
def WC (acc : List C4) : List C4 := acc ++ qbs (64 - acc.length) zC4
def kt (acc : List C4) : TL := if h : acc.length ≤ 64 then ⟨WC acc, by unfold WC; rw [qbf, qbv]; omega⟩ else zT
theorem KS {acc : List C4} (h : acc.length ≤ 64) : (kt acc).l = WC acc := by unfold kt; rw [dif_pos h]
theorem wT : kt [] = zT := TL.ext (by rw [KS (by decide)]; rfl)
theorem Xe {acc : List C4} {c : C4} (h : acc.length < 64) : (kt acc).set acc.length c = kt (acc ++ [c]) := TL.ext (by
 show ((kt acc).l).set acc.length c = _
 rw [KS (by omega), KS (by simp; omega)]
 unfold WC
 rw [List.set_append_right _ _ (qby _), Nat.sub_self, qbf, show 64 - acc.length = (64 - (acc.length + [c].length)) + 1 by simp; omega, List.replicate_succ, zaf, qbM]
 rfl)
theorem wU {acc : List C4} {c : C4} {k : Nat} (h : acc.length + k < 64) : (kt (acc ++ qbs k c)).set (acc.length + k) c = kt (acc ++ qbs (k + 1) c) := by
 have hl : (acc ++ qbs k c).length = acc.length + k := by simp
 have := Xe (acc := acc ++ qbs k c) (c := c) (by omega)
 rw [hl] at this
 rw [this, qbM, List.replicate_succ']
theorem Xf {acc : List C4} {c : C4} (h0 : 0 < acc.length) (h : acc.length ≤ 64) : (kt acc).get (acc.length - 1) = c ↔ acc.getLast? = some c := by
 unfold TL.get
 rw [KS h]
 unfold WC
 rw [qbI, qbx (by omega), List.getLast?_eq_getElem?, qbe (by omega)]
 simp
theorem zc {l : List C4} (h : l.length = 64) : kt l = ⟨l, h⟩ := TL.ext (by rw [KS (by omega)]; unfold WC; rw [h]; simp)
def bAt (B : List Int) (p : Nat) : Int := B.getD p 0
theorem jz {B : List Int} {p : Nat} (h : p < B.length) : bAt B p = B[p] := by unfold bAt; rw [qbI, qbe h]; rfl
theorem kK {B : List Int} (hB : isB B) (p : Nat) : 0 ≤ bAt B p ∧ bAt B p ≤ 255 := by
 unfold bAt
 rw [qbI]
 cases h : B[p]? with
 | none => decide
 | some z => exact hB z (List.mem_of_getElem? h)
def kp (B : List Int) (p : Nat) : Int × C4 := (bAt B p, ⟨bAt B (p + 1), bAt B (p + 2), bAt B (p + 3), bAt B (p + 4)⟩)
theorem jt {B : List Int} {p : Nat} (h : p < B.length) : B.drop p = bAt B p :: B.drop (p + 1) := by
 rw [List.drop_eq_getElem_cons h, jz h]
theorem mayG_iff {acc : List C4} {n : Int} {c : C4} : ya acc n c = true ↔ (1 ≤ n ∧ n ≤ 64 - (acc.length : Int)) ∧ acc.getLast? ≠ some c := by
 unfold ya
 simp [and_assoc]
def rdP (B : List Int) : Nat → List C4 → Nat → Option (List C4 × Nat)
 | 0, _, _ => none
 | f + 1, acc, p => if p + 5 ≤ B.length then (if ya acc (kp B p).1 (kp B p).2 = true then (if acc.length + (kp B p).1.toNat = 64 then some (acc ++ qbs (kp B p).1.toNat (kp B p).2, p + 5) else rdP B f (acc ++ qbs (kp B p).1.toNat (kp B p).2) (p + 5)) else none) else none
theorem WD {f : Nat} {acc : List C4} : ∀ {b : List Int}, b.length < 5 → rdG (f + 1) acc b = none
 | [], _ => rfl
 | [_], _ => rfl
 | [_, _], _ => rfl
 | [_, _, _], _ => rfl
 | [_, _, _, _], _ => rfl
 | _ :: _ :: _ :: _ :: _ :: _, h => by simp at h; omega
theorem Xg (B : List Int) : ∀ (f : Nat) (acc : List C4) (p : Nat), p ≤ B.length → rdG f acc (B.drop p) = (rdP B f acc p).map fun x => (x.1, B.drop x.2)
 | 0, _, _, _ => rfl
 | f + 1, acc, p, h => by
  rw [rdP]
  by_cases h5 : p + 5 ≤ B.length
  ·rw [if_pos h5, jt (by omega), jt (p := p + 1) (by omega), jt (p := p + 1 + 1) (by omega), jt (p := p + 1 + 1 + 1) (by omega), jt (p := p + 1 + 1 + 1 + 1) (by omega), rdG]
   show (if ya acc (kp B p).1 (kp B p).2 = true then (if acc.length + (kp B p).1.toNat = 64 then some (acc ++ qbs (kp B p).1.toNat (kp B p).2, B.drop (p + 5)) else rdG f (acc ++ qbs (kp B p).1.toNat (kp B p).2) (B.drop (p + 5))) else none) = _
   by_cases hm : ya acc (kp B p).1 (kp B p).2 = true
   ·rw [if_pos hm, if_pos hm]
    by_cases h6 : acc.length + (kp B p).1.toNat = 64
    ·rw [if_pos h6, if_pos h6]; rfl
    ·rw [if_neg h6, if_neg h6]; exact Xg B f _ (p + 5) h5
   ·rw [if_neg hm, if_neg hm]; rfl
  ·rw [if_neg h5, WD (by rw [qbF]; omega)]; rfl
theorem xE {B : List Int} {f : Nat} {acc l : List C4} {p q : Nat} (h : rdP B f acc p = some (l, q)) : p + 5 ≤ B.length ∧ ya acc (kp B p).1 (kp B p).2 = true ∧
  (acc.length + (kp B p).1.toNat = 64 → l = acc ++ qbs (kp B p).1.toNat (kp B p).2 ∧ q = p + 5) ∧ (acc.length + (kp B p).1.toNat ≠ 64 → rdP B (f - 1) (acc ++ qbs (kp B p).1.toNat (kp B p).2) (p + 5) = some (l, q)) := by
 cases f with
 | zero => cases h
 | succ f =>
  rw [rdP] at h
  split at h
  ·rename_i h5
   split at h
   ·rename_i hm
    split at h
    ·rename_i h6
     cases h
     exact ⟨h5, hm, fun _ => ⟨rfl, rfl⟩, fun h => absurd h6 h⟩
    ·rename_i h6
     exact ⟨h5, hm, fun h => absurd h h6, fun _ => h⟩
   ·cases h
  ·cases h
theorem Xh {B : List Int} {f : Nat} {acc : List C4} {p : Nat} (hf : 64 ≤ f + acc.length) (ha : acc.length < 64) (h : rdP B f acc p = none) (h5 : p + 5 ≤ B.length) (hm : ya acc (kp B p).1 (kp B p).2 = true) :
  acc.length + (kp B p).1.toNat < 64 ∧ 64 ≤ f - 1 + (acc.length + (kp B p).1.toNat) ∧ rdP B (f - 1) (acc ++ qbs (kp B p).1.toNat (kp B p).2) (p + 5) = none := by
 cases f with
 | zero => omega
 | succ f =>
  rw [rdP, if_pos h5, if_pos hm] at h
  have h1 := (mayG_iff.1 hm).1
  split at h
  ·cases h
  ·rename_i h6
   exact ⟨by omega, by omega, h⟩
theorem GK {B : List Int} : ∀ {f : Nat} {acc l : List C4} {p q : Nat}, rdP B f acc p = some (l, q) → q ≤ B.length ∧ p ≤ q ∧ l.length = 64
 | 0, _, _, _, _, h => by cases h
 | f + 1, acc, l, p, q, h => by
  obtain ⟨h5, hm, h1, h2⟩ := xE h
  by_cases h6 : acc.length + (kp B p).1.toNat = 64
  ·obtain ⟨rfl, rfl⟩ := h1 h6
   exact ⟨h5, by omega, by rw [qbf, qbv]; exact h6⟩
  ·obtain ⟨g1, g2, g3⟩ := GK (h2 h6)
   exact ⟨g1, by omega, g3⟩
def rdN (B : List Int) (p : Nat) : Option (List C4 × Nat) := rdP B 64 [] p
theorem Xi {B : List Int} {p : Nat} (h : p ≤ B.length) : rdT (B.drop p) = (rdN B p).map fun x => (kt x.1, B.drop x.2) := by
 have e := Xg B 64 [] p h
 unfold rdN
 cases hp : rdP B 64 [] p with
 | none =>
  rw [hp] at e
  cases ht : rdT (B.drop p) with
  | none => rfl
  | some x =>
   obtain ⟨t, rest⟩ := x
   have hb := rdT_iff.1 ht
   have := (xD (qby 64)).2 ⟨t.h, hb⟩
   rw [this] at e
   cases e
 | some x =>
  obtain ⟨l, q⟩ := x
  rw [hp] at e
  obtain ⟨_, _, hl⟩ := GK hp
  obtain ⟨_, hb⟩ := (xD (qby 64)).1 e
  have : rdT (B.drop p) = some (⟨l, hl⟩, B.drop q) := rdT_iff.2 hb
  rw [this]
  show _ = some (kt l, B.drop q)
  rw [zc hl]
theorem QR {acc : List C4} {n : Int} {c : C4} (ha : acc.length < 64) : ((decide (n < 1) || decide (64 - (acc.length : Int) < n)) || (decide ((0 : Int) < (acc.length : Int)) && decide ((kt acc).get (acc.length - 1) = c))) = !(ya acc n c) := by
 rw [Bool.eq_iff_iff, qbl, ← Bool.not_eq_true, mayG_iff]
 simp only [qbo, qbi, decide_eq_true_eq]
 by_cases h0 : 0 < acc.length
 ·rw [Xf h0 (by omega)]
  constructor
  ·rintro ((h | h) | ⟨_, h⟩) ⟨g1, g2⟩
   ·omega
   ·omega
   ·exact g2 h
  ·intro h
   by_cases g : 1 ≤ n ∧ n ≤ 64 - (acc.length : Int)
   ·refine .inr ⟨by omega, Classical.byContradiction fun e => h ⟨g, e⟩⟩
   ·exact .inl (by omega)
 ·have e : acc = [] := qbH (by omega)
  subst e
  constructor
  ·rintro ((h | h) | ⟨h, _⟩) ⟨g1, _⟩
   ·omega
   ·omega
   ·simp at h
  ·intro h
   refine .inl ?_
   by_cases g : 1 ≤ n ∧ n ≤ 64 - (([] : List C4).length : Int)
   ·exact absurd ⟨g, by simp⟩ h
   ·omega
end Go.Proofs.YtofklkbfkoliiaaGreat
namespace Go.Proofs.YtofklkbfkoliiaaGreat
set_option linter.unusedVariables false
set_option linter.unusedSimpArgs false
open Go.RowKit
attribute [local irreducible] qX kI jK
theorem Z5 (t : TL) : DFun Tryz.prog 127 [.loc 0 0] [.flat 84 (tc t)] (.fn (.func 135) [] [.loc 1 0]) [.flat 84 (tc t), .mix 194 [.loc 0 0]] := by
 refine zap (N := 4) 1 (by kernel_rfl) Tryz.func127 rfl rfl rfl (by simp only [fr0, qbh, qbj]; exact rfl) rfl fun s0 hs0 => ?_
 refine zad ?_
 refine zam 1 ?_
 refine zac ?_
 refine zal rfl (gW 1 rfl (ev1 rfl) (fun s v h => by cases h <;> rfl) rfl) ?_
 refine zaa 1 rfl ?_
 refine zab ?_
 refine zai ?_
 refine za rfl (ki rfl en (ec (ev1 rfl) en)) ?_
 refine zaa 1 rfl ?_
 refine zab ?_
 refine zau ?_
 refine km [0, 1] (rs1 rfl (qB rfl)) rfl rfl ?_ ⟨rfl, rfl, trivial⟩
 rfl
abbrev Xj (l : List Int) : Mem := .arr 5 1 l.length (l.flatMap uc8)
def fmB (k : Nat) (l : List Int) : List Mem := qbs k .gone ++ [Xj l]
theorem Xk (k : Nat) (l : List Int) : (fmB k l)[k]? = some (Xj l) := by
 unfold fmB
 rw [qbG (by simp)]
 simp
theorem Z6 (k : Nat) (l : List Int) : (fmB k l).length = k + 1 := by simp [fmB]
theorem Z7 (k : Nat) (l b : List Int) (n : Nat) (L : List Value) (hn : n = l.length + b.length) (hL : L = l.flatMap uc8 ++ b.flatMap uc8) : (fmB k l).set k .gone ++ [Mem.arr 5 1 n L] = fmB (k + 1) (l ++ b) := by
 subst hn hL
 unfold fmB
 rw [List.set_append_right _ _ (by simp), qbv, Nat.sub_self, List.replicate_succ']
 simp [Xj, List.flatMap_append]
abbrev runV (r : Nat × C4) : List Value := .int .i64 (r.1 : Int) :: c4 r.2
theorem wV {rs : List (Nat × C4)} {i : Nat} (hi : i < rs.length) : kI (rs.take (i + 1)) = kI (rs.take i) ++ YM rs[i] := by
 unfold kI
 rw [qbK hi, List.flatMap_append]
 simp
noncomputable def trnA : Code := rfA (pth [1, 1, 0, 1, 0] (wO Tryz.f111))
noncomputable def trnB : Code := rfB (pth [1, 1, 0, 1, 0] (wO Tryz.f111))
theorem qan (r : Nat × C4) (hr : 1 ≤ r.1 ∧ r.1 ≤ 64) (k : Nat) (l : List Int) (hl : l.length ≤ 5000) : DRound Tryz.prog 0 [.val (.agg (runV r).toArray)] [.lp none 26 [(3, .loc 1 0)] #[6] trnA trnB .ready none, .mix 30 [.farr 2 (k)], .fam (fmB (k) (l))] true [.lp none 26 [(3, .loc 1 0)] #[6] trnA trnB .ready none, .mix 30 [.farr 2 (k + 1)], .fam (fmB (k + 1) (l ++ YM r))] := by
 refine yZ 3 rfl rfl (by simp) rfl rfl fun s0 hs0 => ?_
 refine zam 1 ?_
 refine zac ?_
 refine zal rfl (zan 3 rfl uB rfl) ?_
 refine zaq rfl (qr rfl JN (ev1 rfl) (ev1 rfl) rfl rfl rfl rfl) ?_
 refine zab ?_
 refine ⟨rfl, ?_⟩
 simp only [zaf, zag]
 refine zav ?_
 refine zam 2 ?_
 refine zac ?_
 refine za rfl (zat rfl jg (ev1 rfl) rfl rfl) ?_
 refine za rfl (zas rfl g8 (ev1 rfl)) ?_
 refine za rfl (qx rfl tb3 (ev1 rfl) rfl rfl) ?_
 refine za rfl (qU ty3 kn5 rfl (ev1 rfl) (fun _ => IntWalk.u8_in _ (by omega))) ?_
 refine za rfl (zas rfl yB (ev1 rfl)) ?_
 refine za rfl (zas rfl UZ (ev1 rfl)) ?_
 refine za rfl (qx rfl tb5 (ev1 rfl) rfl rfl) ?_
 refine za rfl (zas rfl yB (ev1 rfl)) ?_
 refine za rfl (zas rfl U0 (ev1 rfl)) ?_
 refine za rfl (qx rfl tb5 (ev1 rfl) rfl rfl) ?_
 refine za rfl (zas rfl yB (ev1 rfl)) ?_
 refine za rfl (zas rfl U1 (ev1 rfl)) ?_
 refine za rfl (qx rfl tb5 (ev1 rfl) rfl rfl) ?_
 refine za rfl (zas rfl yB (ev1 rfl)) ?_
 refine za rfl (zas rfl U2 (ev1 rfl)) ?_
 refine za rfl (qx rfl tb5 (ev1 rfl) rfl rfl) ?_
 refine za rfl (xk (ps := [(0, .tmp 10), (1, .tmp 13), (2, .tmp 16), (3, .tmp 19), (4, .tmp 22)]) rfl qg zr5 rfl (vc (ev1 rfl) (vc (ev1 rfl) (vc (ev1 rfl) (vc (ev1 rfl) (vc (ev1 rfl) vn))))) rfl (by decide) (by decide)) ?_
 refine zal rfl (Vx (j1 := 4) (j2 := 5) rfl rfl qg zr5 rfl (ev1 rfl) (ev1 rfl) rfl (Xk k l) rfl rfl rfl (fun _ => rfl) (fun _ => ⟨by omega, by omega⟩)) ?_
 refine zaq rfl (kQ rfl jg (ev1 rfl) (ev1 rfl) (fun s v h => by cases h <;> exact ⟨rfl, rfl⟩) rfl (by first | decide | exact qbr rfl | simp)) ?_
 refine zab ?_
 refine ⟨by first | rfl | assumption | simp_all, rfl, [0, 1, 2], rfl, ⟨rfl, by rw [Z6]; rfl, congrArg (fun B => some (Blk.fam B)) (Z7 k l (YM r) _ _ rfl rfl), trivial⟩⟩
theorem QS (t : TL) : DFun Tryz.prog 135 [.yld 0, .loc 4 0] [.lp none 26 [(3, .loc 1 0)] #[6] trnA trnB .ready none, .mix 30 [.farr 2 (0)], .fam (fmB (0) ([])), .flat 84 (tc t), .mix 194 [.loc 3 0]] (.tup []) [.lp none 26 [(3, .loc 1 0)] #[6] trnA trnB .ready none, .mix 30 [.farr 2 ((qX t.l).length)], .fam (fmB ((qX t.l).length) (kA t)), .flat 84 (tc t), .mix 194 [.loc 3 0]] := by
 refine zap (N := 35) 5 (by kernel_rfl) Tryz.func135 rfl rfl rfl (by simp only [fr0, qbh, qbj]; exact rfl) rfl fun s0 hs0 => ?_
 refine zai ?_
 refine zaa 1 rfl ?_
 refine zab ?_
 refine zav ?_
 refine qE ⟨hs0, rfl⟩ (α := Nat) (fun i => [(3, .val (.int .i64 (jK (qX t.l) i : Int)))]) [(0, _), (1, _)] (fun i => [(1, .mix 30 [.farr 2 (i)]), (2, .fam (fmB (i) (kI ((qX t.l).take i))))]) [_, .hole, .hole, _, _] (fun i => i ≤ (qX t.l).length) (fun i => (qX t.l).length - i) 0 [0, 1, 2, 3, 4] (qbO _) rfl ⟨rfl, rfl, trivial⟩ ⟨by rw [JU]; rfl, trivial⟩ ⟨rfl, rfl, by rw [List.take_zero, KR]; rfl, rfl, rfl, trivial⟩ ?_
 intro i hx
 simp only [upd, zaf, zag, qbp, qbq]
 have hi0 := hx
 have hbl : (kI ((qX t.l).take i)).length ≤ 5000 := by
  have h1 := wR t.l
  have h2 := t.h
  rw [uU, qbD]; omega
 refine zad ?_
 refine zai ?_
 refine zaa 1 rfl ?_
 refine za rfl (qq rfl (ev1 rfl) (ev1 rfl)) ?_
 refine zab ?_
 refine qi rfl (fun c1 => ?_) (fun c1 => ?_)
 ·try simp only [decide_eq_true_eq, decide_eq_false_iff_not, beq_iff_eq, bne_iff_ne, beq_eq_false_iff_ne, bne_eq_false_iff_eq, qbl, qbm, qbi, qbo, qbk, ne_eq, Decidable.not_not, qbz, qbA] at c1
  have hi : i < (qX t.l).length := by
   rcases Nat.lt_or_ge i (qX t.l).length with h | h
   ·exact h
   ·obtain rfl : i = (qX t.l).length := by omega
    rw [YQ] at c1
    omega
  obtain ⟨hn1, hn2⟩ := uo hi
  refine zao ?_
  refine zav ?_
  refine zad ?_
  refine zam 1 ?_
  refine zac ?_
  refine za rfl (zat rfl Af (ev1 rfl) rfl rfl) ?_
  refine zaa 1 rfl ?_
  refine za rfl (qC rfl (ev1 rfl) (fun s v h => by cases h; exact ⟨_, rfl⟩)) ?_
  refine za rfl (gr (j := jK (qX t.l) i) rfl vE (ev1 rfl) (ev1 rfl) (fun _ => by omega) (fun _ => by omega)) ?_
  refine za rfl (uk (zC4) rfl yG (ev1 rfl) rfl (fun _ => rfl) (fun _ => by rw [TL.h]; omega)) ?_
  refine za rfl (kJ (ps := [(1, .tmp 11)]) rfl YF uB (vc (ev1 rfl) vn) rfl rfl) ?_
  refine zal rfl (zan 5 rfl uB rfl) ?_
  refine zaq rfl (qr rfl JN (ev1 rfl) (ev1 rfl) rfl rfl rfl rfl) ?_
  refine zab ?_
  refine zad ?_
  refine zav ?_
  refine qE ⟨hs0, rfl⟩ (α := Nat) (fun m => [(3, .val (.int .i64 ((jK (qX t.l) i + m : Nat) : Int)))]) [(0, _), (1, _), (4, _)] (fun m => [(5, .flat 196 (runV (m, (qX t.l)[i].2)))]) [_, _, _, _, _, .hole] (fun m => m ≤ (qX t.l)[i].1) (fun m => (qX t.l)[i].1 - m) 0 [0, 1, 2, 3, 4, 5] (qbO _) rfl ⟨rfl, rfl, rfl, trivial⟩ ⟨rfl, trivial⟩ ⟨rfl, rfl, rfl, rfl, rfl, by rw [← zS hi (m := 0) (by omega)]; rfl, trivial⟩ ?_
  intro m hx
  simp only [upd, zaf, zag, qbp, qbq]
  have hm0 := hx
  refine zad ?_
  refine zad ?_
  refine qh [([], []), ([], []), ([], []), ([4], []), ([], []), ([], []), ([], []), ([3], []), ([], []), ([5], []), ([], []), ([], [])] qJ (by kernel_rfl) ?_
  refine zae rfl rfl (zaj (.inl rfl) (ev1 rfl)) ?_
  refine zae rfl rfl (qq rfl (ev1 rfl) (ev1 rfl)) ?_
  refine zae rfl rfl (zaj (.inl rfl) (ev1 rfl)) ?_
  refine zar (qd rfl rfl rfl) rfl rfl (zat rfl Af (ev1 rfl) rfl rfl) ?_
  refine zar (qd rfl rfl rfl) rfl rfl (zaj (.inl rfl) (ev1 rfl)) ?_
  refine zar (qd rfl rfl rfl) rfl rfl (qC rfl (ev2 rfl) (fun s v h => by cases h; exact ⟨_, rfl⟩)) ?_
  refine zar (qd rfl rfl rfl) rfl rfl (gr (j := jK (qX t.l) i + m) rfl vE (ev2 rfl) (ev2 rfl) (fun hp => by first | omega | (simp at hp; omega)) (fun hp => by first | omega | (simp at hp; omega))) ?_
  refine zar (qd rfl rfl rfl) rfl rfl (uk (zC4) rfl yG (ev2 rfl) rfl (fun _ => rfl) (fun hp => by rw [TL.h]; simp at hp; omega)) ?_
  refine zar (qd rfl rfl rfl) rfl rfl (zas rfl yB (ev1 rfl)) ?_
  refine zar (qd rfl rfl rfl) rfl rfl (wJ rfl yG (ev2 rfl) rfl rfl rfl) ?_
  refine zar (qd rfl rfl rfl) rfl rfl (jY UW rfl U3 yG (ev2 rfl) (ev2 rfl)) ?_
  refine zae rfl rfl (qF rfl (ev1 rfl) (ev3 rfl id)) ?_
  refine ql ?_
  refine qi rfl (fun c3 => ?_) (fun c3 => ?_)
  ·have hmlt : m < (qX t.l)[i].1 := by
    rcases Nat.lt_or_ge m (qX t.l)[i].1 with h | h
    ·exact h
    ·obtain rfl : m = (qX t.l)[i].1 := by omega
     simp at c3
     exact absurd c3.2 (YR hi (by omega))
   refine zao ?_
   refine zav ?_
   refine zai ?_
   refine za rfl (zas rfl g8 (ev1 rfl)) ?_
   refine za rfl (qx rfl tb3 (ev1 rfl) rfl rfl) ?_
   refine za rfl (qc rfl (ev1 rfl) (ev1 rfl) (fun _ => qbg _ (by omega))) ?_
   refine za rfl (zas rfl g8 (ev1 rfl)) ?_
   refine zaq rfl (Kk rfl tb3 (ev1 rfl) (ev1 rfl) rfl (qbr rfl) rfl) ?_
   refine zab ?_
   refine zac ?_
   refine zaa 1 rfl ?_
   refine za rfl (qc rfl (ev1 rfl) (ev1 rfl) (fun _ => qbg _ (by omega))) ?_
   refine zaa 1 rfl ?_
   refine zab ?_
   refine ⟨m + 1, [0, 1, 2, 3, 4, 5], by omega, by simp only []; omega, rfl, ⟨rfl, rfl, rfl, rfl, trivial⟩, ⟨rfl, rfl, rfl, rfl, rfl, rfl, trivial⟩⟩
  ·have hmge : ¬ m < (qX t.l)[i].1 := fun h => by
    have h2 := zS hi h
    simp at c3
    exact c3 (by omega) h2
   refine qz ?_
   refine zai ?_
   refine zaa 1 rfl ?_
   refine za rfl (qL rfl JN (ev1 rfl) rfl rfl) ?_
   refine zal rfl (Yn (i := 0) [0, 1, 2] [] [] rfl (ev1 rfl) (ec (ev1 rfl) en) rfl rfl rfl (qan (m, (qX t.l)[i].2) ⟨by omega, by omega⟩ i _ hbl) rfl rfl rfl rfl rfl) ?_
   refine za rfl (ku rfl (ev1 rfl)) ?_
   refine zab ?_
   refine qf rfl (rfl) ?_
   refine zao ?_
   have hmn : m = (qX t.l)[i].1 := by omega
   refine ⟨i + 1, [0, 1, 2, 3, 4], by omega, by simp only []; omega, rfl, ⟨by rw [KP hi, hmn]; rfl, rfl, rfl, trivial⟩, ⟨rfl, rfl, by rw [wV hi, show YM (qX t.l)[i] = YM (m, (qX t.l)[i].2) by rw [hmn]]; rfl, rfl, rfl, trivial⟩⟩
 ·try simp only [decide_eq_true_eq, decide_eq_false_iff_not, beq_iff_eq, bne_iff_ne, beq_eq_false_iff_ne, bne_eq_false_iff_eq, qbl, qbm, qbi, qbo, qbk, ne_eq, Decidable.not_not, qbz, qbA] at c1
  have hie : i = (qX t.l).length := by
   rcases Nat.lt_or_ge i (qX t.l).length with h | h
   ·have := uo h
    omega
   ·omega
  refine qz ?_
  subst hie
  refine km [0, 1, 2, 3, 4] (qI rfl) rfl rfl ?_ ⟨?_, ?_, ?_, ?_, ?_, trivial⟩
  rfl
  all_goals first | exact rfl | exact (by rw [List.take_length]; rfl)
end Go.Proofs.YtofklkbfkoliiaaGreat
namespace Go.Proofs.YtofklkbfkoliiaaGreat
set_option linter.unusedVariables false
set_option linter.unusedSimpArgs false
open Go.RowKit
attribute [local irreducible] qX kI jK kA
theorem Z8 (t : TL) : DFun Tryz.prog 111 [tD t] [] (.slf 1 (kA t).length ((kA t).flatMap uc8)) [] := by
 refine zap (N := 26) 0 (by kernel_rfl) Tryz.func111 rfl rfl rfl (by simp only [fr0, qbh, qbj]; exact rfl) rfl fun s0 hs0 => ?_
 refine zad ?_
 refine zam 1 ?_
 refine zac ?_
 refine zal rfl (j8 0 rfl (ev1 rfl) rfl) ?_
 refine zaa 1 rfl ?_
 refine zab ?_
 refine zad ?_
 refine zam 1 ?_
 refine zac ?_
 refine zal rfl (zan 1 rfl U9 rfl) ?_
 refine zab ?_
 refine zad ?_
 refine zad ?_
 refine zam 1 ?_
 refine zac ?_
 refine zal rfl (zak [0] [] [2] rfl (ev1 rfl) (ec (ev1 rfl) en) rfl rfl (Z5 t) rfl rfl rfl rfl rfl rfl) ?_
 refine zab ?_
 refine zav ?_
 refine Kt 1 5 1 rfl (by simp only [qbp, qbq, zaf, zag, qbC, qbQ, qbh, qbj]; exact rfl) ?_
 refine vd ?_
 refine Vw 4 rfl (by simp only [qbp, qbq, zaf, zag]; exact rfl) ?_
 refine YB 1 0 4 rfl rfl rfl rfl (by simp only [qbp, qbq, zaf, zag]; exact rfl) ?_
 refine vd ?_
 simp only [qbp, qbq]
 refine Qz (FL := [(3, _)]) (st := .ready) (pe := none) [5, 1, 4, 0, 2] [] [] 5 rfl rfl (ev1 rfl) rfl (ui ⟨rfl, trivial⟩) rfl rfl rfl (QS t) rfl rfl rfl rfl rfl rfl rfl (by simp) (fun e => ?_) (fun c e => ?_)
 ·simp only [upd, zaf, zag]
  refine zai ?_
  refine za rfl (zat rfl jg (ev1 rfl) rfl rfl) ?_
  refine zaa 1 rfl ?_
  refine zab ?_
  refine vd ?_
  refine ZT 2 4 (j := 6) rfl rfl (Xk _ _) rfl (by simp only [qbp, qbq, zaf, zag]; exact rfl) ?_
  refine JH 2 rfl rfl (by simp only [qbp, qbq, zaf, zag]; exact rfl) ?_
  refine zau ?_
  refine qo (rs1 rfl (qB rfl)) rfl ?_
  rfl
 ·cases e
end Go.Proofs.YtofklkbfkoliiaaGreat
namespace Go.Proofs.YtofklkbfkoliiaaGreat
set_option linter.unusedVariables false
set_option linter.unusedSimpArgs false
open Go.RowKit
abbrev WE (B : List Int) (p : Nat) : List Int := [bAt B p, bAt B (p + 1)]
abbrev vm (B : List Int) (p : Nat) : List Int := [bAt B p, bAt B (p + 1), bAt B (p + 2), bAt B (p + 3), bAt B (p + 4)]
theorem WF {B : List Int} {p : Nat} (h : p + 2 ≤ B.length) : (B.drop p).take 2 = WE B p := by
 rw [jt (by omega), jt (p := p + 1) (by omega)]; rfl
theorem WG {B : List Int} {p : Nat} (h : p + 5 ≤ B.length) : (B.drop p).take 5 = vm B p := by
 rw [jt (by omega), jt (p := p + 1) (by omega), jt (p := p + 1 + 1) (by omega), jt (p := p + 1 + 1 + 1) (by omega), jt (p := p + 1 + 1 + 1 + 1) (by omega)]; rfl
abbrev runI (r : Int × C4) : List Value := .int .i64 r.1 :: c4 r.2
theorem Al (B : List Int) (hB : B.length ≤ 4000000000000000000) (p : Nat) (hq : p + 2 ≤ B.length) : DFun Tryz.prog 120 [.loc 0 0, .val (.int .i64 (2 : Int))] [.mix 158 [.val (.int .i64 0), .val (.int .i64 0), .val (.slice none 0 0), .slf 1 (B).length ((B).flatMap uc8), .val (.int .i64 (p : Int))]] (.slf 1 2 ((WE B p).flatMap uc8)) [.mix 158 [.val (.int .i64 0), .val (.int .i64 0), .val (.slice none 0 0), .slf 1 (B).length ((B).flatMap uc8), .val (.int .i64 ((p + 2 : Nat) : Int))]] := by
 refine zap (N := 38) 1 (by kernel_rfl) Tryz.func120 rfl rfl rfl (by simp only [fr0, qbh, qbj]; exact rfl) rfl fun s0 hs0 => ?_
 refine zai ?_
 refine zaa 1 rfl ?_
 refine zab ?_
 refine zad ?_
 refine qh [([], []), ([], []), ([], []), ([0], []), ([], []), ([], []), ([], []), ([0], []), ([], []), ([], []), ([], []), ([], [])] qJ (by kernel_rfl) ?_
 refine zae rfl rfl (zaj (.inl rfl) (ev1 rfl)) ?_
 refine zae rfl rfl (qC rfl (ev1 rfl) (fun s v h => by cases h; exact ⟨_, rfl⟩)) ?_
 refine zae rfl rfl (zas rfl ja (ev1 rfl)) ?_
 refine zae rfl rfl (zat rfl tb3 (ev1 rfl) rfl rfl) ?_
 refine zae rfl rfl (zaj (.inl rfl) (ev1 rfl)) ?_
 refine zae rfl rfl (qC rfl (ev1 rfl) (fun s v h => by cases h; exact ⟨_, rfl⟩)) ?_
 refine zae rfl rfl (zas rfl ja (ev1 rfl)) ?_
 refine zae rfl rfl (zat rfl tb3 (ev1 rfl) rfl rfl) ?_
 refine zae rfl rfl (zaj (.inl rfl) (ev1 rfl)) ?_
 refine zae rfl rfl (qc rfl (ev1 rfl) (ev1 rfl) (fun _ => qbg _ (by omega))) ?_
 refine zae rfl rfl (zaj (.inr rfl) (ev1 rfl)) ?_
 refine zae rfl rfl (zaj (.inr rfl) (ev1 rfl)) ?_
 refine ql ?_
 refine zad ?_
 refine zai ?_
 refine zaa 2 rfl ?_
 refine za rfl (qC rfl (ev1 rfl) (fun s v h => by cases h; exact ⟨_, rfl⟩)) ?_
 refine za rfl (zas rfl gd (ev1 rfl)) ?_
 refine za rfl (zat rfl jg (ev1 rfl) rfl rfl) ?_
 refine za rfl (qm rfl qg (ev1 rfl)) ?_
 refine za rfl (kg rfl (ev1 rfl) (ev1 rfl)) ?_
 refine zab ?_
 refine qf rfl (by simp; omega) ?_
 refine zao ?_
 refine zai ?_
 refine zaa 2 rfl ?_
 refine za rfl (qC rfl (ev1 rfl) (fun s v h => by cases h; exact ⟨_, rfl⟩)) ?_
 refine za rfl (zas rfl ja (ev1 rfl)) ?_
 refine zaq rfl (kQ rfl tb3 (ev1 rfl) (ev1 rfl) (fun s v h => by cases h <;> exact ⟨rfl, rfl⟩) rfl (by first | decide | exact qbr rfl | simp)) ?_
 refine zab ?_
 refine zai ?_
 refine zaa 1 rfl ?_
 refine za rfl (qC rfl (ev1 rfl) (fun s v h => by cases h; exact ⟨_, rfl⟩)) ?_
 refine za rfl (zas rfl gd (ev1 rfl)) ?_
 refine za rfl (zat rfl jg (ev1 rfl) rfl rfl) ?_
 refine zaa 3 rfl ?_
 refine za rfl (zP (i := p) (j := p + 2) rfl qg (ev1 rfl) (ev1 rfl) (ev1 rfl) (ev1 rfl) (fun hp => by first | omega | (simp at hp; omega)) (fun hp => by first | omega | (simp at hp; omega)) (fun hp => by first | omega | (simp at hp; omega)) (fun hp => by first | omega | (simp at hp; omega)) (fun _ => rfl)) ?_
 refine zaa 1 rfl ?_
 refine zab ?_
 refine zau ?_
 refine km [0] (rs1 rfl (qB rfl)) rfl rfl ?_ ⟨rfl, trivial⟩
 rw [show p + 2 - p = 2 by omega, WF hq]; rfl
theorem Xl (B : List Int) (hB : B.length ≤ 4000000000000000000) (p : Nat) (hp : p ≤ B.length) (hq : ¬ p + 2 ≤ B.length) : DPanL Tryz.prog 120 [.loc 0 0, .val (.int .i64 (2 : Int))] [.mix 158 [.val (.int .i64 0), .val (.int .i64 0), .val (.slice none 0 0), .slf 1 (B).length ((B).flatMap uc8), .val (.int .i64 (p : Int))]] (.ifc 181 (.val (.agg #[]))) := by
 refine zap (N := 38) 1 (by kernel_rfl) Tryz.func120 rfl rfl rfl (by simp only [fr0, qbh, qbj]; exact rfl) rfl fun s0 hs0 => ?_
 refine zai ?_
 refine zaa 1 rfl ?_
 refine zab ?_
 refine zad ?_
 refine qh [([], []), ([], []), ([], []), ([0], []), ([], []), ([], []), ([], []), ([0], []), ([], []), ([], []), ([], []), ([], [])] qJ (by kernel_rfl) ?_
 refine zae rfl rfl (zaj (.inl rfl) (ev1 rfl)) ?_
 refine zae rfl rfl (qC rfl (ev1 rfl) (fun s v h => by cases h; exact ⟨_, rfl⟩)) ?_
 refine zae rfl rfl (zas rfl ja (ev1 rfl)) ?_
 refine zae rfl rfl (zat rfl tb3 (ev1 rfl) rfl rfl) ?_
 refine zae rfl rfl (zaj (.inl rfl) (ev1 rfl)) ?_
 refine zae rfl rfl (qC rfl (ev1 rfl) (fun s v h => by cases h; exact ⟨_, rfl⟩)) ?_
 refine zae rfl rfl (zas rfl ja (ev1 rfl)) ?_
 refine zae rfl rfl (zat rfl tb3 (ev1 rfl) rfl rfl) ?_
 refine zae rfl rfl (zaj (.inl rfl) (ev1 rfl)) ?_
 refine zae rfl rfl (qc rfl (ev1 rfl) (ev1 rfl) (fun _ => qbg _ (by omega))) ?_
 refine zae rfl rfl (zaj (.inr rfl) (ev1 rfl)) ?_
 refine zae rfl rfl (zaj (.inr rfl) (ev1 rfl)) ?_
 refine ql ?_
 refine zad ?_
 refine zai ?_
 refine zaa 2 rfl ?_
 refine za rfl (qC rfl (ev1 rfl) (fun s v h => by cases h; exact ⟨_, rfl⟩)) ?_
 refine za rfl (zas rfl gd (ev1 rfl)) ?_
 refine za rfl (zat rfl jg (ev1 rfl) rfl rfl) ?_
 refine za rfl (qm rfl qg (ev1 rfl)) ?_
 refine za rfl (kg rfl (ev1 rfl) (ev1 rfl)) ?_
 refine zab ?_
 refine qt rfl (by simp; omega) ?_
 refine zac ?_
 refine za rfl (kH rfl YE KL) ?_
 refine za rfl (zr rfl KJ (ev1 rfl)) ?_
 refine kz rfl (wM rfl (ev1 rfl)) rfl ?_
 refine vR (Mo := [_]) [0] rfl rfl ?_ ⟨rfl, trivial⟩ rfl
 rfl
theorem Xm (B : List Int) (hB : B.length ≤ 4000000000000000000) (w h : Int) (us : List TL) (hu : us.length ≤ 5000) (p : Nat) (hq : p + 5 ≤ B.length) : DFun Tryz.prog 120 [.loc 0 0, .val (.int .i64 (5 : Int))] [.mix 158 [.val (.int .i64 w), .val (.int .i64 h), .arr 1, .slf 1 (B).length ((B).flatMap uc8), .val (.int .i64 (p : Int))], .arr 84 256 (us).length ((us).flatMap tc)] (.slf 1 5 ((vm B p).flatMap uc8)) [.mix 158 [.val (.int .i64 w), .val (.int .i64 h), .arr 1, .slf 1 (B).length ((B).flatMap uc8), .val (.int .i64 ((p + 5 : Nat) : Int))], .arr 84 256 (us).length ((us).flatMap tc)] := by
 refine zap (N := 38) 2 (by kernel_rfl) Tryz.func120 rfl rfl rfl (by simp only [fr0, qbh, qbj]; exact rfl) rfl fun s0 hs0 => ?_
 refine zai ?_
 refine zaa 1 rfl ?_
 refine zab ?_
 refine zad ?_
 refine qh [([], []), ([], []), ([], []), ([0], []), ([], []), ([], []), ([], []), ([0], []), ([], []), ([], []), ([], []), ([], [])] qJ (by kernel_rfl) ?_
 refine zae rfl rfl (zaj (.inl rfl) (ev1 rfl)) ?_
 refine zae rfl rfl (qC rfl (ev1 rfl) (fun s v h => by cases h; exact ⟨_, rfl⟩)) ?_
 refine zae rfl rfl (zas rfl ja (ev1 rfl)) ?_
 refine zae rfl rfl (zat rfl tb3 (ev1 rfl) rfl rfl) ?_
 refine zae rfl rfl (zaj (.inl rfl) (ev1 rfl)) ?_
 refine zae rfl rfl (qC rfl (ev1 rfl) (fun s v h => by cases h; exact ⟨_, rfl⟩)) ?_
 refine zae rfl rfl (zas rfl ja (ev1 rfl)) ?_
 refine zae rfl rfl (zat rfl tb3 (ev1 rfl) rfl rfl) ?_
 refine zae rfl rfl (zaj (.inl rfl) (ev1 rfl)) ?_
 refine zae rfl rfl (qc rfl (ev1 rfl) (ev1 rfl) (fun _ => qbg _ (by omega))) ?_
 refine zae rfl rfl (zaj (.inr rfl) (ev1 rfl)) ?_
 refine zae rfl rfl (zaj (.inr rfl) (ev1 rfl)) ?_
 refine ql ?_
 refine zad ?_
 refine zai ?_
 refine zaa 2 rfl ?_
 refine za rfl (qC rfl (ev1 rfl) (fun s v h => by cases h; exact ⟨_, rfl⟩)) ?_
 refine za rfl (zas rfl gd (ev1 rfl)) ?_
 refine za rfl (zat rfl jg (ev1 rfl) rfl rfl) ?_
 refine za rfl (qm rfl qg (ev1 rfl)) ?_
 refine za rfl (kg rfl (ev1 rfl) (ev1 rfl)) ?_
 refine zab ?_
 refine qf rfl (by simp; omega) ?_
 refine zao ?_
 refine zai ?_
 refine zaa 2 rfl ?_
 refine za rfl (qC rfl (ev1 rfl) (fun s v h => by cases h; exact ⟨_, rfl⟩)) ?_
 refine za rfl (zas rfl ja (ev1 rfl)) ?_
 refine zaq rfl (kQ rfl tb3 (ev1 rfl) (ev1 rfl) (fun s v h => by cases h <;> exact ⟨rfl, rfl⟩) rfl (by first | decide | exact qbr rfl | simp)) ?_
 refine zab ?_
 refine zai ?_
 refine zaa 1 rfl ?_
 refine za rfl (qC rfl (ev1 rfl) (fun s v h => by cases h; exact ⟨_, rfl⟩)) ?_
 refine za rfl (zas rfl gd (ev1 rfl)) ?_
 refine za rfl (zat rfl jg (ev1 rfl) rfl rfl) ?_
 refine zaa 3 rfl ?_
 refine za rfl (zP (i := p) (j := p + 5) rfl qg (ev1 rfl) (ev1 rfl) (ev1 rfl) (ev1 rfl) (fun hp => by first | omega | (simp at hp; omega)) (fun hp => by first | omega | (simp at hp; omega)) (fun hp => by first | omega | (simp at hp; omega)) (fun hp => by first | omega | (simp at hp; omega)) (fun _ => rfl)) ?_
 refine zaa 1 rfl ?_
 refine zab ?_
 refine zau ?_
 refine km [0, 1] (rs1 rfl (qB rfl)) rfl rfl ?_ ⟨rfl, rfl, trivial⟩
 rw [show p + 5 - p = 5 by omega, WG hq]; rfl
theorem WH (B : List Int) (hB : B.length ≤ 4000000000000000000) (w h : Int) (us : List TL) (hu : us.length ≤ 5000) (p : Nat) (hp : p ≤ B.length) (hq : ¬ p + 5 ≤ B.length) : DPanL Tryz.prog 120 [.loc 0 0, .val (.int .i64 (5 : Int))] [.mix 158 [.val (.int .i64 w), .val (.int .i64 h), .arr 1, .slf 1 (B).length ((B).flatMap uc8), .val (.int .i64 (p : Int))], .arr 84 256 (us).length ((us).flatMap tc)] (.ifc 181 (.val (.agg #[]))) := by
 refine zap (N := 38) 2 (by kernel_rfl) Tryz.func120 rfl rfl rfl (by simp only [fr0, qbh, qbj]; exact rfl) rfl fun s0 hs0 => ?_
 refine zai ?_
 refine zaa 1 rfl ?_
 refine zab ?_
 refine zad ?_
 refine qh [([], []), ([], []), ([], []), ([0], []), ([], []), ([], []), ([], []), ([0], []), ([], []), ([], []), ([], []), ([], [])] qJ (by kernel_rfl) ?_
 refine zae rfl rfl (zaj (.inl rfl) (ev1 rfl)) ?_
 refine zae rfl rfl (qC rfl (ev1 rfl) (fun s v h => by cases h; exact ⟨_, rfl⟩)) ?_
 refine zae rfl rfl (zas rfl ja (ev1 rfl)) ?_
 refine zae rfl rfl (zat rfl tb3 (ev1 rfl) rfl rfl) ?_
 refine zae rfl rfl (zaj (.inl rfl) (ev1 rfl)) ?_
 refine zae rfl rfl (qC rfl (ev1 rfl) (fun s v h => by cases h; exact ⟨_, rfl⟩)) ?_
 refine zae rfl rfl (zas rfl ja (ev1 rfl)) ?_
 refine zae rfl rfl (zat rfl tb3 (ev1 rfl) rfl rfl) ?_
 refine zae rfl rfl (zaj (.inl rfl) (ev1 rfl)) ?_
 refine zae rfl rfl (qc rfl (ev1 rfl) (ev1 rfl) (fun _ => qbg _ (by omega))) ?_
 refine zae rfl rfl (zaj (.inr rfl) (ev1 rfl)) ?_
 refine zae rfl rfl (zaj (.inr rfl) (ev1 rfl)) ?_
 refine ql ?_
 refine zad ?_
 refine zai ?_
 refine zaa 2 rfl ?_
 refine za rfl (qC rfl (ev1 rfl) (fun s v h => by cases h; exact ⟨_, rfl⟩)) ?_
 refine za rfl (zas rfl gd (ev1 rfl)) ?_
 refine za rfl (zat rfl jg (ev1 rfl) rfl rfl) ?_
 refine za rfl (qm rfl qg (ev1 rfl)) ?_
 refine za rfl (kg rfl (ev1 rfl) (ev1 rfl)) ?_
 refine zab ?_
 refine qt rfl (by simp; omega) ?_
 refine zac ?_
 refine za rfl (kH rfl YE KL) ?_
 refine za rfl (zr rfl KJ (ev1 rfl)) ?_
 refine kz rfl (wM rfl (ev1 rfl)) rfl ?_
 refine vR (Mo := [_, _]) [0, 1] rfl rfl ?_ ⟨rfl, rfl, trivial⟩ rfl
 rfl
theorem VK (B : List Int) (hB : B.length ≤ 4000000000000000000) (w h : Int) (us : List TL) (hu : us.length ≤ 5000) (p : Nat) : DFun Tryz.prog 139 [.loc 0 0] [.mix 158 [.val (.int .i64 w), .val (.int .i64 h), .arr 1, .slf 1 (B).length ((B).flatMap uc8), .val (.int .i64 (p : Int))], .arr 84 256 (us).length ((us).flatMap tc)] (.fn (.func 141) [] [.loc 2 0]) [.mix 158 [.val (.int .i64 w), .val (.int .i64 h), .arr 1, .slf 1 (B).length ((B).flatMap uc8), .val (.int .i64 (p : Int))], .arr 84 256 (us).length ((us).flatMap tc), .mix 183 [.loc 0 0]] := by
 refine zap (N := 4) 2 (by kernel_rfl) Tryz.func139 rfl rfl rfl (by simp only [fr0, qbh, qbj]; exact rfl) rfl fun s0 hs0 => ?_
 refine zad ?_
 refine zam 1 ?_
 refine zac ?_
 refine zal rfl (gW 2 rfl (ev1 rfl) (fun s v h => by cases h <;> rfl) rfl) ?_
 refine zaa 1 rfl ?_
 refine zab ?_
 refine zai ?_
 refine za rfl (ki rfl en (ec (ev1 rfl) en)) ?_
 refine zaa 1 rfl ?_
 refine zab ?_
 refine zau ?_
 refine km [0, 1, 2] (rs1 rfl (qB rfl)) rfl rfl ?_ ⟨rfl, rfl, rfl, trivial⟩
 rfl
theorem WI : DFun Tryz.prog 97 [.val .nilIface] [] (.val (.bool false)) [] := by
 refine zap (N := 11) 0 (by kernel_rfl) Tryz.func97 rfl rfl rfl (by simp only [fr0, qbh, qbj]; exact rfl) rfl fun s0 hs0 => ?_
 refine zai ?_
 refine zaa 1 rfl ?_
 refine zab ?_
 refine zad ?_
 refine zam 1 ?_
 refine zac ?_
 refine zaa 1 rfl ?_
 refine za rfl (Gr rfl KJ zv181 (ev1 rfl)) ?_
 refine zaa 3 rfl ?_
 refine zal rfl (zan 0 rfl KL rfl) ?_
 refine zaq rfl (qr rfl Ae (ev1 rfl) (ev1 rfl) rfl rfl rfl rfl) ?_
 refine zaa 1 rfl ?_
 refine zab ?_
 refine zai ?_
 refine zaa 2 rfl ?_
 refine zab ?_
 refine zau ?_
 refine qo (rs1 rfl (qB rfl)) rfl ?_
 rfl
theorem Xn : DFun Tryz.prog 97 [.ifc 181 (.val (.agg #[]))] [] (.val (.bool true)) [] := by
 refine zap (N := 11) 0 (by kernel_rfl) Tryz.func97 rfl rfl rfl (by simp only [fr0, qbh, qbj]; exact rfl) rfl fun s0 hs0 => ?_
 refine zai ?_
 refine zaa 1 rfl ?_
 refine zab ?_
 refine zad ?_
 refine zam 1 ?_
 refine zac ?_
 refine zaa 1 rfl ?_
 refine za rfl (Gq rfl KJ (ev1 rfl)) ?_
 refine zaa 3 rfl ?_
 refine zal rfl (zan 0 rfl KL rfl) ?_
 refine zaq rfl (qr rfl Ae (ev1 rfl) (ev1 rfl) rfl rfl rfl rfl) ?_
 refine zaa 1 rfl ?_
 refine zab ?_
 refine zai ?_
 refine zaa 2 rfl ?_
 refine zab ?_
 refine zau ?_
 refine qo (rs1 rfl (qB rfl)) rfl ?_
 rfl
end Go.Proofs.YtofklkbfkoliiaaGreat
