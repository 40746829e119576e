/- Arrays as values, indexed; slice variables that begin as nil; appended to a row that is nil; loops begun by hand; Rows of families that grow by append; a row that a variable's cell names joins a family; what types are; canvases compared, point by point; where canvases differ; what a row of spans has, by the document; places of canvases; regions, filled, and steps; arguments that are opened; filled canvases; the law: what rests; the law: what rests, whole. No condition. -/
import Derived.Test.YtfnhckildfbikaaGreatQ6
import Derived.Test.YtfnhckildfbikaaGreatRows
namespace Go.Proofs.YtfnhckildfbikaaGreat
set_option linter.unusedVariables false
set_option linter.unusedSimpArgs false
open Go.RowKit
section
variable {P : Program} {pc : Bool} {o : Oper} {F : Fr} {M : List Blk} {T : TypeId} {x y : Operand} {n sz : Nat} {k : IntKind} {z : Int} {α : Type} {en : α → List Value} {l : List α} {j : Nat}
end
section
variable {P : Program} {s0 : St} {n : Cx}
/-- a slice variable that begins as nil: an array of its own -/
theorem inv_adoptm {F : Fr} {M : List Blk} {a : Act} {w : World} {i : Nat} {T : TypeId} (e : TypeId) (sz : Nat) (h : Inv s0 n F M a w) (hi : M[i]? = some (.flat T [.slice none 0 0])) : Inv s0 n F ((M ++ [Blk.arr e sz 0 []]).set i (.mix T [.arr M.length])) a w := by
  obtain ⟨h0, s, rfl, rfl, h3, h4, h5, h6⟩ := h
  have t1 := step_hole h3.ok
  have hlen := h3.ok.len
  have hn : (s.M ++ [Blk.hole])[s.M.length]? = some .hole := by simp
  have t2 : Tr ⟨s.β ++ [Value.nilFunc], s.I, s.M ++ [Blk.hole], s.w⟩ ⟨(s.β ++ [Value.nilFunc]).set s.M.length (.slice none 0 0), s.I, (s.M ++ [Blk.hole]).set s.M.length (.arr e sz 0 []), s.w⟩ :=
    tr_new (s := ⟨s.β ++ [Value.nilFunc], s.I, s.M ++ [Blk.hole], s.w⟩) t1.ok (j := s.M.length) hn (.slice none 0 0) (.arr e sz 0 []) s.w (by simp) (fun b hb => by cases hb) (fun b _ => rfl) (fun b hb => by cases hb) (Nat.le_refl _) rfl rfl rfl (World.ownsRow_nil s.w 0 e sz)
  have tt := t1.trans t2
  have hil : i < s.M.length := (List.getElem?_eq_some_iff.1 hi).1
  have eM : (s.M ++ [Blk.hole]).set s.M.length (.arr e sz 0 []) = s.M ++ [.arr e sz 0 []] := by simp
  rw [eM] at tt
  generalize hS : (⟨(s.β ++ [Value.nilFunc]).set s.M.length (.slice none 0 0), s.I, s.M ++ [.arr e sz 0 []], s.w⟩ : St) = S at tt
  have hSM : S.M = s.M ++ [.arr e sz 0 []] := by rw [← hS]
  have hSw : S.w = s.w := by rw [← hS]
  have hMi : S.M[i]? = some (.flat T [.slice none 0 0]) := by rw [hSM, List.getElem?_append_left hil]; exact hi
  have hβlen : s.M.length < S.β.length := by rw [← hS]; simp [hlen]
  have hβn : S.β[s.M.length]? = some (.slice none 0 0) := by rw [← hS]; simp [hlen]
  obtain ⟨hd, hβi⟩ : ∃ hd, S.β[i]? = some hd := ⟨_, List.getElem?_eq_getElem (by omega)⟩
  obtain ⟨b, rfl, hb⟩ := tt.ok.blk i _ _ hMi hβi
  have t3 : Tr S ⟨S.β.set i (.pointer (some ⟨b, 0, none⟩)), S.I, S.M.set i (.mix T [.arr s.M.length]), S.w⟩ := by
    have hlv : Live S b := live_of hMi rfl hβi rfl
    refine step_set tt.ok i S.M (.pointer (some ⟨b, 0, none⟩)) (.mix T [.arr s.M.length]) S.w rfl (fun _ _ h => .inl h) (List.getElem?_eq_some_iff.1 hMi).1 (.inr (.inl hβi)) (by simp) ?_ (fun c hc j k h hne h1 h2 h3 h4 => ?_) (fun c hc => by cases hc; exact .inr hlv) (fun c hc => by cases hc; exact (tt.ok.lt b hlv).1) (fun _ => False) (fun _ h => h.elim) (fun _ _ _ _ => rfl) rfl rfl rfl (Nat.le_refl _)
    · refine ⟨b, [.slice none 0 0], rfl, hb, rfl, fun j d v h1 h2 => ?_⟩
      cases j with
      | zero =>
        simp at h1 h2
        subst h1 h2
        exact .arr (by rw [List.getElem?_set_ne (by omega)]; exact hβn)
      | succ j => simp at h1
    · cases hc
      exact hne (tt.ok.inj j i k _ h _ b h1 h2 h3 h4 hMi rfl hβi rfl)
  have ttt := tt.trans t3
  refine ⟨h0, ⟨S.β.set i (.pointer (some ⟨b, 0, none⟩)), S.I, S.M.set i (.mix T [.arr s.M.length]), S.w⟩, by simp only [hSM], hSw, h3.trans ttt, fun x d hd => (h4 x d hd).mono h3.ok ttt, h5, h6.mono h3.ok ttt⟩
theorem dwp_adoptm {c : Code} {F : Fr} {M M' : List Blk} {K : Cont} {T : TypeId} (i : Nat) (e : TypeId) (sz : Nat) (hi : M[i]? = some (.flat T [.slice none 0 0])) (hM : (M ++ [Blk.arr e sz 0 []]).set i (.mix T [.arr M.length]) = M') (h : dwp P s0 n c F M' K) : dwp P s0 n c F M K := by
  subst hM
  exact fun a w hv => h a w (inv_adoptm e sz hv hi)
end
section
variable {α : Type} [DecidableEq α] {P : Program} {K E T : TypeId} {en : α → List Value} {pc : Bool} {o : Oper} {F : Fr} {M : List Blk} {x y z : Operand}
end
end Go.Proofs.YtfnhckildfbikaaGreat
namespace Go.Proofs.YtfnhckildfbikaaGreat
set_option linter.unusedVariables false
set_option linter.unusedSimpArgs false
open Go.RowKit
section
variable {P : Program} {pc : Bool} {o : Oper} {F : Fr} {M : List Blk}
end
section
variable {P : Program} {s0 : St} {n : Cx}
/-- a row of one's own that a variable's cell names joins a family -/
theorem inv_absc {F : Fr} {M : List Blk} {a : Act} {w : World} {p q j f : Nat} {T e : TypeId} {l : List D} {sz m : Nat} {L : List Value} {Bs : List Mem} (h : Inv s0 n F M a w) (hM : M[p]? = some (.mix T l)) (hq : l[q]? = some (.arr j)) (hj : M[j]? = some (.arr e sz m L)) (hf : M[f]? = some (.fam Bs)) : Inv s0 n F (((M.set j .gone).set f (.fam (Bs ++ [.arr e sz m L]))).set p (.mix T (l.set q (.farr f Bs.length)))) a w := by
  obtain ⟨h0, s, rfl, rfl, h3, h4, h5, h6⟩ := h
  have hlen := h3.ok.len
  have hfl := (List.getElem?_eq_some_iff.1 hf).1
  have hjl := (List.getElem?_eq_some_iff.1 hj).1
  have hpl := (List.getElem?_eq_some_iff.1 hM).1
  have hpj : p ≠ j := fun e => by subst e; rw [hM] at hj; cases hj
  have hpf : p ≠ f := fun e => by subst e; rw [hM] at hf; cases hf
  obtain ⟨x, hx⟩ : ∃ x, s.β[f]? = some x := ⟨_, List.getElem?_eq_getElem (by omega)⟩
  obtain ⟨y, hy⟩ : ∃ y, s.β[j]? = some y := ⟨_, List.getElem?_eq_getElem (by omega)⟩
  obtain ⟨z, hz⟩ : ∃ z, s.β[p]? = some z := ⟨_, List.getElem?_eq_getElem (by omega)⟩
  obtain ⟨hs, rfl, hfo⟩ := h3.ok.blk f _ x hf hx
  have tt := tr_abs (B := .arr e sz m L) h3.ok hf hj rfl hx hy
  obtain ⟨s1, e1⟩ : ∃ s1 : St, s1 = ⟨s.β.set f (.tuple (hs ++ [y]).toArray), s.I, (s.M.set j .gone).set f (.fam (Bs ++ [.arr e sz m L])), s.w⟩ := ⟨_, rfl⟩
  have tt : Tr s s1 := by rw [e1]; exact tt
  have hM1 : s1.M = (s.M.set j .gone).set f (.fam (Bs ++ [.arr e sz m L])) := by rw [e1]
  have hw1 : s1.w = s.w := by rw [e1]
  have hp1 : s1.M[p]? = some (.mix T l) := by rw [hM1, List.getElem?_set_ne (Ne.symm hpf), List.getElem?_set_ne (Ne.symm hpj)]; exact hM
  have hz1 : s1.β[p]? = some z := by rw [e1]; show (s.β.set f _)[p]? = _; rw [List.getElem?_set_ne (Ne.symm hpf)]; exact hz
  have hpl1 : p < s1.M.length := (List.getElem?_eq_some_iff.1 hp1).1
  have hset : s1.β.set p z = s1.β := by
    have h1 : p < s1.β.length := by rw [tt.ok.len]; exact hpl1
    have h2 : s1.β[p] = z := by
      have := List.getElem?_eq_getElem h1
      rw [hz1] at this
      exact (Option.some.inj this).symm
    rw [← h2]
    exact List.set_getElem_self ..
  obtain ⟨b, vs, k1, k2, k3, k4⟩ := tt.ok.blk p _ z hp1 hz1
  have hql := (List.getElem?_eq_some_iff.1 hq).1
  have t2 : Tr s1 ⟨s1.β, s1.I, s1.M.set p (.mix T (l.set q (.farr f Bs.length))), s1.w⟩ := by
    have hst := step_set tt.ok p s1.M z (.mix T (l.set q (.farr f Bs.length))) s1.w rfl (fun i k h => .inl h) hpl1 (.inr (.inl hz1)) (by rw [k1]; simp) ?_ (fun b' hb' j' kj hj' hne h1 h2 h3' h4' => ?_) (fun b' hb' => .inr (live_of hp1 rfl hz1 hb')) (fun b' hb' => (tt.ok.lt b' (live_of hp1 rfl hz1 hb')).1) (fun _ => False) (fun _ h => h.elim) (fun b' hlt hne _ => rfl) rfl rfl rfl (Nat.le_refl _)
    · rw [hset] at hst
      exact hst
    · refine ⟨b, vs, k1, k2, by simp [k3], fun j' d v g1 g2 => ?_⟩
      rw [hset]
      have lift : ∀ {d v}, Rep s1 d v → Rep ⟨s1.β, s1.I, s1.M.set p (.mix T (l.set q (.farr f Bs.length))), s1.w⟩ d v := fun hr =>
        Rep.mono' (s := s1) (s' := ⟨s1.β, s1.I, s1.M.set p (.mix T (l.set q (.farr f Bs.length))), s1.w⟩) (fun _ _ h _ => h) (fun _ h => h) (fun _ _ => rfl) hr
      by_cases e : q = j'
      · subst e
        rw [List.getElem?_set_self hql] at g1
        cases g1
        refine lift ?_
        have hr := k4 q _ v hq g2
        have hy1 : s1.β[j]? = some y := by
          have hjf : f ≠ j := fun e => by subst e; rw [hf] at hj; cases hj
          rw [e1]; show (s.β.set f _)[j]? = _; rw [List.getElem?_set_ne hjf]; exact hy
        cases hr with
        | @arr _ ad n' c hβ =>
          rw [hy1] at hβ
          obtain rfl := Option.some.inj hβ
          refine .farr (hs := hs ++ [.slice ad n' c]) (by rw [e1]; show (s.β.set f _)[f]? = _; rw [List.getElem?_set_self (by omega)]) ?_
          rw [List.getElem?_append_right (by rw [hfo.len]; exact Nat.le_refl _), hfo.len, Nat.sub_self]
          rfl
      · rw [List.getElem?_set_ne e] at g1
        exact lift (k4 j' d v g1 g2)
    · exact hne (tt.ok.inj j' p kj _ hj' _ b' h1 h2 h3' h4' hp1 rfl hz1 hb')
  refine ⟨h0, ⟨s1.β, s1.I, s1.M.set p (.mix T (l.set q (.farr f Bs.length))), s1.w⟩, by rw [hM1], hw1, (h3.trans tt).trans t2, fun x d hd => ((h4 x d hd).mono h3.ok tt).mono tt.ok t2, h5, (h6.mono h3.ok tt).mono tt.ok t2⟩
theorem dwp_absc {c : Code} {F : Fr} {M M' : List Blk} {K : Cont} (p q f : Nat) {j : Nat} {T e : TypeId} {l : List D} {sz m : Nat} {L : List Value} {Bs : List Mem} (hM : M[p]? = some (.mix T l)) (hq : l[q]? = some (.arr j)) (hj : M[j]? = some (.arr e sz m L)) (hf : M[f]? = some (.fam Bs)) (hM' : ((M.set j .gone).set f (.fam (Bs ++ [.arr e sz m L]))).set p (.mix T (l.set q (.farr f Bs.length))) = M') (h : dwp P s0 n c F M' K) : dwp P s0 n c F M K := by
  subst hM'
  exact fun a w hh => h a w (inv_absc hh hM hq hj hf)
end
section
variable {P : Program} {pc : Bool} {o : Oper} {F : Fr} {M : List Blk} {T : TypeId} {x y : Operand} {k : IntKind} {z : Int} {n sz : Nat}
end
end Go.Proofs.YtfnhckildfbikaaGreat
namespace Go.Proofs.YtfnhckildfbikaaGreat
set_option maxRecDepth 4000
set_option linter.unusedVariables false
set_option linter.unusedSimpArgs false
open Go.RowKit
theorem putsC_take {w h : Int} {ts : List TL} {l : List Dt} {k : Nat} (hk : k < l.length) : putsC w h ts (l.take (k + 1)) = putC w h (putsC w h ts (l.take k)) l[k] := by
  rw [List.take_succ_eq_append_getElem hk, putsC, List.foldl_append]; rfl
/-- the points of a row of pixels at which both have other colours -/
def difR (w : Int) (ts us : List TL) (y n : Nat) : List P2 := ((List.range n).filter fun (x : Nat) => decide (getC w ts (x : Int) (y : Int) ≠ getC w us (x : Int) (y : Int))).map fun (x : Nat) => ⟨(x : Int), (y : Int)⟩
/-- .. of the first rows -/
def difU (w : Int) (ts us : List TL) (W n : Nat) : List P2 := (List.range n).flatMap fun y => difR w ts us y W
def difC (w h : Int) (ts us : List TL) : List P2 := difU w ts us (w * 8).toNat (h * 8).toNat
theorem difR_0 (w : Int) (ts us : List TL) (y : Nat) : difR w ts us y 0 = [] := rfl
theorem difR_yes {w : Int} {ts us : List TL} {y n : Nat} (h : getC w ts (n : Int) (y : Int) ≠ getC w us (n : Int) (y : Int)) : difR w ts us y (n + 1) = difR w ts us y n ++ [⟨(n : Int), (y : Int)⟩] := by
  unfold difR
  rw [List.range_succ, List.filter_append, List.filter_cons, if_pos (by simpa using h), List.map_append]
  rfl
theorem difR_no {w : Int} {ts us : List TL} {y n : Nat} (h : getC w ts (n : Int) (y : Int) = getC w us (n : Int) (y : Int)) : difR w ts us y (n + 1) = difR w ts us y n := by
  unfold difR
  rw [List.range_succ, List.filter_append, List.filter_cons, if_neg (by simpa using h)]
  simp
theorem difR_len (w : Int) (ts us : List TL) (y n : Nat) : (difR w ts us y n).length ≤ n := by
  unfold difR
  rw [List.length_map]
  refine Nat.le_trans (List.length_filter_le _ _) ?_
  simp
theorem difU_succ (w : Int) (ts us : List TL) (W n : Nat) : difU w ts us W (n + 1) = difU w ts us W n ++ difR w ts us n W := by
  unfold difU
  rw [List.range_succ, List.flatMap_append, List.flatMap_cons]
  simp
theorem difU_len (w : Int) (ts us : List TL) (W : Nat) : ∀ n, (difU w ts us W n).length ≤ n * W
  | 0 => by simp [difU]
  | n + 1 => by
    rw [difU_succ, List.length_append, Nat.succ_mul]
    have := difU_len w ts us W n
    have := difR_len w ts us n W
    omega
end Go.Proofs.YtfnhckildfbikaaGreat
namespace Go.Proofs.YtfnhckildfbikaaGreat
set_option maxRecDepth 4000
set_option linter.unusedVariables false
set_option linter.unusedSimpArgs false
open Go.RowKit
def rowEq (w : Int) (ts us : List TL) (y n : Nat) : Bool := (List.range n).all fun (x : Nat) => decide (getC w ts (x : Int) (y : Int) = getC w us (x : Int) (y : Int))
def allEq (w : Int) (ts us : List TL) (W n : Nat) : Bool := (List.range n).all fun (y : Nat) => rowEq w ts us y W
def sameF (w h : Int) (ts us : List TL) : Bool := allEq w ts us (w * 8).toNat (h * 8).toNat
theorem pl_back {w : Int} {p q : Nat} (hw : 1 ≤ w) (hq : q < 64) : plN w ((p : Int) % w * 8 + (q : Int) % 8) ((p : Int) / w * 8 + (q : Int) / 8) = p ∧ pxN ((p : Int) % w * 8 + (q : Int) % 8) ((p : Int) / w * 8 + (q : Int) / 8) = q := by
  have h1 := Int.emod_nonneg (p : Int) (show w ≠ 0 by omega)
  have h2 : (0 : Int) ≤ (p : Int) / w := Int.ediv_nonneg (by omega) (by omega)
  have e := Int.mul_ediv_add_emod (p : Int) w
  unfold plN pxN
  generalize (p : Int) % w = r at h1 e ⊢
  generalize (p : Int) / w = d at h2 e ⊢
  have e1 : (d * 8 + (q : Int) / 8) / 8 = d := by omega
  have e2 : (r * 8 + (q : Int) % 8) / 8 = r := by omega
  have e3 : (d * 8 + (q : Int) / 8) % 8 = (q : Int) / 8 := by omega
  have e4 : (r * 8 + (q : Int) % 8) % 8 = (q : Int) % 8 := by omega
  rw [e1, e2, e3, e4, Int.mul_comm d w]
  omega
theorem on_back {w h : Int} {p q : Nat} (hm : mayS w h = true) (hp : (p : Int) < w * h) (hq : q < 64) : onS w h ((p : Int) % w * 8 + (q : Int) % 8) ((p : Int) / w * 8 + (q : Int) / 8) = true := by
  have hb := mayS_b hm
  have h1 := Int.emod_nonneg (p : Int) (show w ≠ 0 by omega)
  have h3 := Int.emod_lt_of_pos (p : Int) (show 0 < w by omega)
  have h2 : (0 : Int) ≤ (p : Int) / w := Int.ediv_nonneg (by omega) (by omega)
  have h4 : (p : Int) / w < h := Int.ediv_lt_of_lt_mul (by omega) (by rw [Int.mul_comm h w]; exact hp)
  exact onS_iff.2 ⟨by omega, by omega⟩
theorem sameF_iff {w h : Int} {ts us : List TL} (hc : CvOk w h ts) (hd : CvOk w h us) : sameF w h ts us = decide (ts = us) := by
  rw [Bool.eq_iff_iff]
  have hb := mayS_b hc.may
  have l1 := hc.len
  have l2 := hd.len
  constructor
  · intro h1
    rw [decide_eq_true_eq]
    apply List.ext_getElem (by omega)
    intro p hp hp2
    apply TL.ext
    apply List.ext_getElem (by rw [TL.h, TL.h])
    intro q hq hq2
    rw [TL.h] at hq
    have ho := on_back (p := p) (q := q) hc.may (by omega) hq
    obtain ⟨e1, e2⟩ := pl_back (w := w) (p := p) (q := q) (by omega) hq
    have hxy := onS_iff.1 ho
    generalize hX : (p : Int) % w * 8 + (q : Int) % 8 = X at ho e1 e2 hxy
    generalize hY : (p : Int) / w * 8 + (q : Int) / 8 = Y at ho e1 e2 hxy
    have h2 := List.all_eq_true.1 h1 Y.toNat (List.mem_range.2 (by omega))
    have h3 := List.all_eq_true.1 h2 X.toNat (List.mem_range.2 (by omega))
    rw [decide_eq_true_eq, show ((X.toNat : Nat) : Int) = X by omega, show ((Y.toNat : Nat) : Int) = Y by omega] at h3
    unfold getC at h3
    rw [e1, e2, tl_at hp, tl_at hp2] at h3
    unfold TL.get at h3
    rw [List.getD_eq_getElem?_getD, List.getD_eq_getElem?_getD, List.getElem?_eq_getElem (by rw [TL.h]; exact hq), List.getElem?_eq_getElem (by rw [TL.h]; exact hq)] at h3
    exact h3
  · intro h1
    have h1 : ts = us := by simpa using h1
    subst h1
    exact List.all_eq_true.2 fun y _ => List.all_eq_true.2 fun x _ => by simp
set_option maxRecDepth 4000 in
set_option maxHeartbeats 1000000 in
theorem points_d (w h : Int) (hm : mayS w h = true) : DFun Tryz.prog 42 [.val (.agg #[.int .i64 w, .int .i64 h])] [] (.fn (.func 73) [] [.loc 0 0, .loc 1 0]) [.flat 3 [.int .i64 (h * 8)], .flat 3 [.int .i64 (w * 8)]] := by
  refine zan (N := 11) 0 (by kernel_rfl) Tryz.func42 rfl rfl rfl (by simp only [fr0, Nat.zero_add, Nat.reduceAdd]; exact rfl) rfl fun s0 hs0 => ?_
  refine zaf ?_
  refine zah 1 (by simp only [holes, List.cons_append, List.nil_append]; exact rfl) ?_
  refine zac ?_
  refine zaj rfl rfl rfl (op_boxa 0 rfl (ev1 rfl) rfl) (by simp only [upd, zaa, za]; exact rfl) ?_
  refine zab rfl rfl rfl (zad (.inr rfl) (ev1 rfl)) ?_
  refine zae ?_
  refine zaf ?_
  refine zah 2 (by simp only [holes, List.cons_append, List.nil_append]; exact rfl) ?_
  refine zac ?_
  refine zab rfl rfl rfl (op_ldw rfl tb81 (ev1 rfl) rfl rfl) ?_
  refine zab rfl rfl rfl (zai [] [] [] rfl (ev1 rfl) (ec (ev1 rfl) en) rfl rfl (spix_d w h hm) rfl rfl rfl rfl rfl rfl) ?_
  refine zab rfl rfl rfl (zad (.inl rfl) (ev1 rfl)) ?_
  refine zab rfl rfl rfl (op_ext rfl (ev1 rfl) rfl) ?_
  refine zab rfl rfl rfl (op_ext rfl (ev1 rfl) rfl) ?_
  refine zaj rfl rfl rfl (op_alloc 1 rfl zr3 rfl) (by simp only [upd, zaa, za]; exact rfl) ?_
  refine zaj rfl rfl rfl (op_alloc 2 rfl zr3 rfl) (by simp only [upd, zaa, za]; exact rfl) ?_
  refine walk_s rfl rfl (op_stwi rfl tb3 (ev1 rfl) (ev1 rfl) rfl) (by simp only [upd, zaa, za]; exact rfl) ?_
  refine walk_s rfl rfl (op_stwi rfl tb3 (ev1 rfl) (ev1 rfl) rfl) (by simp only [upd, zaa, za]; exact rfl) ?_
  refine zae ?_
  refine zaf ?_
  refine zac ?_
  refine zab rfl rfl rfl (op_mkf rfl en (ec (ev1 rfl) (ec (ev1 rfl) en))) ?_
  refine zab rfl rfl rfl (zad (.inr rfl) (ev1 rfl)) ?_
  refine zae ?_
  refine dwp_ret ?_
  refine kend [2, 1] (rs1 rfl (rv_t rfl)) rfl rfl ?_ ⟨rfl, rfl, trivial⟩
  rfl
end Go.Proofs.YtfnhckildfbikaaGreat
namespace Go.Proofs.YtfnhckildfbikaaGreat
set_option maxRecDepth 4000
set_option linter.unusedVariables false
set_option linter.unusedSimpArgs false
open Go.RowKit
theorem eq81 {a0 : Int} {a1 : Int} {b0 : Int} {b1 : Int} : eqT Tryz.prog 9 81 [.int .i64 a0, .int .i64 a1] [.int .i64 b0, .int .i64 b1] = some ((a0 == b0) && ((a1 == b1) && true)) := by kernel_rfl
theorem gd81 : Tryz.prog.eqGuardType Tryz.prog.depth 81 = false := by kernel_rfl
noncomputable def difA : Code := rfA (pth [1, 1, 1, 0, 1, 0] (bodyOf Tryz.f16))
noncomputable def difB : Code := rfB (pth [1, 1, 1, 0, 1, 0] (bodyOf Tryz.f16))
set_option maxRecDepth 4000 in
set_option maxHeartbeats 1000000 in
theorem difRound_yes (w h : Int) (da db : List D) (ts us : List TL) (ra : RowOk da ts) (rb : RowOk db us) (ca : CvOk w h ts) (cb : CvOk w h us) (x y : Int) (ho : onS w h x y = true) (l : List P2) (hl : l.length ≤ 5000) (h1 : getC w ts x y ≠ getC w us x y) : DRound Tryz.prog 0 [.val (.agg #[.int .i64 x, .int .i64 y])] [.lp 42 [(2, .loc 1 0), (3, .loc 2 0), (5, .loc 3 0)] #[29] difA difB .ready none, .mix 29 [cvD w h da], .mix 29 [cvD w h db], .mix 55 [.farr 4 (l).length], .fam (fmP (l))] true [.lp 42 [(2, .loc 1 0), (3, .loc 2 0), (5, .loc 3 0)] #[29] difA difB .ready none, .mix 29 [cvD w h da], .mix 29 [cvD w h db], .mix 55 [.farr 4 (l ++ [(⟨x, y⟩ : P2)]).length], .fam (fmP (l ++ [(⟨x, y⟩ : P2)]))] := by
  refine dround_go 5 rfl rfl (by simp) rfl rfl fun s0 hs0 => ?_
  refine zah 1 (by simp only [holes, List.cons_append, List.nil_append]; exact rfl) ?_
  refine zac ?_
  refine zaj rfl rfl rfl (op_alloc 5 rfl zr26 rfl) (by simp only [upd, zaa, za]; exact rfl) ?_
  refine walk_s rfl rfl (op_stwa rfl tb26 (ev1 rfl) (ev1 rfl) rfl rfl rfl rfl) (by simp only [upd, zaa, za]; exact rfl) ?_
  refine zae ?_
  refine ⟨rfl, ?_⟩
  simp only [zaa, za]
  refine zak ?_
  refine zaf ?_
  refine dwp_draw [([1], []), ([5], []), ([], []), ([2], []), ([5], []), ([], []), ([], [])] mixed (by kernel_rfl) ?_
  refine zag rfl rfl (op_ldm rfl tb29 (ev1 rfl) rfl rfl) ?_
  refine zag rfl rfl (op_ldw rfl tb26 (ev1 rfl) rfl rfl) ?_
  refine zag rfl rfl (zai [] [] [] rfl (ev1 rfl) (ec (ev1 rfl) (ec (ev1 rfl) en)) rfl rfl (color_d w h da ts ra ca x y ho) rfl rfl rfl rfl rfl rfl) ?_
  refine zag rfl rfl (op_ldm rfl tb29 (ev1 rfl) rfl rfl) ?_
  refine zag rfl rfl (op_ldw rfl tb26 (ev1 rfl) rfl rfl) ?_
  refine zag rfl rfl (zai [] [] [] rfl (ev1 rfl) (ec (ev1 rfl) (ec (ev1 rfl) en)) rfl rfl (color_d w h db us rb cb x y ho) rfl rfl rfl rfl rfl rfl) ?_
  refine zag rfl rfl (op_ner eq44 rfl gd44 tb44 (ev1 rfl) (ev1 rfl)) ?_
  refine lex_nil ?_
  refine dwp_if_t rfl (by simpa using h1) ?_
  refine zah 2 (by simp only [holes, List.cons_append, List.nil_append]; exact rfl) ?_
  refine zac ?_
  refine zab rfl rfl rfl (op_ldm rfl tb55 (ev1 rfl) rfl rfl) ?_
  refine zab rfl rfl rfl (op_ldw rfl tb26 (ev1 rfl) rfl rfl) ?_
  refine zab rfl rfl rfl (op_bs (ps := [(0, .tmp 38)]) rfl sl55 zr26 rfl (vc (ev1 rfl) vn) rfl (by decide) (by decide)) ?_
  refine zaj rfl rfl rfl (op_appF (j1 := 6) (j2 := 7) rfl rfl sl55 zr26 rfl (ev1 rfl) (ev1 rfl) rfl (fmP_at l) rfl rfl rfl (fun _ => rfl) (fun _ => ⟨by omega, by omega⟩)) (by simp only [upd, zaa, za]; exact rfl) ?_
  refine walk_s rfl rfl (op_stm rfl tb55 (ev1 rfl) (ev1 rfl) (fun s v h => by cases h <;> exact ⟨rfl, rfl⟩) rfl (by first | decide | exact Nat.le_of_ble_eq_true rfl | simp)) (by simp only [upd, zaa, za]; exact rfl) ?_
  refine zae ?_
  refine ⟨by first | rfl | assumption | simp_all, rfl, [0, 1, 2, 3, 4], rfl, ⟨rfl, rfl, rfl, by rw [fmP_len, List.length_append]; rfl, by rw [← fmP_add]; rfl, trivial⟩⟩
set_option maxRecDepth 4000 in
set_option maxHeartbeats 1000000 in
theorem difRound_no (w h : Int) (da db : List D) (ts us : List TL) (ra : RowOk da ts) (rb : RowOk db us) (ca : CvOk w h ts) (cb : CvOk w h us) (x y : Int) (ho : onS w h x y = true) (l : List P2) (hl : l.length ≤ 5000) (h1 : getC w ts x y = getC w us x y) : DRound Tryz.prog 0 [.val (.agg #[.int .i64 x, .int .i64 y])] [.lp 42 [(2, .loc 1 0), (3, .loc 2 0), (5, .loc 3 0)] #[29] difA difB .ready none, .mix 29 [cvD w h da], .mix 29 [cvD w h db], .mix 55 [.farr 4 (l).length], .fam (fmP (l))] true [.lp 42 [(2, .loc 1 0), (3, .loc 2 0), (5, .loc 3 0)] #[29] difA difB .ready none, .mix 29 [cvD w h da], .mix 29 [cvD w h db], .mix 55 [.farr 4 (l).length], .fam (fmP (l))] := by
  refine dround_go 5 rfl rfl (by simp) rfl rfl fun s0 hs0 => ?_
  refine zah 1 (by simp only [holes, List.cons_append, List.nil_append]; exact rfl) ?_
  refine zac ?_
  refine zaj rfl rfl rfl (op_alloc 5 rfl zr26 rfl) (by simp only [upd, zaa, za]; exact rfl) ?_
  refine walk_s rfl rfl (op_stwa rfl tb26 (ev1 rfl) (ev1 rfl) rfl rfl rfl rfl) (by simp only [upd, zaa, za]; exact rfl) ?_
  refine zae ?_
  refine ⟨rfl, ?_⟩
  simp only [zaa, za]
  refine zak ?_
  refine zaf ?_
  refine dwp_draw [([1], []), ([5], []), ([], []), ([2], []), ([5], []), ([], []), ([], [])] mixed (by kernel_rfl) ?_
  refine zag rfl rfl (op_ldm rfl tb29 (ev1 rfl) rfl rfl) ?_
  refine zag rfl rfl (op_ldw rfl tb26 (ev1 rfl) rfl rfl) ?_
  refine zag rfl rfl (zai [] [] [] rfl (ev1 rfl) (ec (ev1 rfl) (ec (ev1 rfl) en)) rfl rfl (color_d w h da ts ra ca x y ho) rfl rfl rfl rfl rfl rfl) ?_
  refine zag rfl rfl (op_ldm rfl tb29 (ev1 rfl) rfl rfl) ?_
  refine zag rfl rfl (op_ldw rfl tb26 (ev1 rfl) rfl rfl) ?_
  refine zag rfl rfl (zai [] [] [] rfl (ev1 rfl) (ec (ev1 rfl) (ec (ev1 rfl) en)) rfl rfl (color_d w h db us rb cb x y ho) rfl rfl rfl rfl rfl rfl) ?_
  refine zag rfl rfl (op_ner eq44 rfl gd44 tb44 (ev1 rfl) (ev1 rfl)) ?_
  refine lex_nil ?_
  refine dwp_if_f rfl (by simpa using h1) ?_
  refine zal ?_
  refine ⟨by first | rfl | assumption | simp_all, rfl, [0, 1, 2, 3, 4], rfl, ⟨rfl, rfl, rfl, rfl, rfl, trivial⟩⟩
set_option maxRecDepth 4000 in
set_option maxHeartbeats 1000000 in
theorem pts_dif (w h : Int) (da db : List D) (ts us : List TL) (ra : RowOk da ts) (rb : RowOk db us) (ca : CvOk w h ts) (cb : CvOk w h us) : DFun Tryz.prog 73 [.yld 0, .loc 5 0, .loc 6 0] [.lp 42 [(2, .loc 1 0), (3, .loc 2 0), (5, .loc 3 0)] #[29] difA difB .ready none, .mix 29 [cvD w h da], .mix 29 [cvD w h db], .mix 55 [.farr 4 (([] : List P2)).length], .fam (fmP (([] : List P2))), .flat 3 [.int .i64 (h * 8)], .flat 3 [.int .i64 (w * 8)]] (.tup []) [.lp 42 [(2, .loc 1 0), (3, .loc 2 0), (5, .loc 3 0)] #[29] difA difB .ready none, .mix 29 [cvD w h da], .mix 29 [cvD w h db], .mix 55 [.farr 4 (difC w h ts us).length], .fam (fmP (difC w h ts us)), .flat 3 [.int .i64 (h * 8)], .flat 3 [.int .i64 (w * 8)]] := by
  have hb := mayS_b ca.may
  refine zan (N := 22) 7 (by kernel_rfl) Tryz.func73 rfl rfl rfl (by simp only [fr0, Nat.zero_add, Nat.reduceAdd]; exact rfl) rfl fun s0 hs0 => ?_
  refine zaf ?_
  refine zac ?_
  refine zab rfl rfl rfl (op_ldo rfl tb3 (ev1 rfl) rfl rfl) ?_
  refine zab rfl rfl rfl (zad (.inl rfl) (ev1 rfl)) ?_
  refine zae ?_
  refine zak ?_
  refine dwp_loopS ⟨hs0, rfl⟩ (α := Nat) (fun y => [(7, .val (.int .i64 (y : Int)))]) [(0, _), (2, _), (6, _)] (fun y => [(3, .mix 55 [.farr 4 (difU w ts us (w * 8).toNat y).length]), (4, .fam (fmP (difU w ts us (w * 8).toNat y)))]) [_, _, _, .hole, .hole, _, _] (fun y => (y : Int) ≤ h * 8) (fun y => (h * 8).toNat - y) 0 [0, 1, 2, 3, 4, 5, 6] (by omega) rfl ⟨rfl, rfl, rfl, trivial⟩ ⟨rfl, trivial⟩ ⟨rfl, rfl, rfl, rfl, rfl, rfl, rfl, trivial⟩ ?_
  intro y hx
  simp only [upd, zaa, za, List.cons_append, List.nil_append]
  have hy := hx
  have hlU := difU_len w ts us (w * 8).toNat y
  have hlU2 : y * (w * 8).toNat ≤ 32 * 32 := Nat.mul_le_mul (by omega) (by omega)
  refine zaf ?_
  refine zac ?_
  refine zab rfl rfl rfl (op_lss rfl (ev1 rfl) (ev1 rfl)) ?_
  refine zae ?_
  refine zaf ?_
  refine dwp_cond rfl (fun c1 => ?_) (fun c1 => ?_)
  · try simp only [decide_eq_true_eq, decide_eq_false_iff_not, beq_iff_eq, bne_iff_ne, beq_eq_false_iff_ne, bne_eq_false_iff_eq, Bool.not_eq_true', Bool.not_eq_false', Bool.and_eq_true, Bool.or_eq_true, Bool.or_eq_false_iff, ne_eq, Decidable.not_not, Int.not_lt, Int.not_le] at c1
    refine zal ?_
    refine zaf ?_
    refine zak ?_
    refine zaf ?_
    refine zac ?_
    refine zab rfl rfl rfl (zad (.inl rfl) (ev1 rfl)) ?_
    refine zab rfl rfl rfl (zad (.inr rfl) (ev1 rfl)) ?_
    refine zae ?_
    refine zaf ?_
    refine zac ?_
    refine zab rfl rfl rfl (op_ldo rfl tb3 (ev1 rfl) rfl rfl) ?_
    refine zab rfl rfl rfl (zad (.inl rfl) (ev1 rfl)) ?_
    refine zae ?_
    refine zak ?_
    refine dwp_loopS ⟨hs0, rfl⟩ (α := Nat) (fun x => [(11, .val (.int .i64 (x : Int)))]) [(0, _), (2, _), (4, _), (6, _), (7, _), (10, _)] (fun x => [(3, .mix 55 [.farr 4 (difU w ts us (w * 8).toNat y ++ difR w ts us y x).length]), (4, .fam (fmP (difU w ts us (w * 8).toNat y ++ difR w ts us y x)))]) [_, _, _, .hole, .hole, _, _] (fun x => (x : Int) ≤ w * 8) (fun x => (w * 8).toNat - x) 0 [0, 1, 2, 3, 4, 5, 6] (by omega) rfl ⟨rfl, rfl, rfl, rfl, rfl, rfl, trivial⟩ ⟨rfl, trivial⟩ ⟨rfl, rfl, rfl, by rw [difR_0, List.append_nil]; rfl, by rw [difR_0, List.append_nil]; rfl, rfl, rfl, trivial⟩ ?_
    intro x hx
    simp only [upd, zaa, za, List.cons_append, List.nil_append]
    have hx2 := hx
    have hlR := difR_len w ts us y x
    have hlL : (difU w ts us (w * 8).toNat y ++ difR w ts us y x).length ≤ 5000 := by rw [List.length_append]; omega
    refine zaf ?_
    refine zac ?_
    refine zab rfl rfl rfl (op_lss rfl (ev1 rfl) (ev1 rfl)) ?_
    refine zae ?_
    refine zaf ?_
    refine dwp_cond rfl (fun c2 => ?_) (fun c2 => ?_)
    · try simp only [decide_eq_true_eq, decide_eq_false_iff_not, beq_iff_eq, bne_iff_ne, beq_eq_false_iff_ne, bne_eq_false_iff_eq, Bool.not_eq_true', Bool.not_eq_false', Bool.and_eq_true, Bool.or_eq_true, Bool.or_eq_false_iff, ne_eq, Decidable.not_not, Int.not_lt, Int.not_le] at c2
      refine zal ?_
      refine zaf ?_
      refine zak ?_
      refine zaf ?_
      refine zac ?_
      refine zab rfl rfl rfl (zad (.inl rfl) (ev1 rfl)) ?_
      refine zab rfl rfl rfl (zad (.inr rfl) (ev1 rfl)) ?_
      refine zae ?_
      refine zaf ?_
      by_cases hne : getC w ts (x : Int) (y : Int) ≠ getC w us (x : Int) (y : Int)
      · have ho : onS w h (x : Int) (y : Int) = true := onS_iff.2 ⟨by omega, by omega⟩
        refine zac ?_
        refine zab rfl rfl rfl (zad (.inl rfl) (ev1 rfl)) ?_
        refine zab rfl rfl rfl (zad (.inl rfl) (ev1 rfl)) ?_
        refine zab rfl rfl rfl (zad (.inl rfl) (ev1 rfl)) ?_
        refine zab rfl rfl rfl (op_build (ps := [(0, .tmp 15), (1, .tmp 16)]) rfl fl26 zr26 (vc (ev1 rfl) (vc (ev1 rfl) vn)) rfl rfl) ?_
        refine zaj rfl rfl rfl (op_y (i := 0) [0, 1, 2, 3, 4] [] [] rfl (ev1 rfl) (ec (ev1 rfl) en) rfl rfl rfl (difRound_yes w h da db ts us ra rb ca cb x y ho _ hlL hne) rfl rfl rfl rfl rfl) (by simp only [upd, zaa, za]; exact rfl) ?_
        refine zab rfl rfl rfl (op_not rfl (ev1 rfl)) ?_
        refine zae ?_
        refine dwp_if_f rfl (rfl) ?_
        refine zal ?_
        refine zac ?_
        refine zab rfl rfl rfl (op_add' rfl (ev1 rfl) (ev1 rfl) (fun _ => IntWalk.i64_in _ (by omega))) ?_
        refine zab rfl rfl rfl (zad (.inl rfl) (ev1 rfl)) ?_
        refine zae ?_
        refine ⟨x + 1, [0, 1, 2, 3, 4, 5, 6], by omega, by simp only []; omega, rfl, ⟨rfl, rfl, rfl, rfl, rfl, rfl, rfl, trivial⟩, ⟨rfl, rfl, rfl, by rw [difR_yes hne, ← List.append_assoc]; rfl, by rw [difR_yes hne, ← List.append_assoc]; rfl, rfl, rfl, trivial⟩⟩
      · have ho : onS w h (x : Int) (y : Int) = true := onS_iff.2 ⟨by omega, by omega⟩
        refine zac ?_
        refine zab rfl rfl rfl (zad (.inl rfl) (ev1 rfl)) ?_
        refine zab rfl rfl rfl (zad (.inl rfl) (ev1 rfl)) ?_
        refine zab rfl rfl rfl (zad (.inl rfl) (ev1 rfl)) ?_
        refine zab rfl rfl rfl (op_build (ps := [(0, .tmp 15), (1, .tmp 16)]) rfl fl26 zr26 (vc (ev1 rfl) (vc (ev1 rfl) vn)) rfl rfl) ?_
        refine zaj rfl rfl rfl (op_y (i := 0) [0, 1, 2, 3, 4] [] [] rfl (ev1 rfl) (ec (ev1 rfl) en) rfl rfl rfl (difRound_no w h da db ts us ra rb ca cb x y ho _ hlL (by simpa using hne)) rfl rfl rfl rfl rfl) (by simp only [upd, zaa, za]; exact rfl) ?_
        refine zab rfl rfl rfl (op_not rfl (ev1 rfl)) ?_
        refine zae ?_
        refine dwp_if_f rfl (rfl) ?_
        refine zal ?_
        refine zac ?_
        refine zab rfl rfl rfl (op_add' rfl (ev1 rfl) (ev1 rfl) (fun _ => IntWalk.i64_in _ (by omega))) ?_
        refine zab rfl rfl rfl (zad (.inl rfl) (ev1 rfl)) ?_
        refine zae ?_
        refine ⟨x + 1, [0, 1, 2, 3, 4, 5, 6], by omega, by simp only []; omega, rfl, ⟨rfl, rfl, rfl, rfl, rfl, rfl, rfl, trivial⟩, ⟨rfl, rfl, rfl, by rw [difR_no (by simpa using hne)]; rfl, by rw [difR_no (by simpa using hne)]; rfl, rfl, rfl, trivial⟩⟩
    · try simp only [decide_eq_true_eq, decide_eq_false_iff_not, beq_iff_eq, bne_iff_ne, beq_eq_false_iff_ne, bne_eq_false_iff_eq, Bool.not_eq_true', Bool.not_eq_false', Bool.and_eq_true, Bool.or_eq_true, Bool.or_eq_false_iff, ne_eq, Decidable.not_not, Int.not_lt, Int.not_le] at c2
      refine dwp_exit ?_
      refine zac ?_
      refine zab rfl rfl rfl (op_add' rfl (ev1 rfl) (ev1 rfl) (fun _ => IntWalk.i64_in _ (by omega))) ?_
      refine zab rfl rfl rfl (zad (.inl rfl) (ev1 rfl)) ?_
      refine zae ?_
      obtain rfl : x = (w * 8).toNat := by omega
      refine ⟨y + 1, [0, 1, 2, 3, 4, 5, 6], by omega, by simp only []; omega, rfl, ⟨rfl, rfl, rfl, rfl, trivial⟩, ⟨rfl, rfl, rfl, by rw [difU_succ]; rfl, by rw [difU_succ]; rfl, rfl, rfl, trivial⟩⟩
  · try simp only [decide_eq_true_eq, decide_eq_false_iff_not, beq_iff_eq, bne_iff_ne, beq_eq_false_iff_ne, bne_eq_false_iff_eq, Bool.not_eq_true', Bool.not_eq_false', Bool.and_eq_true, Bool.or_eq_true, Bool.or_eq_false_iff, ne_eq, Decidable.not_not, Int.not_lt, Int.not_le] at c1
    refine dwp_exit ?_
    obtain rfl : y = (h * 8).toNat := by omega
    refine kend [0, 1, 2, 3, 4, 5, 6] (res_none rfl) rfl rfl ?_ ⟨rfl, rfl, rfl, rfl, rfl, rfl, rfl, trivial⟩
    rfl
set_option maxRecDepth 4000 in
set_option maxHeartbeats 1000000 in
theorem differ_d (w h : Int) (da db : List D) (ts us : List TL) (ra : RowOk da ts) (rb : RowOk db us) (ca : CvOk w h ts) (cb : CvOk w h us) : DFun Tryz.prog 16 [cvD w h da, cvD w h db] [] (.slf 2 (difC w h ts us).length ((difC w h ts us).flatMap p2)) [] := by
  refine zan (N := 42) 0 (by kernel_rfl) Tryz.func16 rfl rfl rfl (by simp only [fr0, Nat.zero_add, Nat.reduceAdd]; exact rfl) rfl fun s0 hs0 => ?_
  refine zaf ?_
  refine zah 2 (by simp only [holes, List.cons_append, List.nil_append]; exact rfl) ?_
  refine zac ?_
  refine zaj rfl rfl rfl (op_boxm 0 rfl (ev1 rfl) (fun s v h => by cases h <;> rfl) rfl) (by simp only [upd, zaa, za]; exact rfl) ?_
  refine zaj rfl rfl rfl (op_boxm 1 rfl (ev1 rfl) (fun s v h => by cases h <;> rfl) rfl) (by simp only [upd, zaa, za]; exact rfl) ?_
  refine zab rfl rfl rfl (zad (.inr rfl) (ev1 rfl)) ?_
  refine zae ?_
  refine zaf ?_
  refine zaf ?_
  refine dwp_draw [([0], []), ([], []), ([], []), ([1], []), ([], []), ([], []), ([], []), ([0], []), ([], []), ([], []), ([], []), ([1], []), ([], []), ([], []), ([], []), ([], []), ([], [])] mixed (by kernel_rfl) ?_
  refine zag rfl rfl (op_ldm rfl tb29 (ev1 rfl) rfl rfl) ?_
  refine zag rfl rfl (op_pnilm rfl pt29 (ev1 rfl)) ?_
  refine zag rfl rfl (zad (.inl rfl) (ev1 rfl)) ?_
  refine lex_gr (gd_f rfl rfl rfl) rfl rfl (op_ldm rfl tb29 (ev1 rfl) rfl rfl) ?_
  refine lex_gr (gd_f rfl rfl rfl) rfl rfl (op_pnilm rfl pt29 (ev2 rfl)) ?_
  refine zag rfl rfl (op_or rfl (ev1 rfl) (ev3 rfl id)) ?_
  refine zag rfl rfl (zad (.inl rfl) (ev1 rfl)) ?_
  refine lex_gr (gd_f rfl rfl rfl) rfl rfl (op_ldm rfl tb29 (ev1 rfl) rfl rfl) ?_
  refine lex_gr (gd_f rfl rfl rfl) rfl rfl (op_nc rfl (ev2 rfl) (fun s v h => by cases h; exact ⟨_, rfl⟩)) ?_
  refine lex_gr (gd_f rfl rfl rfl) rfl rfl (op_fadm rfl fo84_0 (ev2 rfl)) ?_
  refine lex_gr (gd_f rfl rfl rfl) rfl rfl (op_lddv [_, _] rfl tb81 (ev2 rfl) rfl rfl) ?_
  refine lex_gr (gd_f rfl rfl rfl) rfl rfl (op_ldm rfl tb29 (ev1 rfl) rfl rfl) ?_
  refine lex_gr (gd_f rfl rfl rfl) rfl rfl (op_nc rfl (ev2 rfl) (fun s v h => by cases h; exact ⟨_, rfl⟩)) ?_
  refine lex_gr (gd_f rfl rfl rfl) rfl rfl (op_fadm rfl fo84_0 (ev2 rfl)) ?_
  refine lex_gr (gd_f rfl rfl rfl) rfl rfl (op_lddv [_, _] rfl tb81 (ev2 rfl) rfl rfl) ?_
  refine lex_gr (gd_f rfl rfl rfl) rfl rfl (op_ner eq81 rfl gd81 tb81 (ev2 rfl) (ev2 rfl)) ?_
  refine zag rfl rfl (op_or rfl (ev1 rfl) (ev3 rfl id)) ?_
  refine lex_nil ?_
  refine dwp_if_f rfl (by simp) ?_
  refine zal ?_
  refine zaf ?_
  refine zah 1 (by simp only [holes, List.cons_append, List.nil_append]; exact rfl) ?_
  refine zac ?_
  refine zaj rfl rfl rfl (op_alloc 2 rfl zr55 rfl) (by simp only [upd, zaa, za]; exact rfl) ?_
  refine zae ?_
  refine zaf ?_
  refine zaf ?_
  refine zah 2 (by simp only [holes, List.cons_append, List.nil_append]; exact rfl) ?_
  refine zac ?_
  refine zab rfl rfl rfl (op_ldm rfl tb29 (ev1 rfl) rfl rfl) ?_
  refine zab rfl rfl rfl (op_nc rfl (ev1 rfl) (fun s v h => by cases h; exact ⟨_, rfl⟩)) ?_
  refine zab rfl rfl rfl (op_fadm rfl fo84_0 (ev1 rfl)) ?_
  refine zab rfl rfl rfl (op_lddv [_, _] rfl tb81 (ev1 rfl) rfl rfl) ?_
  refine zaj rfl rfl rfl (zai [] [] [3, 4] rfl (ev1 rfl) (ec (ev1 rfl) en) rfl rfl (points_d w h ca.may) rfl rfl rfl rfl rfl rfl) (by simp only [upd, zaa, za]; exact rfl) ?_
  refine zae ?_
  refine zak ?_
  refine dwp_adoptm 2 26 2 rfl (by simp only [List.cons_append, List.nil_append, zaa, za, List.length_cons, List.length_nil, Nat.zero_add, Nat.reduceAdd]; exact rfl) ?_
  refine dwp_hole ?_
  refine dwp_fam 6 rfl (by simp only [List.cons_append, List.nil_append, zaa, za]; exact rfl) ?_
  refine dwp_absc 2 0 6 rfl rfl rfl rfl (by simp only [List.cons_append, List.nil_append, zaa, za]; exact rfl) ?_
  refine dwp_hole ?_
  simp only [List.cons_append, List.nil_append]
  refine dwp_rf (FL := [(2, _), (3, _), (5, _)]) (st := .ready) (pe := none) [7, 0, 1, 2, 6, 3, 4] [] [] 7 rfl rfl (ev1 rfl) rfl (subF_lk ⟨rfl, rfl, rfl, trivial⟩) rfl rfl rfl (pts_dif w h da db ts us ra rb ca cb) rfl rfl rfl rfl rfl rfl rfl (by simp) (fun e => ?_) (fun c e => ?_)
  · simp only [upd, zaa, za]
    refine zaf ?_
    refine zac ?_
    refine zab rfl rfl rfl (op_ldm rfl tb55 (ev1 rfl) rfl rfl) ?_
    refine zab rfl rfl rfl (zad (.inr rfl) (ev1 rfl)) ?_
    refine zae ?_
    refine dwp_hole ?_
    refine dwp_rel 4 6 (j := 8) rfl rfl (fmP_at _) rfl (by simp only [List.cons_append, List.nil_append, zaa, za]; exact rfl) ?_
    refine dwp_giveA 4 rfl rfl (by simp only [List.cons_append, List.nil_append, zaa, za]; exact rfl) ?_
    refine dwp_ret ?_
    refine kend0 (rs1 rfl (rv_t rfl)) rfl ?_
    rfl
  · cases e
end Go.Proofs.YtfnhckildfbikaaGreat
namespace Go.Proofs.YtfnhckildfbikaaGreat
set_option maxRecDepth 4000
set_option linter.unusedVariables false
set_option linter.unusedSimpArgs false
open Go.RowKit
theorem getC_put {w h : Int} {us : List TL} {d : Dt} (hc : CvOk w h us) (ho : onS w h d.x d.y = true) : getC w (putC w h us d) d.x d.y = d.c := by
  have hp := hc.pl ho
  have hq := (on_pl hc.may ho).2.2.2
  unfold getC putC
  rw [if_pos ho, tl_at (by simpa using hp), List.getElem_set_self]
  unfold TL.get TL.set
  rw [List.getD_eq_getElem?_getD, List.getElem?_set_self (by rw [TL.h]; exact hq)]
  rfl
def lastF (x y : Int) (l : List Dt) : C4 × Bool := l.foldl (fun s d => if d.x = x ∧ d.y = y then (d.c, true) else s) (zC4, false)
theorem lastF_add {x y : Int} {l : List Dt} {k : Nat} (h : k < l.length) : lastF x y (l.take (k + 1)) = if l[k].x = x ∧ l[k].y = y then (l[k].c, true) else lastF x y (l.take k) := by
  rw [List.take_succ_eq_append_getElem h, lastF, List.foldl_append]; rfl
theorem pl_inj {w h x y x2 y2 : Int} (hm : mayS w h = true) (ho : onS w h x y = true) (ho2 : onS w h x2 y2 = true) (h1 : plN w x y = plN w x2 y2) : x / 8 = x2 / 8 ∧ y / 8 = y2 / 8 := by
  have hb := mayS_b hm
  have e1 := (on_pl hm ho).1
  have e2 := (on_pl hm ho2).1
  have g1 := onS_iff.1 ho
  have g2 := onS_iff.1 ho2
  rw [h1] at e1
  have hw : w = 1 ∨ w = 2 ∨ w = 3 ∨ w = 4 := by omega
  rcases hw with rfl | rfl | rfl | rfl <;> omega
theorem px_inj {w h x y x2 y2 : Int} (hm : mayS w h = true) (ho : onS w h x y = true) (ho2 : onS w h x2 y2 = true) (h1 : plN w x y = plN w x2 y2) (h2 : pxN x y = pxN x2 y2) : x = x2 ∧ y = y2 := by
  have e1 := (on_pl hm ho).2.2.1
  have e2 := (on_pl hm ho2).2.2.1
  have e3 := pl_inj hm ho ho2 h1
  rw [h2] at e1
  omega
theorem getC_putne {w h x y : Int} {us : List TL} {d : Dt} (hc : CvOk w h us) (ho : onS w h x y = true) (hne : ¬ (d.x = x ∧ d.y = y)) : getC w (putC w h us d) x y = getC w us x y := by
  unfold putC
  split
  · rename_i hd
    unfold getC
    by_cases e : plN w d.x d.y = plN w x y
    · have e2 : pxN d.x d.y ≠ pxN x y := fun e2 => hne (px_inj hc.may hd ho e e2)
      have hp := hc.pl ho
      rw [e, tl_at (by simpa using hp), List.getElem_set_self]
      unfold TL.get TL.set
      rw [List.getD_eq_getElem?_getD, List.getElem?_set_ne e2, ← List.getD_eq_getElem?_getD]
    · rw [List.getD_eq_getElem?_getD, List.getElem?_set_ne e, ← List.getD_eq_getElem?_getD]
  · rfl
theorem getC_puts {w h x y : Int} {us : List TL} (hc : CvOk w h us) (ho : onS w h x y = true) (l : List Dt) : getC w (putsC w h us l) x y = if (lastF x y l).2 = true then (lastF x y l).1 else getC w us x y := by
  have key : ∀ k, k ≤ l.length → getC w (putsC w h us (l.take k)) x y = if (lastF x y (l.take k)).2 = true then (lastF x y (l.take k)).1 else getC w us x y := fun k => by
    induction k with
    | zero => intro _; rfl
    | succ k ih =>
      intro hk
      rw [putsC_take (by omega), lastF_add (by omega)]
      by_cases hd : l[k].x = x ∧ l[k].y = y
      · rw [if_pos hd]
        obtain ⟨rfl, rfl⟩ := hd
        rw [getC_put (hc.puts _) ho]
        rfl
      · rw [if_neg hd, getC_putne (hc.puts _) ho hd, ih (by omega)]
  have := key l.length (Nat.le_refl _)
  rwa [List.take_length] at this
theorem dif_mem {w h : Int} {ts us : List TL} {p : P2} (hp : p ∈ difC w h ts us) : onS w h p.x p.y = true ∧ getC w ts p.x p.y ≠ getC w us p.x p.y := by
  unfold difC difU at hp
  obtain ⟨y, hy, hp⟩ := List.mem_flatMap.1 hp
  unfold difR at hp
  obtain ⟨x, hx, rfl⟩ := List.mem_map.1 hp
  obtain ⟨hx, hne⟩ := List.mem_filter.1 hx
  have h1 := List.mem_range.1 hy
  have h2 := List.mem_range.1 hx
  exact ⟨onS_iff.2 (by dsimp only; omega), by simpa using hne⟩
theorem lastG_no {x y : Int} : ∀ {l : List Dt} (s : C4 × Bool), (∀ d ∈ l, ¬ (d.x = x ∧ d.y = y)) → l.foldl (fun s d => if d.x = x ∧ d.y = y then (d.c, true) else s) s = s
  | [], _, _ => rfl
  | d :: l, s, h => by rw [List.foldl_cons, if_neg (h d (by simp))]; exact lastG_no s fun e he => h e (List.mem_cons_of_mem _ he)
theorem lastG_yes {x y : Int} {c : C4} : ∀ {l : List Dt} (s : C4 × Bool), (∃ d ∈ l, d.x = x ∧ d.y = y) → (∀ d ∈ l, d.x = x ∧ d.y = y → d.c = c) → l.foldl (fun s d => if d.x = x ∧ d.y = y then (d.c, true) else s) s = (c, true)
  | [], _, h, _ => by obtain ⟨d, hd, _⟩ := h; cases hd
  | d :: l, s, h, hc => by
    rw [List.foldl_cons]
    by_cases hl : ∃ d ∈ l, d.x = x ∧ d.y = y
    · exact lastG_yes _ hl fun e he => hc e (List.mem_cons_of_mem _ he)
    · rw [lastG_no _ fun e he k => hl ⟨e, he, k⟩]
      obtain ⟨e, he, k⟩ := h
      rcases List.mem_cons.1 he with rfl | he
      · rw [if_pos k, hc e (by simp) k]
      · exact absurd ⟨e, he, k⟩ hl
theorem lastF_no {x y : Int} {l : List Dt} (h : ∀ d ∈ l, ¬ (d.x = x ∧ d.y = y)) : lastF x y l = (zC4, false) := lastG_no _ h
theorem lastF_yes {x y : Int} {c : C4} {l : List Dt} (he : ∃ d ∈ l, d.x = x ∧ d.y = y) (hc : ∀ d ∈ l, d.x = x ∧ d.y = y → d.c = c) : lastF x y l = (c, true) := lastG_yes _ he hc
theorem cv_ext {w h : Int} {ts us : List TL} (hc : CvOk w h ts) (hd : CvOk w h us) (he : ∀ x y, onS w h x y = true → getC w ts x y = getC w us x y) : ts = us := by
  have hb := mayS_b hc.may
  have : sameF w h ts us = true := by
    unfold sameF allEq
    refine List.all_eq_true.2 fun y hy => ?_
    unfold rowEq
    refine List.all_eq_true.2 fun x hx => ?_
    have h1 := List.mem_range.1 hy
    have h2 := List.mem_range.1 hx
    exact decide_eq_true (he _ _ (onS_iff.2 ⟨by omega, by omega⟩))
  rw [sameF_iff hc hd] at this
  simpa using this
end Go.Proofs.YtfnhckildfbikaaGreat
namespace Go.Proofs.YtfnhckildfbikaaGreat
set_option maxRecDepth 4000
set_option linter.unusedVariables false
set_option linter.unusedSimpArgs false
open Go.RowKit
attribute [local irreducible] zFD srL goF bfsF
attribute [local irreducible] spF spN
set_option maxRecDepth 4000 in
set_option maxHeartbeats 1000000 in
theorem fill_n (w h : Int) (ds : List D) (ts : List TL) (hr : RowOk ds ts) (hc : CvOk w h ts) (hg : tsRng ts) (p : P2) (tol : Int) (c : C4) (h0 : (refE w h [tol] [p]) ≠ 0) : DFun Tryz.prog 15 [cvD w h ds, .val (.agg #[.int .i64 p.x, .int .i64 p.y]), .val (.int .i64 tol), .val (.agg (c4 c).toArray)] [] (.tup [.val (.pointer none), .val (.int .i64 (refE w h [tol] [p]))]) [] := by
  refine zan (N := 31) 0 (by kernel_rfl) Tryz.func15 rfl rfl rfl (by simp only [fr0, Nat.zero_add, Nat.reduceAdd]; exact rfl) rfl fun s0 hs0 => ?_
  refine zaf ?_
  refine zah 2 (by simp only [holes, List.cons_append, List.nil_append]; exact rfl) ?_
  refine zac ?_
  refine zaj rfl rfl rfl (op_boxa 0 rfl (ev1 rfl) rfl) (by simp only [upd, zaa, za]; exact rfl) ?_
  refine zaj rfl rfl rfl (op_boxa 1 rfl (ev1 rfl) rfl) (by simp only [upd, zaa, za]; exact rfl) ?_
  refine zab rfl rfl rfl (zad (.inr rfl) (ev1 rfl)) ?_
  refine zab rfl rfl rfl (zad (.inr rfl) (ev1 rfl)) ?_
  refine zae ?_
  refine zaf ?_
  refine zaf ?_
  refine zac ?_
  refine zab rfl rfl rfl (zad (.inl rfl) (ev1 rfl)) ?_
  refine zab rfl rfl rfl (zad (.inl rfl) (ev1 rfl)) ?_
  refine zab rfl rfl rfl (op_bs (ps := [(0, .tmp 13)]) rfl sl61 zr3 rfl (vc (ev1 rfl) vn) rfl (by decide) (by decide)) ?_
  refine zab rfl rfl rfl (op_ldw rfl tb26 (ev1 rfl) rfl rfl) ?_
  refine zab rfl rfl rfl (op_bs (ps := [(0, .tmp 15)]) rfl sl55 zr26 rfl (vc (ev1 rfl) vn) rfl (by decide) (by decide)) ?_
  refine zab rfl rfl rfl (zai [] [] [] rfl (ev1 rfl) (ec (ev1 rfl) (ec (ev1 rfl) (ec (ev1 rfl) en))) rfl rfl (refuse_d w h ds ts hr hc [tol] [p]) rfl rfl rfl rfl rfl rfl) ?_
  refine zab rfl rfl rfl (zad (.inr rfl) (ev1 rfl)) ?_
  refine zae ?_
  refine zaf ?_
  refine zac ?_
  refine zab rfl rfl rfl (zad (.inl rfl) (ev1 rfl)) ?_
  refine zab rfl rfl rfl (op_neq rfl (ev1 rfl) (ev1 rfl)) ?_
  refine zae ?_
  refine dwp_if_t rfl (by simpa using h0) ?_
  refine zaf ?_
  refine zac ?_
  refine zab rfl rfl rfl (zad (.inl rfl) (ev1 rfl)) ?_
  refine zab rfl rfl rfl (zad (.inr rfl) (ev1 rfl)) ?_
  refine zab rfl rfl rfl (zad (.inr rfl) (ev1 rfl)) ?_
  refine zae ?_
  refine dwp_ret ?_
  refine kend0 (rs2 rfl (rv_t rfl) (rv_t rfl)) rfl ?_
  rfl
end Go.Proofs.YtfnhckildfbikaaGreat
namespace Go.Proofs.YtfnhckildfbikaaGreat
set_option maxRecDepth 4000
set_option linter.unusedVariables false
set_option linter.unusedSimpArgs false
open Go.RowKit
open Go.ChangeShapes Go.WideShapes Go.ChangeAt Go.Joins Go.Deep
theorem fits_q3 (cs : List Value) (h : fitsP [.int .i64, .int .i64, .int .i64] cs) : ∃ a : Int × Int × Int, ((-9223372036854775808 ≤ a.1 ∧ a.1 ≤ 9223372036854775807) ∧ (-9223372036854775808 ≤ a.2.1 ∧ a.2.1 ≤ 9223372036854775807) ∧ -9223372036854775808 ≤ a.2.2 ∧ a.2.2 ≤ 9223372036854775807) ∧ cs = q3 a := by
  obtain ⟨x0, r, rfl, h0, g1⟩ := fitsP_cons h
  obtain ⟨x1, r, rfl, h1, g2⟩ := fitsP_cons g1
  obtain ⟨x2, r, rfl, h2, g3⟩ := fitsP_cons g2
  obtain rfl := fitsP_nil g3
  obtain ⟨x, wx, rfl⟩ := fits_prim_i64 h0
  obtain ⟨y, wy, rfl⟩ := fits_prim_i64 h1
  obtain ⟨z, wz, rfl⟩ := fits_prim_i64 h2
  exact ⟨(x, y, z), ⟨wx, wy, wz⟩, rfl⟩
end Go.Proofs.YtfnhckildfbikaaGreat
namespace Go.Proofs.YtfnhckildfbikaaGreat
set_option maxRecDepth 4000
set_option linter.unusedVariables false
set_option linter.unusedSimpArgs false
open Go.RowKit
attribute [local irreducible] zFD
def plA (w : Int) (i k : Nat) : P2 := ⟨(i : Int) % w * 8 + (k : Int) % 8, (i : Int) / w * 8 + (k : Int) / 8⟩
def flT (w : Int) (f : FD) (c : C4) (i : Nat) (t : TL) (k : Nat) : TL := (List.range k).foldl (fun t q => if f.has (plA w i q) = true then t.set q c else t) t
theorem flT_zero (w : Int) (f : FD) (c : C4) (i : Nat) (t : TL) : flT w f c i t 0 = t := rfl
theorem flT_add (w : Int) (f : FD) (c : C4) (i : Nat) (t : TL) (k : Nat) : flT w f c i t (k + 1) = if f.has (plA w i k) = true then (flT w f c i t k).set k c else flT w f c i t k := by
  unfold flT
  rw [List.range_succ, List.foldl_append]
  rfl
theorem tl_get_set {t : TL} {k q : Nat} {c : C4} (hk : k < 64) : (t.set k c).get q = if q = k then c else t.get q := by
  unfold TL.get TL.set
  rw [List.getD_eq_getElem?_getD, List.getD_eq_getElem?_getD]
  by_cases e : q = k
  · subst e
    rw [if_pos rfl, List.getElem?_set_self (by rw [TL.h]; exact hk)]; rfl
  · rw [if_neg e, List.getElem?_set_ne fun h => e h.symm]
theorem flT_get (w : Int) (f : FD) (c : C4) (i : Nat) (t : TL) (q : Nat) : ∀ k, k ≤ 64 → (flT w f c i t k).get q = if q < k ∧ f.has (plA w i q) = true then c else t.get q
  | 0, _ => by rw [flT_zero, if_neg (by omega)]
  | k + 1, hk => by
    have ih := flT_get w f c i t q k (by omega)
    rw [flT_add]
    by_cases e : q = k
    · subst e
      split
      · rename_i h
        rw [tl_get_set (by omega), if_pos rfl, if_pos ⟨by omega, h⟩]
      · rename_i h
        rw [ih, if_neg (by omega), if_neg fun g => h g.2]
    · have hlt : (q < k + 1 ∧ f.has (plA w i q) = true) ↔ (q < k ∧ f.has (plA w i q) = true) := ⟨fun g => ⟨by omega, g.2⟩, fun g => ⟨by omega, g.2⟩⟩
      split
      · rw [tl_get_set (by omega), if_neg e, ih]
        simp only [hlt]
      · rw [ih]
        simp only [hlt]
def flC (w : Int) (f : FD) (c : C4) (ts : List TL) : List TL := (List.range ts.length).map fun i => flT w f c i (ts.getD i zT) 64
theorem flC_len (w : Int) (f : FD) (c : C4) (ts : List TL) : (flC w f c ts).length = ts.length := by simp [flC]
theorem flC_ok {w h : Int} {f : FD} {c : C4} {ts : List TL} (hc : CvOk w h ts) : CvOk w h (flC w f c ts) := ⟨hc.may, by rw [flC_len]; exact hc.len⟩
theorem plA_back {w h x y : Int} (hm : mayS w h = true) (ho : onS w h x y = true) : plA w (plN w x y) (pxN x y) = ⟨x, y⟩ := by
  have hb := mayS_b hm
  obtain ⟨h1, h2, h3, h4⟩ := on_pl hm ho
  have g1 := pl_back (w := w) (p := plN w x y) (q := pxN x y) (by omega) h4
  have g2 := on_back (h := h) (p := plN w x y) (q := pxN x y) hm h2 h4
  have g3 := px_inj hm g2 ho g1.1 g1.2
  unfold plA
  rw [g3.1, g3.2]
theorem flC_get {w h x y : Int} {f : FD} {c : C4} {ts : List TL} (hc : CvOk w h ts) (ho : onS w h x y = true) : getC w (flC w f c ts) x y = if f.has ⟨x, y⟩ = true then c else getC w ts x y := by
  have hp := hc.pl ho
  obtain ⟨h1, h2, h3, h4⟩ := on_pl hc.may ho
  unfold getC
  have e : (flC w f c ts).getD (plN w x y) zT = flT w f c (plN w x y) (ts.getD (plN w x y) zT) 64 := by
    rw [tl_at (by rw [flC_len]; exact hp)]
    unfold flC
    rw [List.getElem_map, List.getElem_range]
  rw [e, flT_get _ _ _ _ _ _ 64 (Nat.le_refl _), plA_back hc.may ho]
  by_cases hf : f.has ⟨x, y⟩ = true
  · rw [if_pos ⟨h4, hf⟩, if_pos hf]
  · rw [if_neg fun g => hf g.2, if_neg hf]
theorem rgP_mem {w h : Int} (hm : mayS w h = true) {f : FD} {p : P2} : p ∈ rgP w h f ↔ onP w h p = true ∧ f.has p = true := by
  have hb := mayS_b hm
  unfold rgP onP
  rw [gtP_mem (by omega), onS_iff]
  constructor
  · rintro ⟨h1, h2⟩; exact ⟨by omega, h2⟩
  · rintro ⟨h1, h2⟩; exact ⟨by omega, h2⟩
theorem fill_eq {w h : Int} {f : FD} {c : C4} {ts : List TL} (hc : CvOk w h ts) : putsC w h ts (dtsC c (rgP w h f)) = flC w f c ts := by
  refine cv_ext (hc.puts _) (flC_ok hc) fun x y ho => ?_
  rw [getC_puts hc ho, flC_get hc ho]
  by_cases hf : f.has ⟨x, y⟩ = true
  · have hall : ∀ d ∈ dtsC c (rgP w h f), d.c = c := fun d hd => by
      have hd : d ∈ (rgP w h f).map fun p => (⟨p.x, p.y, c⟩ : Dt) := hd
      obtain ⟨p, _, rfl⟩ := List.mem_map.1 hd
      rfl
    have hex : ∃ d ∈ dtsC c (rgP w h f), d.x = x ∧ d.y = y := ⟨⟨x, y, c⟩, List.mem_map.2 ⟨⟨x, y⟩, (rgP_mem hc.may).2 ⟨ho, hf⟩, rfl⟩, rfl, rfl⟩
    rw [if_pos hf, lastF_yes (c := c) hex fun d hd _ => hall d hd]
    exact if_pos rfl
  · rw [if_neg hf, lastF_no fun d hd g => ?_]
    · exact if_neg (by decide)
    · obtain ⟨p, hp, rfl⟩ := List.mem_map.1 hd
      have := ((rgP_mem hc.may).1 hp).2
      obtain ⟨px, py⟩ := p
      simp only at g
      rw [g.1, g.2] at this
      exact hf this
theorem fil_get {w h x y : Int} {f : FD} {c : C4} {ts : List TL} (hc : CvOk w h ts) (ho : onS w h x y = true) : getC w (putsC w h ts (dtsC c (rgP w h f))) x y = if f.has ⟨x, y⟩ = true then c else getC w ts x y := by
  rw [fill_eq hc]
  exact flC_get hc ho
theorem rests_sub {w h : Int} {ts : List TL} (hc : CvOk w h ts) {tol : Int} (ht : 0 ≤ tol) {p : P2} (hp : onP w h p = true) (c : C4) (q : P2) (hq : hasL (rgS w h (rgF w h ts tol p)) q = true) : hasL (rgS w h (rgF w h (putsC w h ts (dtsC c (rgP w h (rgF w h ts tol p)))) tol p)) q = true := by
  have hm := hc.may
  rw [rgS_has hm, Bool.and_eq_true] at hq ⊢
  refine ⟨hq.1, ?_⟩
  have f1 := rgF_fin (ts := ts) (tol := tol) hm hp
  have f2 := rgF_fin (ts := putsC w h ts (dtsC c (rgP w h (rgF w h ts tol p)))) (tol := tol) hm hp
  have hcol : ∀ n, onP w h n = true → (rgF w h ts tol p).has n = true → getC w (putsC w h ts (dtsC c (rgP w h (rgF w h ts tol p)))) n.x n.y = c := fun n hn hh => by
    rw [fil_get hc hn, if_pos hh]
  have hhp : (rgF w h ts tol p).has p = true := has_pos.2 (by rw [f1.one]; omega)
  have key : ∀ (k : Nat) (n : P2), Pth (onP w h) (nearP w ts tol (getC w ts p.x p.y)) p k n → Pth (onP w h) (nearP w (putsC w h ts (dtsC c (rgP w h (rgF w h ts tol p)))) tol (getC w (putsC w h ts (dtsC c (rgP w h (rgF w h ts tol p)))) p.x p.y)) p k n := by
    intro k n hw
    induction hw with
    | z => exact .z
    | @s k m n hm1 ho ha hn ih =>
      refine .s ih ho ha ?_
      have hh := has_pos.2 (f1.le hp (.s hm1 ho ha hn)).1
      unfold nearP
      rw [hcol p hp hhp, hcol n ho hh]
      exact near_self ht c
  exact has_pos.2 (f2.le hp (key _ _ (fin_way f1 hq.1 (has_pos.1 hq.2)))).1
theorem rests_beside {w h : Int} (hm : mayS w h = true) {ts : List TL} {tol : Int} {p q n : P2} (hp : onP w h p = true) (hq : onP w h q = true) (hh : (rgF w h ts tol p).has q = true) (hn : onP w h n = true) (ha : n ∈ adjL q) (hno : (rgF w h ts tol p).has n = false) : nearC tol (getC w ts p.x p.y) (getC w ts n.x n.y) = false := by
  cases hc : nearC tol (getC w ts p.x p.y) (getC w ts n.x n.y) with
  | false => rfl
  | true =>
    have := ((rgF_fin (ts := ts) (tol := tol) hm hp).dn q hq (has_pos.1 hh) n hn ha hc).1
    rw [has_pos.2 this] at hno
    exact absurd hno (by decide)
theorem rests_dif {w h : Int} {ts : List TL} (hc : CvOk w h ts) {f : FD} {c : C4} {q : P2} (hq : q ∈ difC w h ts (putsC w h ts (dtsC c (rgP w h f)))) : hasL (rgS w h f) q = true := by
  obtain ⟨h1, h2⟩ := dif_mem hq
  rw [rgS_has hc.may]
  have ho : onP w h q = true := h1
  rw [ho, Bool.true_and]
  cases hh : f.has q with
  | true => rfl
  | false =>
    refine absurd ?_ h2
    rw [fil_get hc h1, if_neg (by rw [hh]; decide)]
theorem dif_few {w h : Int} (hm : mayS w h = true) (ts us : List TL) : (difC w h ts us).length ≤ 1024 := by
  have hb := mayS_b hm
  have h1 := difU_len w ts us (w * 8).toNat (h * 8).toNat
  have h2 : (h * 8).toNat * (w * 8).toNat ≤ 32 * 32 := Nat.mul_le_mul (by omega) (by omega)
  unfold difC
  omega
end Go.Proofs.YtfnhckildfbikaaGreat
namespace Go.Proofs.YtfnhckildfbikaaGreat
set_option maxRecDepth 4000
set_option linter.unusedVariables false
set_option linter.unusedSimpArgs false
open Go.RowKit
attribute [local irreducible] crT crU pcV rgF rgS rgP gtP zFD refE putsC
noncomputable def rsrA : Code := rfA (pth [1, 1, 1, 1, 1, 1, 1, 1, 1, 1, 1, 1, 1, 0, 1, 0] (bodyOf Tryz.f4))
noncomputable def rsrB : Code := rfB (pth [1, 1, 1, 1, 1, 1, 1, 1, 1, 1, 1, 1, 1, 0, 1, 0] (bodyOf Tryz.f4))
set_option maxRecDepth 4000 in
set_option maxHeartbeats 1000000 in
theorem rsRound (w h : Int) (ts : List TL) (hc : CvOk w h ts) (hg : tsRng ts) (c : C4) (hcr : c.rng) (p : P2) (hp : onP w h p = true) (tol : Int) (ht : 0 ≤ tol) (q : P2) (hq : onP w h q = true) (hh : (rgF w h ts tol p).has q = true) : DRound Tryz.prog 0 [.val (.agg #[.int .i64 q.x, .int .i64 q.y])] [.lp 190 [(5, .loc 1 0), (6, .loc 2 0), (7, .loc 3 0), (11, .loc 4 0), (12, .loc 5 0), (14, .loc 6 0), (20, .loc 7 0)] #[126] rsrA rsrB .ready none, .flat 44 (c4 c), .flat 4 [.bool false], .mix 29 [cvD w h (dpR ts)], .flat 3 [.int .i64 tol], .mix 32 [.slf 3 (rgS w h (rgF w h ts tol p)).length ((rgS w h (rgF w h ts tol p)).flatMap s3)], .mix 29 [cvD w h (dpR (putsC w h ts (dtsC c (rgP w h (rgF w h ts tol p)))))], .flat 44 (c4 (getC w ts p.x p.y))] true [.lp 190 [(5, .loc 1 0), (6, .loc 2 0), (7, .loc 3 0), (11, .loc 4 0), (12, .loc 5 0), (14, .loc 6 0), (20, .loc 7 0)] #[126] rsrA rsrB .ready none, .flat 44 (c4 c), .flat 4 [.bool false], .mix 29 [cvD w h (dpR ts)], .flat 3 [.int .i64 tol], .mix 32 [.slf 3 (rgS w h (rgF w h ts tol p)).length ((rgS w h (rgF w h ts tol p)).flatMap s3)], .mix 29 [cvD w h (dpR (putsC w h ts (dtsC c (rgP w h (rgF w h ts tol p)))))], .flat 44 (c4 (getC w ts p.x p.y))] := by
  have hqs : onS w h q.x q.y = true := hq
  have hqi := onP_in hc.may q hq
  have hqi2 := hqi
  unfold inF32 at hqi2
  have hal := adj_len q
  have hgc := fil_get (f := (rgF w h ts tol p)) (c := c) hc hqs
  refine dround_go 8 rfl rfl (by simp) rfl rfl fun s0 hs0 => ?_
  refine zah 1 (by simp only [holes, List.cons_append, List.nil_append]; exact rfl) ?_
  refine zac ?_
  refine zaj rfl rfl rfl (op_alloc 8 rfl zr26 rfl) (by simp only [upd, zaa, za]; exact rfl) ?_
  refine walk_s rfl rfl (op_stwa rfl tb26 (ev1 rfl) (ev1 rfl) rfl rfl rfl rfl) (by simp only [upd, zaa, za]; exact rfl) ?_
  refine zae ?_
  refine ⟨rfl, ?_⟩
  simp only [zaa, za]
  refine zak ?_
  refine zaf ?_
  refine zaf ?_
  refine zah 1 (by simp only [holes, List.cons_append, List.nil_append]; exact rfl) ?_
  refine zac ?_
  refine zab rfl rfl rfl (op_ldm rfl tb29 (ev1 rfl) rfl rfl) ?_
  refine zab rfl rfl rfl (op_fa rfl fo26_0 (ev1 rfl)) ?_
  refine zab rfl rfl rfl (op_ldo rfl tb3 (ev1 rfl) rfl rfl) ?_
  refine zab rfl rfl rfl (op_fa rfl fo26_1 (ev1 rfl)) ?_
  refine zab rfl rfl rfl (op_ldo rfl tb3 (ev1 rfl) rfl rfl) ?_
  refine zab rfl rfl rfl (zai [] [] [] rfl (ev1 rfl) (ec (ev1 rfl) (ec (ev1 rfl) (ec (ev1 rfl) en))) rfl rfl (at_d w h _ (putsC w h ts (dtsC c (rgP w h (rgF w h ts tol p)))) (dpR_ok _) (hc.puts _) q.x q.y) rfl rfl rfl rfl rfl rfl) ?_
  refine zab rfl rfl rfl (zad (.inl rfl) (ev1 rfl)) ?_
  refine zab rfl rfl rfl ((op_ext rfl (ev1 rfl) rfl).cast (d' := .val (.agg (c4 c).toArray)) (by rw [if_pos hqs, hgc, if_pos hh])) ?_
  refine zab rfl rfl rfl (op_ext rfl (ev1 rfl) rfl) ?_
  refine zaj rfl rfl rfl (op_alloc 9 rfl zr44 rfl) (by simp only [upd, zaa, za]; exact rfl) ?_
  refine walk_s rfl rfl (op_stwa rfl tb44 (ev1 rfl) (ev1 rfl) rfl rfl rfl rfl) (by simp only [upd, zaa, za]; exact rfl) ?_
  refine zab rfl rfl rfl (zad (.inr rfl) (ev1 rfl)) ?_
  refine zae ?_
  refine zaf ?_
  refine zac ?_
  refine zab rfl rfl rfl (op_ldw rfl tb44 (ev1 rfl) rfl rfl) ?_
  refine zab rfl rfl rfl (op_ldw rfl tb44 (ev1 rfl) rfl rfl) ?_
  refine zab rfl rfl rfl ((op_ner eq44 rfl gd44 tb44 (ev1 rfl) (ev1 rfl)).cast (d' := .val (.bool false)) (by simp)) ?_
  refine zae ?_
  refine dwp_if_f rfl (rfl) ?_
  refine zal ?_
  refine zaf ?_
  refine zac ?_
  refine zab rfl rfl rfl (op_fa rfl fo26_0 (ev1 rfl)) ?_
  refine zab rfl rfl rfl (op_ldo rfl tb3 (ev1 rfl) rfl rfl) ?_
  refine zab rfl rfl rfl (op_sub' rfl (ev1 rfl) (ev1 rfl) (fun _ => IntWalk.i64_in _ (by omega))) ?_
  refine zab rfl rfl rfl (op_fa rfl fo26_1 (ev1 rfl)) ?_
  refine zab rfl rfl rfl (op_ldo rfl tb3 (ev1 rfl) rfl rfl) ?_
  refine zab rfl rfl rfl (op_build (ps := [(0, .tmp 141), (1, .tmp 143)]) rfl fl26 zr26 (vc (ev1 rfl) (vc (ev1 rfl) vn)) rfl rfl) ?_
  refine zab rfl rfl rfl (op_fa rfl fo26_0 (ev1 rfl)) ?_
  refine zab rfl rfl rfl (op_ldo rfl tb3 (ev1 rfl) rfl rfl) ?_
  refine zab rfl rfl rfl (op_add' rfl (ev1 rfl) (ev1 rfl) (fun _ => IntWalk.i64_in _ (by omega))) ?_
  refine zab rfl rfl rfl (op_fa rfl fo26_1 (ev1 rfl)) ?_
  refine zab rfl rfl rfl (op_ldo rfl tb3 (ev1 rfl) rfl rfl) ?_
  refine zab rfl rfl rfl (op_build (ps := [(0, .tmp 147), (1, .tmp 149)]) rfl fl26 zr26 (vc (ev1 rfl) (vc (ev1 rfl) vn)) rfl rfl) ?_
  refine zab rfl rfl rfl (op_fa rfl fo26_0 (ev1 rfl)) ?_
  refine zab rfl rfl rfl (op_ldo rfl tb3 (ev1 rfl) rfl rfl) ?_
  refine zab rfl rfl rfl (op_fa rfl fo26_1 (ev1 rfl)) ?_
  refine zab rfl rfl rfl (op_ldo rfl tb3 (ev1 rfl) rfl rfl) ?_
  refine zab rfl rfl rfl (op_sub' rfl (ev1 rfl) (ev1 rfl) (fun _ => IntWalk.i64_in _ (by omega))) ?_
  refine zab rfl rfl rfl (op_build (ps := [(0, .tmp 152), (1, .tmp 155)]) rfl fl26 zr26 (vc (ev1 rfl) (vc (ev1 rfl) vn)) rfl rfl) ?_
  refine zab rfl rfl rfl (op_fa rfl fo26_0 (ev1 rfl)) ?_
  refine zab rfl rfl rfl (op_ldo rfl tb3 (ev1 rfl) rfl rfl) ?_
  refine zab rfl rfl rfl (op_fa rfl fo26_1 (ev1 rfl)) ?_
  refine zab rfl rfl rfl (op_ldo rfl tb3 (ev1 rfl) rfl rfl) ?_
  refine zab rfl rfl rfl (op_add' rfl (ev1 rfl) (ev1 rfl) (fun _ => IntWalk.i64_in _ (by omega))) ?_
  refine zab rfl rfl rfl (op_build (ps := [(0, .tmp 158), (1, .tmp 161)]) rfl fl26 zr26 (vc (ev1 rfl) (vc (ev1 rfl) vn)) rfl rfl) ?_
  refine zab rfl rfl rfl ((op_bldaD (ps := [(0, .tmp 144), (1, .tmp 150), (2, .tmp 156), (3, .tmp 162)]) rfl ar57 zr57 (ec (ev1 rfl) (ec (ev1 rfl) (ec (ev1 rfl) (ec (ev1 rfl) en)))) rfl rfl rfl rfl).wk (by exact Wk.aggv ((adjL q).flatMap p2) : Wk _ (.val (.agg ((adjL q).flatMap p2).toArray)))) ?_
  refine zab rfl rfl rfl (zad (.inl rfl) (ev1 rfl)) ?_
  refine zae ?_
  refine zak ?_
  refine dwp_loopS ⟨hs0, rfl⟩ (α := Nat) (fun i => [(164, .val (.int .i64 (i : Int)))]) [(6, _), (7, _), (11, _), (12, _), (20, _), (163, _)] (fun i => []) [_, _, _, _, _, _, _, _, _, _] (fun i => i ≤ (adjL q).length) (fun i => (adjL q).length - i) 0 [0, 1, 2, 3, 4, 5, 6, 7, 8, 9] (Nat.zero_le _) rfl ⟨rfl, rfl, rfl, rfl, rfl, rfl, trivial⟩ ⟨rfl, trivial⟩ ⟨rfl, rfl, rfl, rfl, rfl, rfl, rfl, rfl, rfl, rfl, trivial⟩ ?_
  intro i hx
  simp only [upd, zaa, za, List.cons_append, List.nil_append]
  have hi0 := hx
  refine zaf ?_
  refine zac ?_
  refine zab rfl rfl rfl (op_lss rfl (ev1 rfl) (ev1 rfl)) ?_
  refine zae ?_
  refine zaf ?_
  refine dwp_cond rfl (fun c2 => ?_) (fun c2 => ?_)
  · try simp only [decide_eq_true_eq, decide_eq_false_iff_not, beq_iff_eq, bne_iff_ne, beq_eq_false_iff_ne, bne_eq_false_iff_eq, Bool.not_eq_true', Bool.not_eq_false', Bool.and_eq_true, Bool.or_eq_true, Bool.or_eq_false_iff, ne_eq, Decidable.not_not, Int.not_lt, Int.not_le] at c2
    refine zal ?_
    refine zaf ?_
    refine zak ?_
    refine zaf ?_
    have hi : i < (adjL q).length := by omega
    have had := adj_in hqi (List.getElem_mem hi)
    refine zah 1 (by simp only [holes, List.cons_append, List.nil_append]; exact rfl) ?_
    refine zac ?_
    refine zab rfl rfl rfl ((op_ixv (j := i) (zP2) rfl av57 (ev1 rfl) (ev1 rfl) (fun _ => rfl) (fun _ => by omega) (adj_len _) (fun _ => rfl)).wk (Wk.of_eq (d' := .val (.agg (p2 (adjL q)[i]).toArray)) (by rw [gD_at hi]))) ?_
    refine zaj rfl rfl rfl (op_alloc 10 rfl zr26 rfl) (by simp only [upd, zaa, za]; exact rfl) ?_
    refine walk_s rfl rfl (op_stwa rfl tb26 (ev1 rfl) (ev1 rfl) rfl rfl rfl rfl) (by simp only [upd, zaa, za]; exact rfl) ?_
    refine zae ?_
    refine zaf ?_
    by_cases hoo : onP w h (adjL q)[i] = true
    · by_cases hhn : (rgF w h ts tol p).has (adjL q)[i] = true
      · have hos : onS w h (adjL q)[i].x (adjL q)[i].y = true := hoo
        refine zah 1 (by simp only [holes, List.cons_append, List.nil_append]; exact rfl) ?_
        refine zac ?_
        refine zab rfl rfl rfl (op_ldm rfl tb29 (ev1 rfl) rfl rfl) ?_
        refine zab rfl rfl rfl (op_fa rfl fo26_0 (ev1 rfl)) ?_
        refine zab rfl rfl rfl (op_ldo rfl tb3 (ev1 rfl) rfl rfl) ?_
        refine zab rfl rfl rfl (op_fa rfl fo26_1 (ev1 rfl)) ?_
        refine zab rfl rfl rfl (op_ldo rfl tb3 (ev1 rfl) rfl rfl) ?_
        refine zab rfl rfl rfl (zai [] [] [] rfl (ev1 rfl) (ec (ev1 rfl) (ec (ev1 rfl) (ec (ev1 rfl) en))) rfl rfl (at_d w h _ ts (dpR_ok ts) hc (adjL q)[i].x (adjL q)[i].y) rfl rfl rfl rfl rfl rfl) ?_
        refine zab rfl rfl rfl (zad (.inl rfl) (ev1 rfl)) ?_
        refine zab rfl rfl rfl ((op_ext rfl (ev1 rfl) rfl).cast (d' := .val (.agg (c4 (getC w ts (adjL q)[i].x (adjL q)[i].y)).toArray)) (by rw [if_pos hos])) ?_
        refine zab rfl rfl rfl ((op_ext rfl (ev1 rfl) rfl).cast (d' := .val (.bool true)) (by rw [hos])) ?_
        refine zaj rfl rfl rfl (op_alloc 11 rfl zr44 rfl) (by simp only [upd, zaa, za]; exact rfl) ?_
        refine walk_s rfl rfl (op_stwa rfl tb44 (ev1 rfl) (ev1 rfl) rfl rfl rfl rfl) (by simp only [upd, zaa, za]; exact rfl) ?_
        refine zab rfl rfl rfl (zad (.inr rfl) (ev1 rfl)) ?_
        refine zae ?_
        refine zaf ?_
        refine zac ?_
        refine zab rfl rfl rfl (zad (.inl rfl) (ev1 rfl)) ?_
        refine zab rfl rfl rfl (zad (.inl rfl) (ev1 rfl)) ?_
        refine walk_k (gd_t (b := true) rfl rfl rfl) rfl rfl rfl (op_ldm rfl tb32 (ev1 rfl) rfl rfl) (by simp only [upd, zaa, za]; exact rfl) ?_
        refine walk_k (gd_t (b := true) rfl rfl rfl) rfl rfl rfl (op_ldw rfl tb26 (ev1 rfl) rfl rfl) (by simp only [upd, zaa, za]; exact rfl) ?_
        refine walk_k (gd_t (b := true) rfl rfl rfl) rfl rfl rfl ((zai [] [] [] rfl (ev1 rfl) (ec (ev2 rfl) (ec (ev2 rfl) en)) rfl rfl (has_d (rgS w h (rgF w h ts tol p)) (adjL q)[i]) rfl rfl rfl rfl rfl rfl).cast (d' := .val (.bool true)) (by rw [rgS_has hc.may, hoo, hhn]; rfl)) (by simp only [upd, zaa, za]; exact rfl) ?_
        refine walk_k (gd_t (b := true) rfl rfl rfl) rfl rfl rfl ((op_not rfl (ev2 rfl)).cast (d' := .val (.bool false)) (by kernel_rfl)) (by simp only [upd, zaa, za]; exact rfl) ?_
        refine zab rfl rfl rfl ((op_and rfl (ev1 rfl) (ev3 rfl (fun _ => rfl))).cast (d' := .val (.bool false)) (by rfl)) ?_
        refine zab rfl rfl rfl (zad (.inl rfl) (ev1 rfl)) ?_
        refine walk_gr (gd_t (b := false) rfl rfl rfl) rfl rfl rfl (dop_never (d := .junk)) ?_
        refine walk_gr (gd_t (b := false) rfl rfl rfl) rfl rfl rfl (dop_never (d := .junk)) ?_
        refine walk_gr (gd_t (b := false) rfl rfl rfl) rfl rfl rfl (dop_never (d := .junk)) ?_
        refine walk_gr (gd_t (b := false) rfl rfl rfl) rfl rfl rfl (dop_never (d := .val (.bool false))) ?_
        refine zab rfl rfl rfl ((op_and rfl (ev1 rfl) (ev3 rfl id)).cast (d' := .val (.bool false)) (by rfl)) ?_
        refine zae ?_
        refine dwp_if_f rfl (rfl) ?_
        refine zal ?_
        refine zac ?_
        refine zab rfl rfl rfl (op_add' rfl (ev1 rfl) (ev1 rfl) (fun _ => IntWalk.i64_in _ (by omega))) ?_
        refine zab rfl rfl rfl (zad (.inl rfl) (ev1 rfl)) ?_
        refine zae ?_
        refine ⟨i + 1, [0, 1, 2, 3, 4, 5, 6, 7, 8, 9], by omega, by simp only []; omega, rfl, ⟨rfl, rfl, rfl, rfl, rfl, rfl, rfl, trivial⟩, ⟨rfl, rfl, rfl, rfl, rfl, rfl, rfl, rfl, rfl, rfl, trivial⟩⟩
      · have hos : onS w h (adjL q)[i].x (adjL q)[i].y = true := hoo
        have hhn : (rgF w h ts tol p).has (adjL q)[i] = false := by simpa using hhn
        have hnr := rests_beside hc.may hp hq hh hoo (List.getElem_mem hi) hhn
        refine zah 1 (by simp only [holes, List.cons_append, List.nil_append]; exact rfl) ?_
        refine zac ?_
        refine zab rfl rfl rfl (op_ldm rfl tb29 (ev1 rfl) rfl rfl) ?_
        refine zab rfl rfl rfl (op_fa rfl fo26_0 (ev1 rfl)) ?_
        refine zab rfl rfl rfl (op_ldo rfl tb3 (ev1 rfl) rfl rfl) ?_
        refine zab rfl rfl rfl (op_fa rfl fo26_1 (ev1 rfl)) ?_
        refine zab rfl rfl rfl (op_ldo rfl tb3 (ev1 rfl) rfl rfl) ?_
        refine zab rfl rfl rfl (zai [] [] [] rfl (ev1 rfl) (ec (ev1 rfl) (ec (ev1 rfl) (ec (ev1 rfl) en))) rfl rfl (at_d w h _ ts (dpR_ok ts) hc (adjL q)[i].x (adjL q)[i].y) rfl rfl rfl rfl rfl rfl) ?_
        refine zab rfl rfl rfl (zad (.inl rfl) (ev1 rfl)) ?_
        refine zab rfl rfl rfl ((op_ext rfl (ev1 rfl) rfl).cast (d' := .val (.agg (c4 (getC w ts (adjL q)[i].x (adjL q)[i].y)).toArray)) (by rw [if_pos hos])) ?_
        refine zab rfl rfl rfl ((op_ext rfl (ev1 rfl) rfl).cast (d' := .val (.bool true)) (by rw [hos])) ?_
        refine zaj rfl rfl rfl (op_alloc 11 rfl zr44 rfl) (by simp only [upd, zaa, za]; exact rfl) ?_
        refine walk_s rfl rfl (op_stwa rfl tb44 (ev1 rfl) (ev1 rfl) rfl rfl rfl rfl) (by simp only [upd, zaa, za]; exact rfl) ?_
        refine zab rfl rfl rfl (zad (.inr rfl) (ev1 rfl)) ?_
        refine zae ?_
        refine zaf ?_
        refine zac ?_
        refine zab rfl rfl rfl (zad (.inl rfl) (ev1 rfl)) ?_
        refine zab rfl rfl rfl (zad (.inl rfl) (ev1 rfl)) ?_
        refine walk_k (gd_t (b := true) rfl rfl rfl) rfl rfl rfl (op_ldm rfl tb32 (ev1 rfl) rfl rfl) (by simp only [upd, zaa, za]; exact rfl) ?_
        refine walk_k (gd_t (b := true) rfl rfl rfl) rfl rfl rfl (op_ldw rfl tb26 (ev1 rfl) rfl rfl) (by simp only [upd, zaa, za]; exact rfl) ?_
        refine walk_k (gd_t (b := true) rfl rfl rfl) rfl rfl rfl ((zai [] [] [] rfl (ev1 rfl) (ec (ev2 rfl) (ec (ev2 rfl) en)) rfl rfl (has_d (rgS w h (rgF w h ts tol p)) (adjL q)[i]) rfl rfl rfl rfl rfl rfl).cast (d' := .val (.bool false)) (by rw [rgS_has hc.may, hoo, hhn]; rfl)) (by simp only [upd, zaa, za]; exact rfl) ?_
        refine walk_k (gd_t (b := true) rfl rfl rfl) rfl rfl rfl ((op_not rfl (ev2 rfl)).cast (d' := .val (.bool true)) (by kernel_rfl)) (by simp only [upd, zaa, za]; exact rfl) ?_
        refine zab rfl rfl rfl ((op_and rfl (ev1 rfl) (ev3 rfl (fun _ => rfl))).cast (d' := .val (.bool true)) (by rfl)) ?_
        refine zab rfl rfl rfl (zad (.inl rfl) (ev1 rfl)) ?_
        refine walk_k (gd_t (b := true) rfl rfl rfl) rfl rfl rfl (op_ldw rfl tb44 (ev1 rfl) rfl rfl) (by simp only [upd, zaa, za]; exact rfl) ?_
        refine walk_k (gd_t (b := true) rfl rfl rfl) rfl rfl rfl (op_ldw rfl tb44 (ev1 rfl) rfl rfl) (by simp only [upd, zaa, za]; exact rfl) ?_
        refine walk_k (gd_t (b := true) rfl rfl rfl) rfl rfl rfl (op_ldo rfl tb3 (ev1 rfl) rfl rfl) (by simp only [upd, zaa, za]; exact rfl) ?_
        refine walk_k (gd_t (b := true) rfl rfl rfl) rfl rfl rfl ((zai [] [] [] rfl (ev1 rfl) (ec (ev2 rfl) (ec (ev2 rfl) (ec (ev2 rfl) en))) rfl rfl (near_d _ (getC w ts (adjL q)[i].x (adjL q)[i].y) (getC_rng hg _ _ _) (getC_rng hg _ _ _) tol ht) rfl rfl rfl rfl rfl rfl).cast (d' := .val (.bool false)) (by rw [hnr])) (by simp only [upd, zaa, za]; exact rfl) ?_
        refine zab rfl rfl rfl ((op_and rfl (ev1 rfl) (ev3 rfl (fun _ => rfl))).cast (d' := .val (.bool false)) (by rfl)) ?_
        refine zae ?_
        refine dwp_if_f rfl (rfl) ?_
        refine zal ?_
        refine zac ?_
        refine zab rfl rfl rfl (op_add' rfl (ev1 rfl) (ev1 rfl) (fun _ => IntWalk.i64_in _ (by omega))) ?_
        refine zab rfl rfl rfl (zad (.inl rfl) (ev1 rfl)) ?_
        refine zae ?_
        refine ⟨i + 1, [0, 1, 2, 3, 4, 5, 6, 7, 8, 9], by omega, by simp only []; omega, rfl, ⟨rfl, rfl, rfl, rfl, rfl, rfl, rfl, trivial⟩, ⟨rfl, rfl, rfl, rfl, rfl, rfl, rfl, rfl, rfl, rfl, trivial⟩⟩
    · have hos : onS w h (adjL q)[i].x (adjL q)[i].y = false := by simpa [onP] using hoo
      refine zah 1 (by simp only [holes, List.cons_append, List.nil_append]; exact rfl) ?_
      refine zac ?_
      refine zab rfl rfl rfl (op_ldm rfl tb29 (ev1 rfl) rfl rfl) ?_
      refine zab rfl rfl rfl (op_fa rfl fo26_0 (ev1 rfl)) ?_
      refine zab rfl rfl rfl (op_ldo rfl tb3 (ev1 rfl) rfl rfl) ?_
      refine zab rfl rfl rfl (op_fa rfl fo26_1 (ev1 rfl)) ?_
      refine zab rfl rfl rfl (op_ldo rfl tb3 (ev1 rfl) rfl rfl) ?_
      refine zab rfl rfl rfl (zai [] [] [] rfl (ev1 rfl) (ec (ev1 rfl) (ec (ev1 rfl) (ec (ev1 rfl) en))) rfl rfl (at_d w h _ ts (dpR_ok ts) hc (adjL q)[i].x (adjL q)[i].y) rfl rfl rfl rfl rfl rfl) ?_
      refine zab rfl rfl rfl (zad (.inl rfl) (ev1 rfl)) ?_
      refine zab rfl rfl rfl (op_ext rfl (ev1 rfl) rfl) ?_
      refine zab rfl rfl rfl ((op_ext rfl (ev1 rfl) rfl).cast (d' := .val (.bool false)) (by rw [hos])) ?_
      refine zaj rfl rfl rfl (op_alloc 11 rfl zr44 rfl) (by simp only [upd, zaa, za]; exact rfl) ?_
      refine walk_s rfl rfl (op_stwa rfl tb44 (ev1 rfl) (ev1 rfl) rfl rfl rfl rfl) (by simp only [upd, zaa, za]; exact rfl) ?_
      refine zab rfl rfl rfl (zad (.inr rfl) (ev1 rfl)) ?_
      refine zae ?_
      refine zaf ?_
      refine zac ?_
      refine zab rfl rfl rfl (zad (.inl rfl) (ev1 rfl)) ?_
      refine zab rfl rfl rfl (zad (.inl rfl) (ev1 rfl)) ?_
      refine walk_gr (gd_t (b := false) rfl rfl rfl) rfl rfl rfl (dop_never (d := .junk)) ?_
      refine walk_gr (gd_t (b := false) rfl rfl rfl) rfl rfl rfl (dop_never (d := .junk)) ?_
      refine walk_gr (gd_t (b := false) rfl rfl rfl) rfl rfl rfl (dop_never (d := .val (.bool false))) ?_
      refine walk_gr (gd_t (b := false) rfl rfl rfl) rfl rfl rfl (dop_never (d := .val (.bool false))) ?_
      refine zab rfl rfl rfl ((op_and rfl (ev1 rfl) (ev3 rfl id)).cast (d' := .val (.bool false)) (by rfl)) ?_
      refine zab rfl rfl rfl (zad (.inl rfl) (ev1 rfl)) ?_
      refine walk_gr (gd_t (b := false) rfl rfl rfl) rfl rfl rfl (dop_never (d := .junk)) ?_
      refine walk_gr (gd_t (b := false) rfl rfl rfl) rfl rfl rfl (dop_never (d := .junk)) ?_
      refine walk_gr (gd_t (b := false) rfl rfl rfl) rfl rfl rfl (dop_never (d := .junk)) ?_
      refine walk_gr (gd_t (b := false) rfl rfl rfl) rfl rfl rfl (dop_never (d := .val (.bool false))) ?_
      refine zab rfl rfl rfl ((op_and rfl (ev1 rfl) (ev3 rfl id)).cast (d' := .val (.bool false)) (by rfl)) ?_
      refine zae ?_
      refine dwp_if_f rfl (rfl) ?_
      refine zal ?_
      refine zac ?_
      refine zab rfl rfl rfl (op_add' rfl (ev1 rfl) (ev1 rfl) (fun _ => IntWalk.i64_in _ (by omega))) ?_
      refine zab rfl rfl rfl (zad (.inl rfl) (ev1 rfl)) ?_
      refine zae ?_
      refine ⟨i + 1, [0, 1, 2, 3, 4, 5, 6, 7, 8, 9], by omega, by simp only []; omega, rfl, ⟨rfl, rfl, rfl, rfl, rfl, rfl, rfl, trivial⟩, ⟨rfl, rfl, rfl, rfl, rfl, rfl, rfl, rfl, rfl, rfl, trivial⟩⟩
  · try simp only [decide_eq_true_eq, decide_eq_false_iff_not, beq_iff_eq, bne_iff_ne, beq_eq_false_iff_ne, bne_eq_false_iff_eq, Bool.not_eq_true', Bool.not_eq_false', Bool.and_eq_true, Bool.or_eq_true, Bool.or_eq_false_iff, ne_eq, Decidable.not_not, Int.not_lt, Int.not_le] at c2
    refine dwp_exit ?_
    refine ⟨by first | rfl | assumption | simp_all, rfl, [0, 1, 2, 3, 4, 5, 6, 7], rfl, ⟨rfl, rfl, rfl, rfl, rfl, rfl, rfl, rfl, trivial⟩⟩
set_option maxRecDepth 4000 in
set_option maxHeartbeats 1000000 in
theorem rs_span (w h : Int) (ts : List TL) (hv : CvOk w h ts) (hg : tsRng ts) (c : C4) (hcr : c.rng) (p : P2) (hp : onP w h p = true) (tol : Int) (ht : 0 ≤ tol) (l : List Sp) (hl : l.length ≤ 1000000) (hu : ∀ q ∈ ptsS l, onP w h q = true ∧ (rgF w h ts tol p).has q = true) (s : Sp) (hs : rchS s ∧ s.f ≤ s.t) (P : List P2) (hm : ∀ k : Nat, k < s.wd → (⟨s.f + (k : Int), s.y⟩ : P2) ∈ ptsS l) : DRound Tryz.prog 0 [.val (.agg (s3 s).toArray)] [.lp 23 [(2, .loc 1 0)] #[7] alrA alrB .ready none, .mix 78 [.yld 2], .lp 190 [(5, .loc 3 0), (6, .loc 4 0), (7, .loc 5 0), (11, .loc 6 0), (12, .loc 7 0), (14, .loc 8 0), (20, .loc 9 0)] #[126] rsrA rsrB .ready none, .flat 44 (c4 c), .flat 4 [.bool false], .mix 29 [cvD w h (dpR ts)], .flat 3 [.int .i64 tol], .mix 32 [.slf 3 (rgS w h (rgF w h ts tol p)).length ((rgS w h (rgF w h ts tol p)).flatMap s3)], .mix 29 [cvD w h (dpR (putsC w h ts (dtsC c (rgP w h (rgF w h ts tol p)))))], .flat 44 (c4 (getC w ts p.x p.y))] true [.lp 23 [(2, .loc 1 0)] #[7] alrA alrB .ready none, .mix 78 [.yld 2], .lp 190 [(5, .loc 3 0), (6, .loc 4 0), (7, .loc 5 0), (11, .loc 6 0), (12, .loc 7 0), (14, .loc 8 0), (20, .loc 9 0)] #[126] rsrA rsrB .ready none, .flat 44 (c4 c), .flat 4 [.bool false], .mix 29 [cvD w h (dpR ts)], .flat 3 [.int .i64 tol], .mix 32 [.slf 3 (rgS w h (rgF w h ts tol p)).length ((rgS w h (rgF w h ts tol p)).flatMap s3)], .mix 29 [cvD w h (dpR (putsC w h ts (dtsC c (rgP w h (rgF w h ts tol p)))))], .flat 44 (c4 (getC w ts p.x p.y))] := by
  obtain ⟨hr, hft⟩ := hs
  have hr2 := hr
  unfold rchS at hr2
  have hwd : (s.wd : Int) = s.t - s.f + 1 := by unfold Sp.wd; omega
  have hpw := pts_wd s
  refine dround_go 10 rfl rfl (by simp) rfl rfl fun s0 hs0 => ?_
  refine zah 1 (by simp only [holes, List.cons_append, List.nil_append]; exact rfl) ?_
  refine zac ?_
  refine zaj rfl rfl rfl (op_alloc 10 rfl zr41 rfl) (by simp only [upd, zaa, za]; exact rfl) ?_
  refine walk_s rfl rfl (op_stwa rfl tb41 (ev1 rfl) (ev1 rfl) rfl rfl rfl rfl) (by simp only [upd, zaa, za]; exact rfl) ?_
  refine zae ?_
  refine ⟨rfl, ?_⟩
  simp only [zaa, za]
  refine zak ?_
  refine zaf ?_
  refine zac ?_
  refine zab rfl rfl rfl (op_fa rfl fo41_1 (ev1 rfl)) ?_
  refine zab rfl rfl rfl (op_ldo rfl tb3 (ev1 rfl) rfl rfl) ?_
  refine zab rfl rfl rfl (zad (.inr rfl) (ev1 rfl)) ?_
  refine zae ?_
  refine zak ?_
  refine dwp_loopS ⟨hs0, rfl⟩ (α := Nat) (fun k => [(4, .val (.int .i64 (s.f + (k : Int))))]) [(2, _), (3, _)] (fun k => []) [_, _, _, _, _, _, _, _, _, _, _] (fun k => k ≤ s.wd) (fun k => s.wd - k) 0 [0, 1, 2, 3, 4, 5, 6, 7, 8, 9, 10] (Nat.zero_le _) rfl ⟨rfl, rfl, trivial⟩ ⟨congrArg (fun z => some (D.val (.int .i64 z))) (by first | rfl | omega), trivial⟩ ⟨rfl, rfl, rfl, rfl, rfl, rfl, rfl, rfl, rfl, rfl, rfl, trivial⟩ ?_
  intro k hx
  simp only [upd, zaa, za, List.cons_append, List.nil_append]
  have hk0 := hx
  refine zaf ?_
  refine zaf ?_
  refine zac ?_
  refine zab rfl rfl rfl (zad (.inl rfl) (ev1 rfl)) ?_
  refine zab rfl rfl rfl (op_fa rfl fo41_2 (ev1 rfl)) ?_
  refine zab rfl rfl rfl (op_ldo rfl tb3 (ev1 rfl) rfl rfl) ?_
  refine zab rfl rfl rfl (op_leq rfl (ev1 rfl) (ev1 rfl)) ?_
  refine zae ?_
  refine dwp_cond rfl (fun c1 => ?_) (fun c1 => ?_)
  · try simp only [decide_eq_true_eq, decide_eq_false_iff_not, beq_iff_eq, bne_iff_ne, beq_eq_false_iff_ne, bne_eq_false_iff_eq, Bool.not_eq_true', Bool.not_eq_false', Bool.and_eq_true, Bool.or_eq_true, Bool.or_eq_false_iff, ne_eq, Decidable.not_not, Int.not_lt, Int.not_le] at c1
    refine zal ?_
    refine zaf ?_
    refine zak ?_
    refine zaf ?_
    have hk : k < s.wd := by omega
    have hq := hm k hk
    refine zac ?_
    refine zab rfl rfl rfl (op_ldm rfl tb78 (ev1 rfl) rfl rfl) ?_
    refine zab rfl rfl rfl (zad (.inl rfl) (ev1 rfl)) ?_
    refine zab rfl rfl rfl (op_fa rfl fo41_0 (ev1 rfl)) ?_
    refine zab rfl rfl rfl (op_ldo rfl tb3 (ev1 rfl) rfl rfl) ?_
    refine zab rfl rfl rfl (op_build (ps := [(0, .tmp 17), (1, .tmp 19)]) rfl fl26 zr26 (vc (ev1 rfl) (vc (ev1 rfl) vn)) rfl rfl) ?_
    refine zaj rfl rfl rfl (op_y (i := 0) [2, 3, 4, 5, 6, 7, 8, 9] [] [] rfl (ev1 rfl) (ec (ev1 rfl) en) rfl rfl rfl (rsRound w h ts hv hg c hcr p hp tol ht ⟨s.f + (k : Int), s.y⟩ (hu _ hq).1 (hu _ hq).2) rfl rfl rfl rfl rfl) (by simp only [upd, zaa, za]; exact rfl) ?_
    refine zab rfl rfl rfl (op_not rfl (ev1 rfl)) ?_
    refine zae ?_
    refine dwp_if_f rfl (rfl) ?_
    refine zal ?_
    refine zac ?_
    refine zab rfl rfl rfl (zad (.inl rfl) (ev1 rfl)) ?_
    refine zab rfl rfl rfl (op_add' rfl (ev1 rfl) (ev1 rfl) (fun _ => IntWalk.i64_in _ (by omega))) ?_
    refine zab rfl rfl rfl (zad (.inr rfl) (ev1 rfl)) ?_
    refine zae ?_
    refine ⟨k + 1, [0, 1, 2, 3, 4, 5, 6, 7, 8, 9, 10], by omega, by simp only []; omega, rfl, ⟨congrArg (fun z => some (D.val (.int .i64 z))) (by first | rfl | omega), rfl, rfl, trivial⟩, ⟨rfl, rfl, rfl, rfl, rfl, rfl, rfl, rfl, rfl, rfl, rfl, trivial⟩⟩
  · try simp only [decide_eq_true_eq, decide_eq_false_iff_not, beq_iff_eq, bne_iff_ne, beq_eq_false_iff_ne, bne_eq_false_iff_eq, Bool.not_eq_true', Bool.not_eq_false', Bool.and_eq_true, Bool.or_eq_true, Bool.or_eq_false_iff, ne_eq, Decidable.not_not, Int.not_lt, Int.not_le] at c1
    refine dwp_exit ?_
    obtain rfl : k = s.wd := by omega
    try rw [show s.pts.take s.wd = s.pts from List.take_of_length_le (by omega)]
    refine ⟨by first | rfl | assumption | simp_all, rfl, [0, 1, 2, 3, 4, 5, 6, 7, 8, 9], rfl, ⟨rfl, rfl, rfl, rfl, rfl, rfl, rfl, rfl, rfl, rfl, trivial⟩⟩
set_option maxRecDepth 4000 in
set_option maxHeartbeats 1000000 in
theorem rs_told (w h : Int) (ts : List TL) (hv : CvOk w h ts) (hg : tsRng ts) (c : C4) (hcr : c.rng) (p : P2) (hp : onP w h p = true) (tol : Int) (ht : 0 ≤ tol) (l : List Sp) (hl : l.length ≤ 1000000) (hu : ∀ q ∈ ptsS l, onP w h q = true ∧ (rgF w h ts tol p).has q = true) (hl0 : l.length ≤ 9223372036854775807) (hc : chkS l) : DFun Tryz.prog 67 [.yld 0, .loc 10 0] [.lp 23 [(2, .loc 1 0)] #[7] alrA alrB .ready none, .mix 78 [.yld 2], .lp 190 [(5, .loc 3 0), (6, .loc 4 0), (7, .loc 5 0), (11, .loc 6 0), (12, .loc 7 0), (14, .loc 8 0), (20, .loc 9 0)] #[126] rsrA rsrB .ready none, .flat 44 (c4 c), .flat 4 [.bool false], .mix 29 [cvD w h (dpR ts)], .flat 3 [.int .i64 tol], .mix 32 [.slf 3 (rgS w h (rgF w h ts tol p)).length ((rgS w h (rgF w h ts tol p)).flatMap s3)], .mix 29 [cvD w h (dpR (putsC w h ts (dtsC c (rgP w h (rgF w h ts tol p)))))], .flat 44 (c4 (getC w ts p.x p.y)), .mix 32 [.slf 3 l.length (l.flatMap s3)]] (.tup []) [.lp 23 [(2, .loc 1 0)] #[7] alrA alrB .ready none, .mix 78 [.yld 2], .lp 190 [(5, .loc 3 0), (6, .loc 4 0), (7, .loc 5 0), (11, .loc 6 0), (12, .loc 7 0), (14, .loc 8 0), (20, .loc 9 0)] #[126] rsrA rsrB .ready none, .flat 44 (c4 c), .flat 4 [.bool false], .mix 29 [cvD w h (dpR ts)], .flat 3 [.int .i64 tol], .mix 32 [.slf 3 (rgS w h (rgF w h ts tol p)).length ((rgS w h (rgF w h ts tol p)).flatMap s3)], .mix 29 [cvD w h (dpR (putsC w h ts (dtsC c (rgP w h (rgF w h ts tol p)))))], .flat 44 (c4 (getC w ts p.x p.y)), .mix 32 [.slf 3 l.length (l.flatMap s3)]] := by
  refine zan (N := 19) 11 (by kernel_rfl) Tryz.func67 rfl rfl rfl (by simp only [fr0, Nat.zero_add, Nat.reduceAdd]; exact rfl) rfl fun s0 hs0 => ?_
  refine zaf ?_
  refine zaf ?_
  refine zac ?_
  refine zab rfl rfl rfl (op_ldm rfl tb32 (ev1 rfl) rfl rfl) ?_
  refine zab rfl rfl rfl (zai [] [] [] rfl (ev1 rfl) (ec (ev1 rfl) en) rfl rfl (check_d l) rfl rfl rfl rfl rfl rfl) ?_
  refine zab rfl rfl rfl (op_neq rfl (ev1 rfl) (ev1 rfl)) ?_
  refine zae ?_
  refine dwp_if_f rfl (by rw [chkE_ok hc]; rfl) ?_
  refine zal ?_
  refine zaf ?_
  refine zac ?_
  refine zab rfl rfl rfl (op_ldm rfl tb32 (ev1 rfl) rfl rfl) ?_
  refine zab rfl rfl rfl (op_len rfl sl32 (ev1 rfl)) ?_
  refine zab rfl rfl rfl (zad (.inl rfl) (ev1 rfl)) ?_
  refine zae ?_
  refine zak ?_
  refine dwp_loopS ⟨hs0, rfl⟩ (α := Nat) (fun i => [(10, .val (.int .i64 (i : Int)))]) [(0, _), (8, _), (9, _)] (fun i => []) [_, _, _, _, _, _, _, _, _, _, _] (fun i => i ≤ l.length) (fun i => l.length - i) 0 [0, 1, 2, 3, 4, 5, 6, 7, 8, 9, 10] (Nat.zero_le _) rfl ⟨rfl, rfl, rfl, trivial⟩ ⟨rfl, trivial⟩ ⟨rfl, rfl, rfl, rfl, rfl, rfl, rfl, rfl, rfl, rfl, rfl, trivial⟩ ?_
  intro i hx
  simp only [upd, zaa, za, List.cons_append, List.nil_append]
  have hi0 := hx
  refine zaf ?_
  refine zac ?_
  refine zab rfl rfl rfl (op_lss rfl (ev1 rfl) (ev1 rfl)) ?_
  refine zae ?_
  refine zaf ?_
  refine dwp_cond rfl (fun c2 => ?_) (fun c2 => ?_)
  · try simp only [decide_eq_true_eq, decide_eq_false_iff_not, beq_iff_eq, bne_iff_ne, beq_eq_false_iff_ne, bne_eq_false_iff_eq, Bool.not_eq_true', Bool.not_eq_false', Bool.and_eq_true, Bool.or_eq_true, Bool.or_eq_false_iff, ne_eq, Decidable.not_not, Int.not_lt, Int.not_le] at c2
    refine zal ?_
    refine zaf ?_
    refine zak ?_
    refine zaf ?_
    have hi : i < l.length := by omega
    refine zah 1 (by simp only [holes, List.cons_append, List.nil_append]; exact rfl) ?_
    refine zac ?_
    refine zab rfl rfl rfl (op_ixsr (j := i) rfl sl32 (ev1 rfl) (ev1 rfl) (fun _ => rfl) (by decide) (by omega) (by omega)) ?_
    refine zab rfl rfl rfl (op_ldwd rfl tb41 (ev1 rfl) rfl) ?_
    refine zaj rfl rfl rfl (op_alloc 11 rfl zr41 rfl) (by simp only [upd, zaa, za]; exact rfl) ?_
    refine walk_s rfl rfl (op_stwa rfl tb41 (ev1 rfl) (ev1 rfl) rfl rfl rfl rfl) (by simp only [upd, zaa, za]; exact rfl) ?_
    refine zae ?_
    refine zaf ?_
    refine zac ?_
    refine zab rfl rfl rfl (zad (.inl rfl) (ev1 rfl)) ?_
    refine zab rfl rfl rfl (op_ldw rfl tb41 (ev1 rfl) rfl rfl) ?_
    refine zaj rfl rfl rfl (op_y (i := 0) [0, 1, 2, 3, 4, 5, 6, 7, 8, 9] [] [] rfl (ev1 rfl) (ec (ev1 rfl) en) rfl rfl rfl (rs_span w h ts hv hg c hcr p hp tol ht l hl hu l[i] (hc.1 _ (List.getElem_mem hi)) [] (fun k hk => pts_mem2 hi hk)) rfl rfl rfl rfl rfl) (by simp only [upd, zaa, za]; exact rfl) ?_
    refine zab rfl rfl rfl (op_not rfl (ev1 rfl)) ?_
    refine zae ?_
    refine dwp_if_f rfl (rfl) ?_
    refine zal ?_
    refine zac ?_
    refine zab rfl rfl rfl (op_add' rfl (ev1 rfl) (ev1 rfl) (fun _ => IntWalk.i64_in _ (by omega))) ?_
    refine zab rfl rfl rfl (zad (.inl rfl) (ev1 rfl)) ?_
    refine zae ?_
    refine ⟨i + 1, [0, 1, 2, 3, 4, 5, 6, 7, 8, 9, 10], by omega, by simp only []; omega, rfl, ⟨rfl, rfl, rfl, rfl, trivial⟩, ⟨rfl, rfl, rfl, rfl, rfl, rfl, rfl, rfl, rfl, rfl, rfl, trivial⟩⟩
  · try simp only [decide_eq_true_eq, decide_eq_false_iff_not, beq_iff_eq, bne_iff_ne, beq_eq_false_iff_ne, bne_eq_false_iff_eq, Bool.not_eq_true', Bool.not_eq_false', Bool.and_eq_true, Bool.or_eq_true, Bool.or_eq_false_iff, ne_eq, Decidable.not_not, Int.not_lt, Int.not_le] at c2
    refine dwp_exit ?_
    refine kend [0, 1, 2, 3, 4, 5, 6, 7, 8, 9, 10] (res_none rfl) rfl rfl ?_ ⟨?_, ?_, ?_, ?_, ?_, ?_, ?_, ?_, ?_, ?_, ?_, trivial⟩
    rfl
    all_goals first | exact rfl | exact (by rw [take_all (by omega)]; rfl)
set_option maxRecDepth 4000 in
set_option maxHeartbeats 1000000 in
theorem rs_told_no (w h : Int) (ts : List TL) (hv : CvOk w h ts) (hg : tsRng ts) (c : C4) (hcr : c.rng) (p : P2) (hp : onP w h p = true) (tol : Int) (ht : 0 ≤ tol) (l : List Sp) (hl : l.length ≤ 1000000) (hu : ∀ q ∈ ptsS l, onP w h q = true ∧ (rgF w h ts tol p).has q = true) (hc : ¬ chkS l) : DFun Tryz.prog 67 [.yld 0, .loc 10 0] [.lp 23 [(2, .loc 1 0)] #[7] alrA alrB .ready none, .mix 78 [.yld 2], .lp 190 [(5, .loc 3 0), (6, .loc 4 0), (7, .loc 5 0), (11, .loc 6 0), (12, .loc 7 0), (14, .loc 8 0), (20, .loc 9 0)] #[126] rsrA rsrB .ready none, .flat 44 (c4 c), .flat 4 [.bool false], .mix 29 [cvD w h (dpR ts)], .flat 3 [.int .i64 tol], .mix 32 [.slf 3 (rgS w h (rgF w h ts tol p)).length ((rgS w h (rgF w h ts tol p)).flatMap s3)], .mix 29 [cvD w h (dpR (putsC w h ts (dtsC c (rgP w h (rgF w h ts tol p)))))], .flat 44 (c4 (getC w ts p.x p.y)), .mix 32 [.slf 3 l.length (l.flatMap s3)]] (.tup []) [.lp 23 [(2, .loc 1 0)] #[7] alrA alrB .ready none, .mix 78 [.yld 2], .lp 190 [(5, .loc 3 0), (6, .loc 4 0), (7, .loc 5 0), (11, .loc 6 0), (12, .loc 7 0), (14, .loc 8 0), (20, .loc 9 0)] #[126] rsrA rsrB .ready none, .flat 44 (c4 c), .flat 4 [.bool false], .mix 29 [cvD w h (dpR ts)], .flat 3 [.int .i64 tol], .mix 32 [.slf 3 (rgS w h (rgF w h ts tol p)).length ((rgS w h (rgF w h ts tol p)).flatMap s3)], .mix 29 [cvD w h (dpR (putsC w h ts (dtsC c (rgP w h (rgF w h ts tol p)))))], .flat 44 (c4 (getC w ts p.x p.y)), .mix 32 [.slf 3 l.length (l.flatMap s3)]] := by
  refine zan (N := 19) 11 (by kernel_rfl) Tryz.func67 rfl rfl rfl (by simp only [fr0, Nat.zero_add, Nat.reduceAdd]; exact rfl) rfl fun s0 hs0 => ?_
  refine zaf ?_
  refine zaf ?_
  refine zac ?_
  refine zab rfl rfl rfl (op_ldm rfl tb32 (ev1 rfl) rfl rfl) ?_
  refine zab rfl rfl rfl (zai [] [] [] rfl (ev1 rfl) (ec (ev1 rfl) en) rfl rfl (check_d l) rfl rfl rfl rfl rfl rfl) ?_
  refine zab rfl rfl rfl (op_neq rfl (ev1 rfl) (ev1 rfl)) ?_
  refine zae ?_
  refine dwp_if_t rfl (by rw [chkE_no hc]; rfl) ?_
  refine dwp_ret ?_
  refine kend [0, 1, 2, 3, 4, 5, 6, 7, 8, 9, 10] (res_none rfl) rfl rfl ?_ ⟨rfl, rfl, rfl, rfl, rfl, rfl, rfl, rfl, rfl, rfl, rfl, trivial⟩
  rfl
set_option maxRecDepth 4000 in
set_option maxHeartbeats 1000000 in
theorem rs_all_ok (w h : Int) (ts : List TL) (hv : CvOk w h ts) (hg : tsRng ts) (c : C4) (hcr : c.rng) (p : P2) (hp : onP w h p = true) (tol : Int) (ht : 0 ≤ tol) (l : List Sp) (hl : l.length ≤ 1000000) (hu : ∀ q ∈ ptsS l, onP w h q = true ∧ (rgF w h ts tol p).has q = true) (hl0 : l.length ≤ 9223372036854775807) (hc : chkS l) : DFun Tryz.prog 38 [.yld 0, .loc 8 0] [.lp 190 [(5, .loc 1 0), (6, .loc 2 0), (7, .loc 3 0), (11, .loc 4 0), (12, .loc 5 0), (14, .loc 6 0), (20, .loc 7 0)] #[126] rsrA rsrB .ready none, .flat 44 (c4 c), .flat 4 [.bool false], .mix 29 [cvD w h (dpR ts)], .flat 3 [.int .i64 tol], .mix 32 [.slf 3 (rgS w h (rgF w h ts tol p)).length ((rgS w h (rgF w h ts tol p)).flatMap s3)], .mix 29 [cvD w h (dpR (putsC w h ts (dtsC c (rgP w h (rgF w h ts tol p)))))], .flat 44 (c4 (getC w ts p.x p.y)), .mix 32 [.slf 3 l.length (l.flatMap s3)]] (.tup []) [.lp 190 [(5, .loc 1 0), (6, .loc 2 0), (7, .loc 3 0), (11, .loc 4 0), (12, .loc 5 0), (14, .loc 6 0), (20, .loc 7 0)] #[126] rsrA rsrB .ready none, .flat 44 (c4 c), .flat 4 [.bool false], .mix 29 [cvD w h (dpR ts)], .flat 3 [.int .i64 tol], .mix 32 [.slf 3 (rgS w h (rgF w h ts tol p)).length ((rgS w h (rgF w h ts tol p)).flatMap s3)], .mix 29 [cvD w h (dpR (putsC w h ts (dtsC c (rgP w h (rgF w h ts tol p)))))], .flat 44 (c4 (getC w ts p.x p.y)), .mix 32 [.slf 3 l.length (l.flatMap s3)]] := by
  refine zan (N := 23) 9 (by kernel_rfl) Tryz.func38 rfl rfl rfl (by simp only [fr0, Nat.zero_add, Nat.reduceAdd]; exact rfl) rfl fun s0 hs0 => ?_
  refine zaf ?_
  refine zah 1 (by simp only [holes, List.cons_append, List.nil_append]; exact rfl) ?_
  refine zac ?_
  refine zaj rfl rfl rfl (op_boxm 9 rfl (ev1 rfl) (fun s v h => by cases h <;> rfl) rfl) (by simp only [upd, zaa, za]; exact rfl) ?_
  refine zae ?_
  refine zaf ?_
  refine zah 1 (by simp only [holes, List.cons_append, List.nil_append]; exact rfl) ?_
  refine zac ?_
  refine zab rfl rfl rfl (op_ldm rfl tb32 (ev1 rfl) rfl rfl) ?_
  refine zaj rfl rfl rfl (zai [] [] [10] rfl (ev1 rfl) (ec (ev1 rfl) en) rfl rfl (told_d l) rfl rfl rfl rfl rfl rfl) (by simp only [upd, zaa, za]; exact rfl) ?_
  refine zae ?_
  refine zak ?_
  refine dwp_hole ?_
  simp only [List.cons_append, List.nil_append]
  refine dwp_rf (FL := [(2, _)]) (st := .ready) (pe := none) [11, 9, 0, 1, 2, 3, 4, 5, 6, 7, 10] [] [] 11 rfl rfl (ev1 rfl) rfl (subF_lk ⟨rfl, trivial⟩) rfl rfl rfl (rs_told w h ts hv hg c hcr p hp tol ht l hl hu hl0 hc) rfl rfl rfl rfl rfl rfl rfl (by simp) (fun e => ?_) (fun c e => ?_)
  · simp only [upd, zaa, za]
    refine kend [0, 1, 2, 3, 4, 5, 6, 7, 8] (res_none rfl) rfl rfl ?_ ⟨rfl, rfl, rfl, rfl, rfl, rfl, rfl, rfl, rfl, trivial⟩
    rfl
  · cases e
set_option maxRecDepth 4000 in
set_option maxHeartbeats 1000000 in
theorem rs_all_no (w h : Int) (ts : List TL) (hv : CvOk w h ts) (hg : tsRng ts) (c : C4) (hcr : c.rng) (p : P2) (hp : onP w h p = true) (tol : Int) (ht : 0 ≤ tol) (l : List Sp) (hl : l.length ≤ 1000000) (hu : ∀ q ∈ ptsS l, onP w h q = true ∧ (rgF w h ts tol p).has q = true) (hc : ¬ chkS l) : DFun Tryz.prog 38 [.yld 0, .loc 8 0] [.lp 190 [(5, .loc 1 0), (6, .loc 2 0), (7, .loc 3 0), (11, .loc 4 0), (12, .loc 5 0), (14, .loc 6 0), (20, .loc 7 0)] #[126] rsrA rsrB .ready none, .flat 44 (c4 c), .flat 4 [.bool false], .mix 29 [cvD w h (dpR ts)], .flat 3 [.int .i64 tol], .mix 32 [.slf 3 (rgS w h (rgF w h ts tol p)).length ((rgS w h (rgF w h ts tol p)).flatMap s3)], .mix 29 [cvD w h (dpR (putsC w h ts (dtsC c (rgP w h (rgF w h ts tol p)))))], .flat 44 (c4 (getC w ts p.x p.y)), .mix 32 [.slf 3 l.length (l.flatMap s3)]] (.tup []) [.lp 190 [(5, .loc 1 0), (6, .loc 2 0), (7, .loc 3 0), (11, .loc 4 0), (12, .loc 5 0), (14, .loc 6 0), (20, .loc 7 0)] #[126] rsrA rsrB .ready none, .flat 44 (c4 c), .flat 4 [.bool false], .mix 29 [cvD w h (dpR ts)], .flat 3 [.int .i64 tol], .mix 32 [.slf 3 (rgS w h (rgF w h ts tol p)).length ((rgS w h (rgF w h ts tol p)).flatMap s3)], .mix 29 [cvD w h (dpR (putsC w h ts (dtsC c (rgP w h (rgF w h ts tol p)))))], .flat 44 (c4 (getC w ts p.x p.y)), .mix 32 [.slf 3 l.length (l.flatMap s3)]] := by
  refine zan (N := 23) 9 (by kernel_rfl) Tryz.func38 rfl rfl rfl (by simp only [fr0, Nat.zero_add, Nat.reduceAdd]; exact rfl) rfl fun s0 hs0 => ?_
  refine zaf ?_
  refine zah 1 (by simp only [holes, List.cons_append, List.nil_append]; exact rfl) ?_
  refine zac ?_
  refine zaj rfl rfl rfl (op_boxm 9 rfl (ev1 rfl) (fun s v h => by cases h <;> rfl) rfl) (by simp only [upd, zaa, za]; exact rfl) ?_
  refine zae ?_
  refine zaf ?_
  refine zah 1 (by simp only [holes, List.cons_append, List.nil_append]; exact rfl) ?_
  refine zac ?_
  refine zab rfl rfl rfl (op_ldm rfl tb32 (ev1 rfl) rfl rfl) ?_
  refine zaj rfl rfl rfl (zai [] [] [10] rfl (ev1 rfl) (ec (ev1 rfl) en) rfl rfl (told_d l) rfl rfl rfl rfl rfl rfl) (by simp only [upd, zaa, za]; exact rfl) ?_
  refine zae ?_
  refine zak ?_
  refine dwp_hole ?_
  simp only [List.cons_append, List.nil_append]
  refine dwp_rf (FL := [(2, _)]) (st := .ready) (pe := none) [11, 9, 0, 1, 2, 3, 4, 5, 6, 7, 10] [] [] 11 rfl rfl (ev1 rfl) rfl (subF_lk ⟨rfl, trivial⟩) rfl rfl rfl (rs_told_no w h ts hv hg c hcr p hp tol ht l hl hu hc) rfl rfl rfl rfl rfl rfl rfl (by simp) (fun e => ?_) (fun c e => ?_)
  · simp only [upd, zaa, za]
    refine kend [0, 1, 2, 3, 4, 5, 6, 7, 8] (res_none rfl) rfl rfl ?_ ⟨rfl, rfl, rfl, rfl, rfl, rfl, rfl, rfl, rfl, trivial⟩
    rfl
  · cases e
theorem rs_all (w h : Int) (ts : List TL) (hv : CvOk w h ts) (hg : tsRng ts) (c : C4) (hcr : c.rng) (p : P2) (hp : onP w h p = true) (tol : Int) (ht : 0 ≤ tol) (l : List Sp) (hl : l.length ≤ 1000000) (hu : ∀ q ∈ ptsS l, onP w h q = true ∧ (rgF w h ts tol p).has q = true) (hl0 : l.length ≤ 9223372036854775807) : DFun Tryz.prog 38 [.yld 0, .loc 8 0] [.lp 190 [(5, .loc 1 0), (6, .loc 2 0), (7, .loc 3 0), (11, .loc 4 0), (12, .loc 5 0), (14, .loc 6 0), (20, .loc 7 0)] #[126] rsrA rsrB .ready none, .flat 44 (c4 c), .flat 4 [.bool false], .mix 29 [cvD w h (dpR ts)], .flat 3 [.int .i64 tol], .mix 32 [.slf 3 (rgS w h (rgF w h ts tol p)).length ((rgS w h (rgF w h ts tol p)).flatMap s3)], .mix 29 [cvD w h (dpR (putsC w h ts (dtsC c (rgP w h (rgF w h ts tol p)))))], .flat 44 (c4 (getC w ts p.x p.y)), .mix 32 [.slf 3 l.length (l.flatMap s3)]] (.tup []) [.lp 190 [(5, .loc 1 0), (6, .loc 2 0), (7, .loc 3 0), (11, .loc 4 0), (12, .loc 5 0), (14, .loc 6 0), (20, .loc 7 0)] #[126] rsrA rsrB .ready none, .flat 44 (c4 c), .flat 4 [.bool false], .mix 29 [cvD w h (dpR ts)], .flat 3 [.int .i64 tol], .mix 32 [.slf 3 (rgS w h (rgF w h ts tol p)).length ((rgS w h (rgF w h ts tol p)).flatMap s3)], .mix 29 [cvD w h (dpR (putsC w h ts (dtsC c (rgP w h (rgF w h ts tol p)))))], .flat 44 (c4 (getC w ts p.x p.y)), .mix 32 [.slf 3 l.length (l.flatMap s3)]] := by
  by_cases hc : chkS l
  · (try rw [ptsL_ok hc]); exact rs_all_ok w h ts hv hg c hcr p hp tol ht l hl hu hl0 hc
  · (try rw [ptsL_no hc]); exact rs_all_no w h ts hv hg c hcr p hp tol ht l hl hu hc
end Go.Proofs.YtfnhckildfbikaaGreat
namespace Go.Proofs.YtfnhckildfbikaaGreat
set_option maxRecDepth 4000
set_option linter.unusedVariables false
set_option linter.unusedSimpArgs false
open Go.RowKit
attribute [local irreducible] crT crU pcV rgF rgS rgP gtP zFD refE putsC
theorem ar52 : arE Tryz.prog 52 = some (3, 1) := by kernel_rfl
set_option maxRecDepth 4000 in
set_option maxHeartbeats 1000000 in
theorem rests_d (w h : Int) (ts : List TL) (hg : tsRng ts) (p : P2) (tol : Int) (c : C4) (hcr : c.rng) : DFun Tryz.prog 4 [shD w h ts, .val (.agg #[.int .i64 p.x, .int .i64 p.y, .int .i64 tol]), .val (.agg (c4 c).toArray)] [] (.val (.bool true)) [] := by
  refine zan (N := 190) 0 (by kernel_rfl) Tryz.func4 rfl rfl rfl (by simp only [fr0, Nat.zero_add, Nat.reduceAdd]; exact rfl) rfl fun s0 hs0 => ?_
  refine zaf ?_
  refine zah 4 (by simp only [holes, List.cons_append, List.nil_append]; exact rfl) ?_
  refine zac ?_
  refine zaj rfl rfl rfl (op_boxam 0 rfl (ev1 rfl) rfl) (by simp only [upd, zaa, za]; exact rfl) ?_
  refine zaj rfl rfl rfl (op_boxa 1 rfl (ev1 rfl) rfl) (by simp only [upd, zaa, za]; exact rfl) ?_
  refine zaj rfl rfl rfl (op_boxa 2 rfl (ev1 rfl) rfl) (by simp only [upd, zaa, za]; exact rfl) ?_
  refine zaj rfl rfl rfl (op_alloc 3 rfl zr4 rfl) (by simp only [upd, zaa, za]; exact rfl) ?_
  refine zae ?_
  refine zaf ?_
  refine zaf ?_
  refine zac ?_
  refine zab rfl rfl rfl (zai [] [] [] rfl (ev1 rfl) en rfl rfl (wakes_d) rfl rfl rfl rfl rfl rfl) ?_
  refine zab rfl rfl rfl ((op_not rfl (ev1 rfl)).cast (d' := .val (.bool false)) (by kernel_rfl)) ?_
  refine zae ?_
  refine dwp_if_f rfl (rfl) ?_
  refine zal ?_
  refine zaf ?_
  by_cases hr : rightB w h (ts.take 17) = true
  · have hc := rightB_ok hr
    have hle := hc.le
    refine zah 2 (by simp only [holes, List.cons_append, List.nil_append]; exact rfl) ?_
    refine zac ?_
    refine zab rfl rfl rfl (op_ldmw rfl tb24 (ev1 rfl) rfl rfl) ?_
    refine zab rfl rfl rfl (zai [] [] [] rfl (ev1 rfl) (ec (ev1 rfl) en) rfl rfl (lof_y w h ts hc) rfl rfl rfl rfl rfl rfl) ?_
    refine zab rfl rfl rfl (zad (.inl rfl) (ev1 rfl)) ?_
    refine zab rfl rfl rfl (op_ext rfl (ev1 rfl) rfl) ?_
    refine zab rfl rfl rfl (op_ext rfl (ev1 rfl) rfl) ?_
    refine zab rfl rfl rfl (op_ext rfl (ev1 rfl) rfl) ?_
    refine zaj rfl rfl rfl (op_alloc 4 rfl zr29 rfl) (by simp only [upd, zaa, za]; exact rfl) ?_
    refine zaj rfl rfl rfl (op_alloc 5 rfl zr24 rfl) (by simp only [upd, zaa, za]; exact rfl) ?_
    refine walk_s rfl rfl (op_stfm rfl tb29 (ev1 rfl) (ev1 rfl) (fun s v h => by cases h <;> exact ⟨rfl, rfl⟩) rfl (by decide)) (by simp only [upd, zaa, za]; exact rfl) ?_
    refine walk_s rfl rfl (op_stam rfl tb24 (ev1 rfl) (ev1 rfl) rfl rfl rfl rfl) (by simp only [upd, zaa, za]; exact rfl) ?_
    refine zab rfl rfl rfl (zad (.inr rfl) (ev1 rfl)) ?_
    refine zae ?_
    refine zaf ?_
    refine zah 2 (by simp only [holes, List.cons_append, List.nil_append]; exact rfl) ?_
    refine dwp_draw [([], []), ([1], []), ([], []), ([1], []), ([], []), ([], []), ([1], []), ([6], [6]), ([7], [7]), ([6], [6]), ([7], [7])] mixed (by kernel_rfl) ?_
    refine zag rfl rfl (op_ixl rfl ar52 (ev1 rfl) (ev1 rfl) (fun _ => by omega)) ?_
    refine zag rfl rfl (op_ldo rfl tb3 (ev1 rfl) rfl rfl) ?_
    refine zag rfl rfl (op_ixl rfl ar52 (ev1 rfl) (ev1 rfl) (fun _ => by omega)) ?_
    refine zag rfl rfl (op_ldo rfl tb3 (ev1 rfl) rfl rfl) ?_
    refine zag rfl rfl (op_build (ps := [(0, .tmp 40), (1, .tmp 42)]) rfl fl26 zr26 (vc (ev1 rfl) (vc (ev1 rfl) vn)) rfl rfl) ?_
    refine zag rfl rfl (op_ixl rfl ar52 (ev1 rfl) (ev1 rfl) (fun _ => by omega)) ?_
    refine zag rfl rfl (op_ldo rfl tb3 (ev1 rfl) rfl rfl) ?_
    refine lex_w rfl rfl (op_alloc 6 rfl zr26 rfl) rfl (by simp only [upd, zaa, za]; exact rfl) ?_
    refine lex_w rfl rfl (op_alloc 7 rfl zr3 rfl) rfl (by simp only [upd, zaa, za]; exact rfl) ?_
    refine lex_s rfl rfl (op_stwa rfl tb26 (ev1 rfl) (ev1 rfl) rfl rfl rfl rfl) rfl (by simp only [upd, zaa, za]; exact rfl) ?_
    refine lex_s rfl rfl (op_stwi rfl tb3 (ev1 rfl) (ev1 rfl) rfl) rfl (by simp only [upd, zaa, za]; exact rfl) ?_
    refine lex_nil ?_
    refine zaf ?_
    refine zaf ?_
    refine zac ?_
    refine zab rfl rfl rfl (zad (.inl rfl) (ev1 rfl)) ?_
    refine zab rfl rfl rfl ((op_not rfl (ev1 rfl)).cast (d' := .val (.bool false)) (by kernel_rfl)) ?_
    refine zae ?_
    refine dwp_if_f rfl (rfl) ?_
    refine zal ?_
    refine zaf ?_
    by_cases h0 : refE w h [tol] [p] = 0
    · obtain ⟨⟨htl, _⟩, hp⟩ := refE_ok h0
      have hps : onS w h p.x p.y = true := hp
      have hgf := putsC_rng (w := w) (h := h) (dtsC c (rgP w h (rgF w h (ts.take 17) tol p))) (take_rng hg 17) (dts_rng hcr _)
      have hpl := rgP_len hc.may (rgF w h (ts.take 17) tol p)
      obtain ⟨u1, u2⟩ := uni_sub (rgS_chk hc.may _) (rgS_chk hc.may _) (rests_sub hc htl hp c)
      have hdf := dif_few hc.may (ts.take 17) (putsC w h (ts.take 17) (dtsC c (rgP w h (rgF w h (ts.take 17) tol p))))
      have f1 := rg_few2 hc.may (rgF w h (ts.take 17) tol p)
      have f2 := rg_few2 hc.may (rgF w h (putsC w h (ts.take 17) (dtsC c (rgP w h (rgF w h (ts.take 17) tol p)))) tol p)
      have hu : ∀ q ∈ ptsS (rgS w h (rgF w h (ts.take 17) tol p)), onP w h q = true ∧ (rgF w h (ts.take 17) tol p).has q = true := fun q hq => (rgS_pts hc.may _ q).1 hq
      refine zah 1 (by simp only [holes, List.cons_append, List.nil_append]; exact rfl) ?_
      refine zac ?_
      refine zab rfl rfl rfl (op_ldm rfl tb29 (ev1 rfl) rfl rfl) ?_
      refine zab rfl rfl rfl (op_ldw rfl tb26 (ev1 rfl) rfl rfl) ?_
      refine zab rfl rfl rfl (op_ldo rfl tb3 (ev1 rfl) rfl rfl) ?_
      refine zab rfl rfl rfl (zai [] [] [] rfl (ev1 rfl) (ec (ev1 rfl) (ec (ev1 rfl) (ec (ev1 rfl) en))) rfl rfl (region_d w h _ (ts.take 17) (dpR_ok _) hc (take_rng hg 17) p tol h0) rfl rfl rfl rfl rfl rfl) ?_
      refine zab rfl rfl rfl (zad (.inl rfl) (ev1 rfl)) ?_
      refine zab rfl rfl rfl (op_ext rfl (ev1 rfl) rfl) ?_
      refine zab rfl rfl rfl (op_ext rfl (ev1 rfl) rfl) ?_
      refine zaj rfl rfl rfl (op_alloc 8 rfl zr32 rfl) (by simp only [upd, zaa, za]; exact rfl) ?_
      refine walk_s rfl rfl (op_stfm rfl tb32 (ev1 rfl) (ev1 rfl) (fun s v h => by cases h <;> exact ⟨rfl, rfl⟩) rfl (by decide)) (by simp only [upd, zaa, za]; exact rfl) ?_
      refine zab rfl rfl rfl (zad (.inr rfl) (ev1 rfl)) ?_
      refine zae ?_
      refine zaf ?_
      refine zah 1 (by simp only [holes, List.cons_append, List.nil_append]; exact rfl) ?_
      refine zac ?_
      refine zab rfl rfl rfl (op_ldm rfl tb29 (ev1 rfl) rfl rfl) ?_
      refine zab rfl rfl rfl (op_ldw rfl tb26 (ev1 rfl) rfl rfl) ?_
      refine zab rfl rfl rfl (op_ldo rfl tb3 (ev1 rfl) rfl rfl) ?_
      refine zab rfl rfl rfl (op_ldw rfl tb44 (ev1 rfl) rfl rfl) ?_
      refine zab rfl rfl rfl (zai [] [] [] rfl (ev1 rfl) (ec (ev1 rfl) (ec (ev1 rfl) (ec (ev1 rfl) (ec (ev1 rfl) en)))) rfl rfl (fill_d w h _ (ts.take 17) (dpR_ok _) hc (take_rng hg 17) p tol c h0) rfl rfl rfl rfl rfl rfl) ?_
      refine zab rfl rfl rfl (zad (.inl rfl) (ev1 rfl)) ?_
      refine zab rfl rfl rfl (op_ext rfl (ev1 rfl) rfl) ?_
      refine zab rfl rfl rfl (op_ext rfl (ev1 rfl) rfl) ?_
      refine zaj rfl rfl rfl (op_alloc 9 rfl zr29 rfl) (by simp only [upd, zaa, za]; exact rfl) ?_
      refine walk_s rfl rfl (op_stfm rfl tb29 (ev1 rfl) (ev1 rfl) (fun s v h => by cases h <;> exact ⟨rfl, rfl⟩) rfl (by decide)) (by simp only [upd, zaa, za]; exact rfl) ?_
      refine zab rfl rfl rfl (zad (.inr rfl) (ev1 rfl)) ?_
      refine zae ?_
      refine zaf ?_
      refine zaf ?_
      refine zac ?_
      refine zab rfl rfl rfl (zad (.inl rfl) (ev1 rfl)) ?_
      refine zab rfl rfl rfl ((op_neq rfl (ev1 rfl) (ev1 rfl)).cast (d' := .val (.bool false)) (by kernel_rfl)) ?_
      refine zae ?_
      refine dwp_if_f rfl (rfl) ?_
      refine zal ?_
      refine zaf ?_
      refine zac ?_
      refine zab rfl rfl rfl (op_ldm rfl tb29 (ev1 rfl) rfl rfl) ?_
      refine zab rfl rfl rfl (op_ldw rfl tb26 (ev1 rfl) rfl rfl) ?_
      refine zab rfl rfl rfl (op_ldo rfl tb3 (ev1 rfl) rfl rfl) ?_
      refine zab rfl rfl rfl (zai [] [] [] rfl (ev1 rfl) (ec (ev1 rfl) (ec (ev1 rfl) (ec (ev1 rfl) en))) rfl rfl (region_d w h _ (putsC w h (ts.take 17) (dtsC c (rgP w h (rgF w h (ts.take 17) tol p)))) (dpR_ok _) (hc.puts _) hgf p tol h0) rfl rfl rfl rfl rfl rfl) ?_
      refine zab rfl rfl rfl (zad (.inl rfl) (ev1 rfl)) ?_
      refine zab rfl rfl rfl (op_ext rfl (ev1 rfl) rfl) ?_
      refine zab rfl rfl rfl (op_ext rfl (ev1 rfl) rfl) ?_
      refine zab rfl rfl rfl (zad (.inr rfl) (ev1 rfl)) ?_
      refine zab rfl rfl rfl (zad (.inr rfl) (ev1 rfl)) ?_
      refine zae ?_
      refine zaf ?_
      refine zac ?_
      refine zab rfl rfl rfl (op_ldm rfl tb32 (ev1 rfl) rfl rfl) ?_
      refine zab rfl rfl rfl (zad (.inl rfl) (ev1 rfl)) ?_
      refine zab rfl rfl rfl (op_bsm (ps := [(0, .tmp 80), (1, .tmp 81)]) rfl sl85 zr32 rfl (ec (ev1 rfl) (ec (ev1 rfl) en)) rfl (by decide)) ?_
      refine zab rfl rfl rfl (zai [] [] [] rfl (ev1 rfl) (ec (ev1 rfl) en) rfl rfl (union_d [(rgS w h (rgF w h (ts.take 17) tol p)), (rgS w h (rgF w h (putsC w h (ts.take 17) (dtsC c (rgP w h (rgF w h (ts.take 17) tol p)))) tol p))] (by simp; omega)) rfl rfl rfl rfl rfl rfl) ?_
      refine zab rfl rfl rfl (zad (.inl rfl) (ev1 rfl)) ?_
      refine zab rfl rfl rfl ((op_ext rfl (ev1 rfl) rfl).cast (d' := .slf 3 (rgS w h (rgF w h (putsC w h (ts.take 17) (dtsC c (rgP w h (rgF w h (ts.take 17) tol p)))) tol p)).length ((rgS w h (rgF w h (putsC w h (ts.take 17) (dtsC c (rgP w h (rgF w h (ts.take 17) tol p)))) tol p)).flatMap s3)) (by rw [u1])) ?_
      refine zab rfl rfl rfl ((op_ext rfl (ev1 rfl) rfl).cast (d' := .val (.int .i64 0)) (by rw [u2])) ?_
      refine zab rfl rfl rfl (zad (.inr rfl) (ev1 rfl)) ?_
      refine zab rfl rfl rfl (zad (.inr rfl) (ev1 rfl)) ?_
      refine zae ?_
      refine zaf ?_
      refine zaf ?_
      refine zac ?_
      refine zab rfl rfl rfl (zad (.inl rfl) (ev1 rfl)) ?_
      refine zab rfl rfl rfl ((op_neq rfl (ev1 rfl) (ev1 rfl)).cast (d' := .val (.bool false)) (by kernel_rfl)) ?_
      refine zab rfl rfl rfl (zad (.inl rfl) (ev1 rfl)) ?_
      refine walk_k (gd_f (b := false) rfl rfl rfl) rfl rfl rfl (zad (.inl rfl) (ev1 rfl)) (by simp only [upd, zaa, za]; exact rfl) ?_
      refine walk_k (gd_f (b := false) rfl rfl rfl) rfl rfl rfl ((op_neq rfl (ev2 rfl) (ev1 rfl)).cast (d' := .val (.bool false)) (by kernel_rfl)) (by simp only [upd, zaa, za]; exact rfl) ?_
      refine zab rfl rfl rfl ((op_or rfl (ev1 rfl) (ev3 rfl (fun _ => rfl))).cast (d' := .val (.bool false)) (by rfl)) ?_
      refine zab rfl rfl rfl (zad (.inl rfl) (ev1 rfl)) ?_
      refine walk_k (gd_f (b := false) rfl rfl rfl) rfl rfl rfl (zad (.inl rfl) (ev1 rfl)) (by simp only [upd, zaa, za]; exact rfl) ?_
      refine walk_k (gd_f (b := false) rfl rfl rfl) rfl rfl rfl ((op_neq rfl (ev2 rfl) (ev1 rfl)).cast (d' := .val (.bool false)) (by kernel_rfl)) (by simp only [upd, zaa, za]; exact rfl) ?_
      refine zab rfl rfl rfl ((op_or rfl (ev1 rfl) (ev3 rfl (fun _ => rfl))).cast (d' := .val (.bool false)) (by rfl)) ?_
      refine zab rfl rfl rfl (zad (.inl rfl) (ev1 rfl)) ?_
      refine walk_k (gd_f (b := false) rfl rfl rfl) rfl rfl rfl (zad (.inl rfl) (ev1 rfl)) (by simp only [upd, zaa, za]; exact rfl) ?_
      refine walk_k (gd_f (b := false) rfl rfl rfl) rfl rfl rfl (zad (.inl rfl) (ev1 rfl)) (by simp only [upd, zaa, za]; exact rfl) ?_
      refine walk_k (gd_f (b := false) rfl rfl rfl) rfl rfl rfl ((zai [] [] [] rfl (ev1 rfl) (ec (ev2 rfl) (ec (ev2 rfl) en)) rfl rfl (equalS (rgS w h (rgF w h (putsC w h (ts.take 17) (dtsC c (rgP w h (rgF w h (ts.take 17) tol p)))) tol p)) (rgS w h (rgF w h (putsC w h (ts.take 17) (dtsC c (rgP w h (rgF w h (ts.take 17) tol p)))) tol p))) rfl rfl rfl rfl rfl rfl).cast (d' := .val (.bool true)) (by rw [decide_eq_true rfl])) (by simp only [upd, zaa, za]; exact rfl) ?_
      refine walk_k (gd_f (b := false) rfl rfl rfl) rfl rfl rfl ((op_not rfl (ev2 rfl)).cast (d' := .val (.bool false)) (by kernel_rfl)) (by simp only [upd, zaa, za]; exact rfl) ?_
      refine zab rfl rfl rfl ((op_or rfl (ev1 rfl) (ev3 rfl (fun _ => rfl))).cast (d' := .val (.bool false)) (by rfl)) ?_
      refine zae ?_
      refine dwp_if_f rfl (rfl) ?_
      refine zal ?_
      refine zaf ?_
      refine zah 1 (by simp only [holes, List.cons_append, List.nil_append]; exact rfl) ?_
      refine zac ?_
      refine zab rfl rfl rfl (op_ldm rfl tb29 (ev1 rfl) rfl rfl) ?_
      refine zab rfl rfl rfl (op_fa rfl fo26_0 (ev1 rfl)) ?_
      refine zab rfl rfl rfl (op_ldo rfl tb3 (ev1 rfl) rfl rfl) ?_
      refine zab rfl rfl rfl (op_fa rfl fo26_1 (ev1 rfl)) ?_
      refine zab rfl rfl rfl (op_ldo rfl tb3 (ev1 rfl) rfl rfl) ?_
      refine zab rfl rfl rfl (zai [] [] [] rfl (ev1 rfl) (ec (ev1 rfl) (ec (ev1 rfl) (ec (ev1 rfl) en))) rfl rfl (at_d w h _ (ts.take 17) (dpR_ok _) hc p.x p.y) rfl rfl rfl rfl rfl rfl) ?_
      refine zab rfl rfl rfl (zad (.inl rfl) (ev1 rfl)) ?_
      refine zab rfl rfl rfl ((op_ext rfl (ev1 rfl) rfl).cast (d' := .val (.agg (c4 (getC w (ts.take 17) p.x p.y)).toArray)) (by rw [if_pos hps])) ?_
      refine zab rfl rfl rfl (op_ext rfl (ev1 rfl) rfl) ?_
      refine zaj rfl rfl rfl (op_alloc 10 rfl zr44 rfl) (by simp only [upd, zaa, za]; exact rfl) ?_
      refine walk_s rfl rfl (op_stwa rfl tb44 (ev1 rfl) (ev1 rfl) rfl rfl rfl rfl) (by simp only [upd, zaa, za]; exact rfl) ?_
      refine zab rfl rfl rfl (zad (.inr rfl) (ev1 rfl)) ?_
      refine zae ?_
      refine zaf ?_
      refine zaf ?_
      refine zac ?_
      refine zab rfl rfl rfl (op_ldm rfl tb29 (ev1 rfl) rfl rfl) ?_
      refine zab rfl rfl rfl (op_ldm rfl tb29 (ev1 rfl) rfl rfl) ?_
      refine zab rfl rfl rfl (zai [] [] [] rfl (ev1 rfl) (ec (ev1 rfl) (ec (ev1 rfl) en)) rfl rfl (differ_d w h _ _ (ts.take 17) (putsC w h (ts.take 17) (dtsC c (rgP w h (rgF w h (ts.take 17) tol p)))) (dpR_ok _) (dpR_ok _) hc (hc.puts _)) rfl rfl rfl rfl rfl rfl) ?_
      refine zab rfl rfl rfl (op_len rfl sl55 (ev1 rfl)) ?_
      refine zab rfl rfl rfl (zad (.inl rfl) (ev1 rfl)) ?_
      refine zae ?_
      refine zak ?_
      refine dwp_loopS ⟨hs0, rfl⟩ (α := Nat) (fun i => [(115, .val (.int .i64 (i : Int)))]) [(5, _), (6, _), (7, _), (11, _), (12, _), (14, _), (20, _), (113, _), (114, _)] (fun i => []) [_, _, _, _, _, _, _, _, _, _, _] (fun i => i ≤ (difC w h (ts.take 17) (putsC w h (ts.take 17) (dtsC c (rgP w h (rgF w h (ts.take 17) tol p))))).length) (fun i => (difC w h (ts.take 17) (putsC w h (ts.take 17) (dtsC c (rgP w h (rgF w h (ts.take 17) tol p))))).length - i) 0 [0, 1, 2, 3, 4, 5, 6, 7, 8, 9, 10] (Nat.zero_le _) rfl ⟨rfl, rfl, rfl, rfl, rfl, rfl, rfl, rfl, rfl, trivial⟩ ⟨rfl, trivial⟩ ⟨rfl, rfl, rfl, rfl, rfl, rfl, rfl, rfl, rfl, rfl, rfl, trivial⟩ ?_
      intro i hx
      simp only [upd, zaa, za, List.cons_append, List.nil_append]
      have hi0 := hx
      refine zaf ?_
      refine zac ?_
      refine zab rfl rfl rfl (op_lss rfl (ev1 rfl) (ev1 rfl)) ?_
      refine zae ?_
      refine zaf ?_
      refine dwp_cond rfl (fun c5 => ?_) (fun c5 => ?_)
      · try simp only [decide_eq_true_eq, decide_eq_false_iff_not, beq_iff_eq, bne_iff_ne, beq_eq_false_iff_ne, bne_eq_false_iff_eq, Bool.not_eq_true', Bool.not_eq_false', Bool.and_eq_true, Bool.or_eq_true, Bool.or_eq_false_iff, ne_eq, Decidable.not_not, Int.not_lt, Int.not_le] at c5
        refine zal ?_
        refine zaf ?_
        refine zak ?_
        refine zaf ?_
        have hi : i < (difC w h (ts.take 17) (putsC w h (ts.take 17) (dtsC c (rgP w h (rgF w h (ts.take 17) tol p))))).length := by omega
        have hdi := rests_dif hc (List.getElem_mem hi)
        refine zah 1 (by simp only [holes, List.cons_append, List.nil_append]; exact rfl) ?_
        refine zac ?_
        refine zab rfl rfl rfl (op_ixsr (j := i) rfl sl55 (ev1 rfl) (ev1 rfl) (fun _ => rfl) (by decide) (by omega) (by omega)) ?_
        refine zab rfl rfl rfl (op_ldwd rfl tb26 (ev1 rfl) rfl) ?_
        refine zaj rfl rfl rfl (op_alloc 11 rfl zr26 rfl) (by simp only [upd, zaa, za]; exact rfl) ?_
        refine walk_s rfl rfl (op_stwa rfl tb26 (ev1 rfl) (ev1 rfl) rfl rfl rfl rfl) (by simp only [upd, zaa, za]; exact rfl) ?_
        refine zae ?_
        refine zaf ?_
        refine zac ?_
        refine zab rfl rfl rfl (op_ldm rfl tb32 (ev1 rfl) rfl rfl) ?_
        refine zab rfl rfl rfl (op_ldw rfl tb26 (ev1 rfl) rfl rfl) ?_
        refine zab rfl rfl rfl ((zai [] [] [] rfl (ev1 rfl) (ec (ev1 rfl) (ec (ev1 rfl) en)) rfl rfl (has_d (rgS w h (rgF w h (ts.take 17) tol p)) (difC w h (ts.take 17) (putsC w h (ts.take 17) (dtsC c (rgP w h (rgF w h (ts.take 17) tol p)))))[i]) rfl rfl rfl rfl rfl rfl).cast (d' := .val (.bool true)) (by rw [hdi])) ?_
        refine zab rfl rfl rfl ((op_not rfl (ev1 rfl)).cast (d' := .val (.bool false)) (by kernel_rfl)) ?_
        refine zae ?_
        refine dwp_if_f rfl (rfl) ?_
        refine zal ?_
        refine zac ?_
        refine zab rfl rfl rfl (op_add' rfl (ev1 rfl) (ev1 rfl) (fun _ => IntWalk.i64_in _ (by omega))) ?_
        refine zab rfl rfl rfl (zad (.inl rfl) (ev1 rfl)) ?_
        refine zae ?_
        refine ⟨i + 1, [0, 1, 2, 3, 4, 5, 6, 7, 8, 9, 10], by omega, by simp only []; omega, rfl, ⟨rfl, rfl, rfl, rfl, rfl, rfl, rfl, rfl, rfl, rfl, trivial⟩, ⟨rfl, rfl, rfl, rfl, rfl, rfl, rfl, rfl, rfl, rfl, rfl, trivial⟩⟩
      · try simp only [decide_eq_true_eq, decide_eq_false_iff_not, beq_iff_eq, bne_iff_ne, beq_eq_false_iff_ne, bne_eq_false_iff_eq, Bool.not_eq_true', Bool.not_eq_false', Bool.and_eq_true, Bool.or_eq_true, Bool.or_eq_false_iff, ne_eq, Decidable.not_not, Int.not_lt, Int.not_le] at c5
        refine dwp_exit ?_
        refine zaf ?_
        refine zaf ?_
        refine zah 1 (by simp only [holes, List.cons_append, List.nil_append]; exact rfl) ?_
        refine zac ?_
        refine zab rfl rfl rfl (op_ldm rfl tb32 (ev1 rfl) rfl rfl) ?_
        refine zaj rfl rfl rfl (zai [] [] [11] rfl (ev1 rfl) (ec (ev1 rfl) en) rfl rfl (all_d (rgS w h (rgF w h (ts.take 17) tol p)) (by omega)) rfl rfl rfl rfl rfl rfl) (by simp only [upd, zaa, za]; exact rfl) ?_
        refine zae ?_
        refine zak ?_
        refine dwp_hole ?_
        simp only [List.cons_append, List.nil_append]
        refine dwp_rf (FL := [(5, _), (6, _), (7, _), (11, _), (12, _), (14, _), (20, _)]) (st := .ready) (pe := none) [12, 2, 3, 4, 7, 8, 9, 10, 11] [] [] 12 rfl rfl (ev1 rfl) rfl (subF_lk ⟨rfl, rfl, rfl, rfl, rfl, rfl, rfl, trivial⟩) rfl rfl rfl (rs_all w h (ts.take 17) hc (take_rng hg 17) c hcr p hp tol htl (rgS w h (rgF w h (ts.take 17) tol p)) (by omega) hu (by omega)) rfl rfl rfl rfl rfl rfl rfl (by simp) (fun e => ?_) (fun c e => ?_)
        · simp only [upd, zaa, za]
          refine zaf ?_
          refine zac ?_
          refine walk_s rfl rfl (op_stwb rfl tb4 (ev1 rfl) (ev1 rfl) rfl) (by simp only [upd, zaa, za]; exact rfl) ?_
          refine zae ?_
          refine dwp_ret ?_
          refine kend0 (rs1 rfl (rv_1 tb4 rfl rfl rfl)) rfl ?_
          rfl
        · cases e
    · refine zah 1 (by simp only [holes, List.cons_append, List.nil_append]; exact rfl) ?_
      refine zac ?_
      refine zab rfl rfl rfl (op_ldm rfl tb29 (ev1 rfl) rfl rfl) ?_
      refine zab rfl rfl rfl (op_ldw rfl tb26 (ev1 rfl) rfl rfl) ?_
      refine zab rfl rfl rfl (op_ldo rfl tb3 (ev1 rfl) rfl rfl) ?_
      refine zab rfl rfl rfl (zai [] [] [] rfl (ev1 rfl) (ec (ev1 rfl) (ec (ev1 rfl) (ec (ev1 rfl) en))) rfl rfl (region_n w h _ (ts.take 17) (dpR_ok _) hc (take_rng hg 17) p tol h0) rfl rfl rfl rfl rfl rfl) ?_
      refine zab rfl rfl rfl (zad (.inl rfl) (ev1 rfl)) ?_
      refine zab rfl rfl rfl (op_ext rfl (ev1 rfl) rfl) ?_
      refine zab rfl rfl rfl (op_ext rfl (ev1 rfl) rfl) ?_
      refine zaj rfl rfl rfl (op_alloc 8 rfl zr32 rfl) (by simp only [upd, zaa, za]; exact rfl) ?_
      refine walk_s rfl rfl (op_st rfl tb32 (ev1 rfl) (ev1 rfl) rfl rfl rfl rfl (by decide) rfl) (by simp only [upd, zaa, za]; exact rfl) ?_
      refine zab rfl rfl rfl (zad (.inr rfl) (ev1 rfl)) ?_
      refine zae ?_
      refine zaf ?_
      refine zah 1 (by simp only [holes, List.cons_append, List.nil_append]; exact rfl) ?_
      refine zac ?_
      refine zab rfl rfl rfl (op_ldm rfl tb29 (ev1 rfl) rfl rfl) ?_
      refine zab rfl rfl rfl (op_ldw rfl tb26 (ev1 rfl) rfl rfl) ?_
      refine zab rfl rfl rfl (op_ldo rfl tb3 (ev1 rfl) rfl rfl) ?_
      refine zab rfl rfl rfl (op_ldw rfl tb44 (ev1 rfl) rfl rfl) ?_
      refine zab rfl rfl rfl (zai [] [] [] rfl (ev1 rfl) (ec (ev1 rfl) (ec (ev1 rfl) (ec (ev1 rfl) (ec (ev1 rfl) en)))) rfl rfl (fill_n w h _ (ts.take 17) (dpR_ok _) hc (take_rng hg 17) p tol c h0) rfl rfl rfl rfl rfl rfl) ?_
      refine zab rfl rfl rfl (zad (.inl rfl) (ev1 rfl)) ?_
      refine zab rfl rfl rfl (op_ext rfl (ev1 rfl) rfl) ?_
      refine zab rfl rfl rfl (op_ext rfl (ev1 rfl) rfl) ?_
      refine zaj rfl rfl rfl (op_alloc 9 rfl zr29 rfl) (by simp only [upd, zaa, za]; exact rfl) ?_
      refine walk_s rfl rfl (op_st rfl tb29 (ev1 rfl) (ev1 rfl) rfl rfl rfl rfl (by decide) rfl) (by simp only [upd, zaa, za]; exact rfl) ?_
      refine zab rfl rfl rfl (zad (.inr rfl) (ev1 rfl)) ?_
      refine zae ?_
      refine zaf ?_
      refine zaf ?_
      refine zac ?_
      refine zab rfl rfl rfl (zad (.inl rfl) (ev1 rfl)) ?_
      refine zab rfl rfl rfl (op_neq rfl (ev1 rfl) (ev1 rfl)) ?_
      refine zae ?_
      refine dwp_if_t rfl (by simpa using h0) ?_
      refine zaf ?_
      refine zac ?_
      refine zab rfl rfl rfl (zad (.inl rfl) (ev1 rfl)) ?_
      refine zab rfl rfl rfl (zad (.inl rfl) (ev1 rfl)) ?_
      refine zab rfl rfl rfl ((op_eql rfl (ev1 rfl) (ev1 rfl)).cast (d' := .val (.bool true)) (by simp)) ?_
      refine zab rfl rfl rfl (zad (.inl rfl) (ev1 rfl)) ?_
      refine walk_k (gd_t (b := true) rfl rfl rfl) rfl rfl rfl ((op_ldo rfl tb29 (ev1 rfl) rfl rfl).cast (d' := .val (.pointer none)) (by rfl)) (by simp only [upd, zaa, za]; exact rfl) ?_
      refine walk_k (gd_t (b := true) rfl rfl rfl) rfl rfl rfl (op_pnil0 rfl pt29 (ev2 rfl)) (by simp only [upd, zaa, za]; exact rfl) ?_
      refine zab rfl rfl rfl ((op_and rfl (ev1 rfl) (ev3 rfl (fun _ => rfl))).cast (d' := .val (.bool true)) (by rfl)) ?_
      refine walk_s rfl rfl (op_stwb rfl tb4 (ev1 rfl) (ev1 rfl) rfl) (by simp only [upd, zaa, za]; exact rfl) ?_
      refine zae ?_
      refine dwp_ret ?_
      refine kend0 (rs1 rfl (rv_1 tb4 rfl rfl rfl)) rfl ?_
      rfl
  · refine zah 2 (by simp only [holes, List.cons_append, List.nil_append]; exact rfl) ?_
    refine zac ?_
    refine zab rfl rfl rfl (op_ldmw rfl tb24 (ev1 rfl) rfl rfl) ?_
    refine zab rfl rfl rfl (zai [] [] [] rfl (ev1 rfl) (ec (ev1 rfl) en) rfl rfl (lof_n w h ts (by simpa using hr)) rfl rfl rfl rfl rfl rfl) ?_
    refine zab rfl rfl rfl (zad (.inl rfl) (ev1 rfl)) ?_
    refine zab rfl rfl rfl (op_ext rfl (ev1 rfl) rfl) ?_
    refine zab rfl rfl rfl (op_ext rfl (ev1 rfl) rfl) ?_
    refine zab rfl rfl rfl (op_ext rfl (ev1 rfl) rfl) ?_
    refine zaj rfl rfl rfl (op_alloc 4 rfl zr29 rfl) (by simp only [upd, zaa, za]; exact rfl) ?_
    refine zaj rfl rfl rfl (op_alloc 5 rfl zr24 rfl) (by simp only [upd, zaa, za]; exact rfl) ?_
    refine walk_s rfl rfl (op_st rfl tb29 (ev1 rfl) (ev1 rfl) rfl rfl rfl rfl (by decide) rfl) (by simp only [upd, zaa, za]; exact rfl) ?_
    refine walk_s rfl rfl (op_stam rfl tb24 (ev1 rfl) (ev1 rfl) rfl rfl rfl rfl) (by simp only [upd, zaa, za]; exact rfl) ?_
    refine zab rfl rfl rfl (zad (.inr rfl) (ev1 rfl)) ?_
    refine zae ?_
    refine zaf ?_
    refine zah 2 (by simp only [holes, List.cons_append, List.nil_append]; exact rfl) ?_
    refine dwp_draw [([], []), ([1], []), ([], []), ([1], []), ([], []), ([], []), ([1], []), ([6], [6]), ([7], [7]), ([6], [6]), ([7], [7])] mixed (by kernel_rfl) ?_
    refine zag rfl rfl (op_ixl rfl ar52 (ev1 rfl) (ev1 rfl) (fun _ => by omega)) ?_
    refine zag rfl rfl (op_ldo rfl tb3 (ev1 rfl) rfl rfl) ?_
    refine zag rfl rfl (op_ixl rfl ar52 (ev1 rfl) (ev1 rfl) (fun _ => by omega)) ?_
    refine zag rfl rfl (op_ldo rfl tb3 (ev1 rfl) rfl rfl) ?_
    refine zag rfl rfl (op_build (ps := [(0, .tmp 40), (1, .tmp 42)]) rfl fl26 zr26 (vc (ev1 rfl) (vc (ev1 rfl) vn)) rfl rfl) ?_
    refine zag rfl rfl (op_ixl rfl ar52 (ev1 rfl) (ev1 rfl) (fun _ => by omega)) ?_
    refine zag rfl rfl (op_ldo rfl tb3 (ev1 rfl) rfl rfl) ?_
    refine lex_w rfl rfl (op_alloc 6 rfl zr26 rfl) rfl (by simp only [upd, zaa, za]; exact rfl) ?_
    refine lex_w rfl rfl (op_alloc 7 rfl zr3 rfl) rfl (by simp only [upd, zaa, za]; exact rfl) ?_
    refine lex_s rfl rfl (op_stwa rfl tb26 (ev1 rfl) (ev1 rfl) rfl rfl rfl rfl) rfl (by simp only [upd, zaa, za]; exact rfl) ?_
    refine lex_s rfl rfl (op_stwi rfl tb3 (ev1 rfl) (ev1 rfl) rfl) rfl (by simp only [upd, zaa, za]; exact rfl) ?_
    refine lex_nil ?_
    refine zaf ?_
    refine zaf ?_
    refine zac ?_
    refine zab rfl rfl rfl (zad (.inl rfl) (ev1 rfl)) ?_
    refine zab rfl rfl rfl ((op_not rfl (ev1 rfl)).cast (d' := .val (.bool true)) (by kernel_rfl)) ?_
    refine zae ?_
    refine dwp_if_t rfl (rfl) ?_
    refine zaf ?_
    refine zac ?_
    refine walk_s rfl rfl (op_stwb rfl tb4 (ev1 rfl) (ev1 rfl) rfl) (by simp only [upd, zaa, za]; exact rfl) ?_
    refine zae ?_
    refine dwp_ret ?_
    refine kend0 (rs1 rfl (rv_1 tb4 rfl rfl rfl)) rfl ?_
    rfl
end Go.Proofs.YtfnhckildfbikaaGreat
