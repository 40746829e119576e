/- Families: memory of one's own with a symbolic number of blocks: a row joins a family; rows of a family measured, looked into, written. No condition. -/
import Derived.Test.YtgomklemldldiaaLzs
import Derived.Test.YtgomklemldldiaaLsu
import Derived.Test.YtgomklemldldiaaLdp
namespace Go.Proofs.Ytgomklemldldiaa
set_option linter.unusedVariables false
set_option linter.unusedSimpArgs false
open Go.RowKit

def Mem.blk : Mem → Blk
  | .gone => .gone
  | .flat T L => .flat T L
  | .arr T sz n L => .arr T sz n L
theorem mem_blk {s : St} {h : Value} {B : Mem} (hk : BlkOk s h B.blk) : MemOk s.w h B := by cases B <;> exact hk
theorem blk_live (B : Mem) : B.blk.live = B.live := by cases B <;> rfl
theorem blk_owns {B : Mem} {h : Value} {b : Nat} : owns B.blk h b ↔ hb h = some b := by cases B <;> exact Iff.rfl

/-- a block joins a family -/
theorem tr_abs {s : St} (ho : Ok s) {i j : Nat} {Bs : List Mem} {B : Mem} {hs : List Value} {h : Value} (hi : s.M[i]? = some (.fam Bs)) (hj : s.M[j]? = some B.blk) (hl : B.live = true) (hβi : s.β[i]? = some (.tuple hs.toArray)) (hβj : s.β[j]? = some h) :
    Tr s ⟨s.β.set i (.tuple (hs ++ [h]).toArray), s.I, (s.M.set j .gone).set i (.fam (Bs ++ [B])), s.w⟩ := by
  have hne : i ≠ j := fun e => by subst e; rw [hi] at hj; cases B <;> cases hj
  have hil := (List.getElem?_eq_some_iff.1 hi).1
  have hjl := (List.getElem?_eq_some_iff.1 hj).1
  have hf := fam_at (k := 0) ho hi hβi
  have hlen := hf.len
  have hm : MemOk s.w h B := mem_blk (ho.blk j _ h hj hβj)
  have other : ∀ b, owns (.fam (Bs ++ [B])) (.tuple (hs ++ [h]).toArray) b → owns (.fam Bs) (.tuple hs.toArray) b ∨ hb h = some b := by
    rintro b ⟨hs', k, B', u, e1, e2, e3, e4, e5⟩
    have e1 : hs ++ [h] = hs' := by simpa using e1
    subst e1
    by_cases hk : k < Bs.length
    · rw [List.getElem?_append_left hk] at e2
      rw [List.getElem?_append_left (by omega)] at e4
      exact .inl ⟨hs, k, B', u, rfl, e2, e3, e4, e5⟩
    · rw [List.getElem?_append_right (by omega)] at e2 e4
      have hk0 : k - hs.length = 0 := by have := (List.getElem?_eq_some_iff.1 e4).1; simp at this; omega
      rw [hk0] at e4
      simp at e4
      subst e4
      exact .inr e5
  have lvi : ∀ b, owns (.fam Bs) (.tuple hs.toArray) b → Live s b := fun b hb => live_of hi rfl hβi hb
  have lvj : ∀ b, hb h = some b → Live s b := fun b hb => live_of hj (by rw [blk_live]; exact hl) hβj (blk_owns.2 hb)
  have ne : ∀ (k : Nat) kb, (s.M.set j .gone)[k]? = some kb → kb.live = true → j ≠ k ∧ s.M[k]? = some kb := fun k kb hkb hlv => by
    by_cases hk : j = k
    · subst hk
      rw [List.getElem?_set_self hjl] at hkb
      cases hkb; cases hlv
    · rw [List.getElem?_set_ne hk] at hkb; exact ⟨hk, hkb⟩
  refine step_set ho i (s.M.set j .gone) _ _ s.w (by simp) (fun k kb hkb => ?_) hil (.inr (.inr ⟨hs, hs ++ [h], hβi, rfl, fun k u hu => ?_⟩)) (by simp) ⟨_, rfl, ?_⟩ (fun b hb k kb hh hne' q1 q2 q3 q4 => ?_) (fun b hb => .inr ((other b hb).elim (lvi b) (lvj b))) (fun b hb => (ho.lt b ((other b hb).elim (lvi b) (lvj b))).1) (fun _ => False) (fun _ h => h.elim) (fun _ _ _ _ => rfl) rfl rfl rfl (Nat.le_refl _)
  · by_cases hk : j = k
    · subst hk
      rw [List.getElem?_set_self hjl] at hkb
      exact .inr (Option.some.inj hkb).symm
    · rw [List.getElem?_set_ne hk] at hkb; exact .inl hkb
  · rw [List.getElem?_append_left (List.getElem?_eq_some_iff.1 hu).1]; exact hu
  · have split : ∀ (k : Nat) B' u, (Bs ++ [B])[k]? = some B' → (hs ++ [h])[k]? = some u → (Bs[k]? = some B' ∧ hs[k]? = some u) ∨ (k = Bs.length ∧ B' = B ∧ u = h) := by
      intro k B' u e2 e4
      by_cases hk : k < Bs.length
      · rw [List.getElem?_append_left hk] at e2
        rw [List.getElem?_append_left (by omega)] at e4
        exact .inl ⟨e2, e4⟩
      · rw [List.getElem?_append_right (by omega)] at e2 e4
        have hk0 : k - Bs.length = 0 := by have := (List.getElem?_eq_some_iff.1 e2).1; simp at this; omega
        rw [show k - hs.length = 0 by omega] at e4
        rw [hk0] at e2
        simp at e2 e4
        exact .inr ⟨by omega, e2.symm, e4.symm⟩
    refine ⟨by simp [hlen], fun k B' u e2 e4 => ?_, fun k k' B1 B2 u1 u2 b e1 l1 e2 e3 f1 l2 f2 f3 => ?_⟩
    · rcases split k B' u e2 e4 with ⟨a, c⟩ | ⟨_, rfl, rfl⟩
      · exact hf.ok k B' u a c
      · exact hm
    · rcases split k B1 u1 e1 e2 with ⟨a, c⟩ | ⟨rfl, rfl, rfl⟩ <;> rcases split k' B2 u2 f1 f2 with ⟨a', c'⟩ | ⟨rfl, rfl, rfl⟩
      · exact hf.inj k k' B1 B2 u1 u2 b a l1 c e3 a' l2 c' f3
      · exact absurd (ho.inj i j _ _ _ _ b hi rfl hβi ⟨hs, k, B1, u1, rfl, a, l1, c, e3⟩ hj (by rw [blk_live]; exact hl) hβj (blk_owns.2 f3)) hne
      · exact absurd (ho.inj i j _ _ _ _ b hi rfl hβi ⟨hs, k', B2, u2, rfl, a', l2, c', f3⟩ hj (by rw [blk_live]; exact hl) hβj (blk_owns.2 e3)) hne
      · rfl
  · obtain ⟨hjk, q1⟩ := ne k kb q1 q2
    rcases other b hb with h1 | h1
    · exact hne' (ho.inj i k _ kb _ hh b hi rfl hβi h1 q1 q2 q3 q4).symm
    · exact hjk (ho.inj j k _ kb _ hh b hj (by rw [blk_live]; exact hl) hβj (blk_owns.2 h1) q1 q2 q3 q4)

/-- an empty family -/
theorem tr_fam {s : St} (ho : Ok s) {j : Nat} (hj : s.M[j]? = some .hole) : Tr s ⟨s.β.set j (.tuple #[]), s.I, s.M.set j (.fam []), s.w⟩ := by
  have hjl : j < s.M.length := (List.getElem?_eq_some_iff.1 hj).1
  have hβ : s.β[j]? = some .nilFunc := by
    have hjb : j < s.β.length := by rw [ho.len]; exact hjl
    have e : s.β[j]? = some s.β[j] := List.getElem?_eq_getElem hjb
    have : s.β[j] = .nilFunc := ho.blk j .hole _ hj e
    rw [e, this]
  have no : ∀ b, ¬ owns (.fam []) (.tuple #[]) b := by
    rintro b ⟨hs, k, B, u, e1, e2, _⟩
    simp at e2
  exact step_set ho j s.M (.tuple #[]) (.fam []) s.w rfl (fun i k h => .inl h) hjl (.inl hβ) (by simp) ⟨[], rfl, rfl, fun k B u h => by simp at h, fun k k' B B' u u' b h => by simp at h⟩ (fun b hb => (no b hb).elim) (fun b hb => (no b hb).elim) (fun b hb => (no b hb).elim) (fun _ => False) (fun _ h => h.elim) (fun _ _ _ _ => rfl) rfl rfl rfl (Nat.le_refl _)

section
variable {P : Program} {s0 : St} {n : Cx}
theorem inv_fam {F : Fr} {M : List Blk} {a : Act} {w : World} {j : Nat} (h : Inv s0 n F M a w) (hj : M[j]? = some .hole) : Inv s0 n F (M.set j (.fam [])) a w := by
  obtain ⟨h0, s, rfl, rfl, h3, h4, h5, h6⟩ := h
  have tt := tr_fam h3.ok hj
  exact ⟨h0, ⟨s.β.set j (.tuple #[]), s.I, s.M.set j (.fam []), s.w⟩, rfl, rfl, h3.trans tt, fun x d hd => (h4 x d hd).mono h3.ok tt, h5, h6.mono h3.ok tt⟩
/-- an empty family is laid -/
theorem dwp_fam {c : Code} {F : Fr} {M M' : List Blk} {K : Cont} (j : Nat) (hj : M[j]? = some .hole) (hM' : M.set j (.fam []) = M') (h : dwp P s0 n c F M' K) : dwp P s0 n c F M K := by
  subst hM'
  exact fun a w hi => h a w (inv_fam hi hj)
end

theorem okσ_range (m : Nat) : okσ m (List.range m) = true := by
  simp only [okσ, Bool.and_eq_true, decide_eq_true_eq, List.all_eq_true, List.mem_range, beq_iff_eq]
  exact ⟨fun x h => List.getElem?_range h, List.nodup_range⟩
theorem ltL_mem {m : Nat} : ∀ (l : List D) (j : Nat) d, D.ltL m l = true → l[j]? = some d → d.lt m = true
  | [], j, d, _, h => by simp at h
  | x :: l, j, d, h, hj => by
    simp only [D.ltL, Bool.and_eq_true] at h
    cases j with
    | zero => simp at hj; subst hj; exact h.1
    | succ j => simp at hj; exact ltL_mem l j d h.2 hj
/-- **What is handed back joins a family**: the contract of a function whose result is a new row of its own, where the caller has a family. -/
theorem DFun.abs {P : Program} {f : FuncId} {args : List D} {Min Mout : List Blk} {B : Mem} {Bs : List Mem} (m : Nat) {wr : List (Nat × Blk)} {d : D} {g : Nat → Nat → D} (h : DFun P f args Min d (Mout ++ [B.blk])) (hm : Min.length = m) (hargs : D.ltL m args = true) (hl : B.live = true)
    (hlive : Min.all (·.live) = true) (hn : decide (List.range m ++ [m + 1]).Nodup = true)
    (hMin : vwMs (List.range m) nov (Min ++ [.fam Bs, .hole]) (List.range m) = some Min)
    (hwr : wrOf (List.range m ++ [m + 1]) (List.range m ++ [m + 1]) (Mout ++ [B.blk]) = some wr) (hupd : upd (Min ++ [.fam Bs, .hole]) wr = Mout ++ [.fam Bs, B.blk])
    {d' : D} (hsb : sb (List.range m ++ [m + 1]) d = some d') (hd' : ∀ (s : St) v, Rep s d' v → s.M[m + 1]? = some .gone ∨ True → ∀ (hs : List Value), s.β[m]? = some (.tuple hs.toArray) → (∀ u, s.β[m + 1]? = some u → hs[Bs.length]? = some u) → Rep s (g m Bs.length) v)
    (hset : ((Mout ++ [.fam Bs, B.blk]).set (m + 1) .gone).set m (.fam (Bs ++ [B])) = Mout ++ [.fam (Bs ++ [B]), .gone])
    (hout : vwMs (List.range (m + 1)) nov (Mout ++ [.fam (Bs ++ [B]), .gone]) (List.range (m + 1)) = some (Mout ++ [.fam (Bs ++ [B])])) (hok : okσ (m + 1) (List.range (m + 1)) = true) (hg : vw (List.range (m + 1)) nov (Mout ++ [.fam (Bs ++ [B]), .gone]) (g m Bs.length) = some (g m Bs.length))
    (hMl : Mout.length = m) : DFun P f args (Min ++ [.fam Bs]) (g m Bs.length) (Mout ++ [.fam (Bs ++ [B])]) := by
  refine ⟨h.1, fun s vs ho hM hr => ?_⟩
  have t1 := step_hole ho
  obtain ⟨s1, hs1⟩ : ∃ s1 : St, s1 = ⟨s.β ++ [.nilFunc], s.I, s.M ++ [.hole], s.w⟩ := ⟨_, rfl⟩
  rw [← hs1] at t1
  have hM1 : s1.M = Min ++ [.fam Bs, .hole] := by rw [hs1, hM]; simp
  have hw1 : s1.w = s.w := by rw [hs1]
  have hn' : (List.range m ++ [m + 1]).Nodup := of_decide_eq_true hn
  have hnσ := (List.nodup_append.1 hn').1
  have hMin1 : vwMs (List.range m) nov s1.M (List.range m) = some Min := by rw [hM1]; exact hMin
  have hokm : okσ m (List.range m) = true := okσ_range m
  have hargs1 : Reps (vst s1 (List.range m) nov Min) args vs := ⟨hr.1, fun j d v h1 h2 => vw_rep t1.ok ((hr.2 j d v h1 h2).mono ho t1) d (vw_lt hokm d (ltL_mem args j d hargs h1))⟩
  have hc := h.2 (vst s1 (List.range m) nov Min) vs (ok_vst t1.ok hMin1 hnσ) rfl hargs1
  have hcw : (vst s1 (List.range m) nov Min).w = s.w := hw1
  rw [hcw] at hc
  refine Calls.mono hc ?_
  rintro e w' ⟨s2, rfl, ht, hres⟩
  obtain ⟨v, rfl, hrep, hM2⟩ : ∃ v, e = .returned v ∧ Rep s2 d v ∧ s2.M = Mout ++ [B.blk] := by
    rcases hres with ⟨dd, v, h1, h2, h3, h4⟩ | ⟨_, _, _, _, hno⟩
    · exact ⟨v, h1, h3 ▸ h2, h4⟩
    · exact hno.elim
  have hν : ∀ i ∈ [m + 1], s1.M[i]? = some .hole := fun i hi => by
    simp at hi; subst hi; rw [hM1, List.getElem?_append_right (by omega), hm, show m + 1 - m = 1 by omega]; rfl
  obtain ⟨q1, q2⟩ := call_back (ν := [m + 1]) (M3 := upd s1.M wr) t1.ok hMin1 hlive hn' hν ht hM2 hwr rfl (fun ⟨_, h⟩ => by cases h)
  obtain ⟨s3, hs3⟩ : ∃ s3 : St, s3 = back s1 s2 (List.range m) nov [m + 1] (upd s1.M wr) := ⟨_, rfl⟩
  have q3 := q2 _ v _ hrep (fun ⟨_, h⟩ => by cases h) hsb
  rw [← hs3] at q1 q3
  have hM3 : s3.M = Mout ++ [.fam Bs, B.blk] := by rw [hs3]; show upd s1.M wr = _; rw [hM1, hupd]
  have hfam : s3.M[m]? = some (.fam Bs) := by rw [hM3, List.getElem?_append_right (by omega), hMl, Nat.sub_self]; rfl
  have harr : s3.M[m + 1]? = some B.blk := by rw [hM3, List.getElem?_append_right (by omega), hMl, show m + 1 - m = 1 by omega]; rfl
  have hlβ := q1.ok.len
  have hm1 : m + 1 < s3.M.length := (List.getElem?_eq_some_iff.1 harr).1
  obtain ⟨x, hx⟩ : ∃ x, s3.β[m]? = some x := ⟨_, List.getElem?_eq_getElem (by rw [hlβ]; omega)⟩
  obtain ⟨y, hy⟩ : ∃ y, s3.β[m + 1]? = some y := ⟨_, List.getElem?_eq_getElem (by rw [hlβ]; exact hm1)⟩
  obtain ⟨hs, rfl, hfo⟩ := q1.ok.blk m _ x hfam hx
  have t4 := tr_abs q1.ok hfam harr hl hx hy
  obtain ⟨s4, hs4⟩ : ∃ s4 : St, s4 = ⟨s3.β.set m (.tuple (hs ++ [y]).toArray), s3.I, (s3.M.set (m + 1) .gone).set m (.fam (Bs ++ [B])), s3.w⟩ := ⟨_, rfl⟩
  rw [← hs4] at t4
  have hM4 : s4.M = Mout ++ [.fam (Bs ++ [B]), .gone] := by rw [hs4]; show (s3.M.set _ _).set _ _ = _; rw [hM3, hset]
  have r4 := q3.mono q1.ok t4
  have r5 : Rep s4 (g m Bs.length) v := by
    refine hd' s4 v r4 (.inr trivial) (hs ++ [y]) (by rw [hs4]; simp only; rw [List.getElem?_set_self (by rw [hlβ]; omega)]) fun u hu => ?_
    rw [hs4] at hu
    simp only at hu
    rw [List.getElem?_set_ne (by omega), hy] at hu
    cases hu
    rw [List.getElem?_append_right (by rw [hfo.len]; exact Nat.le_refl _), hfo.len, Nat.sub_self]
    rfl
  have hout4 : vwMs (List.range (m + 1)) nov s4.M (List.range (m + 1)) = some (Mout ++ [.fam (Bs ++ [B])]) := by rw [hM4]; exact hout
  have tall := (t1.trans q1).trans t4
  refine ⟨vst s4 (List.range (m + 1)) nov _, ?_, tr_vst ho tall hout4 (by rw [hM]; simp [hm]) hok, .inl ⟨_, v, rfl, vw_rep t4.ok r5 _ (by rw [hM4]; exact hg), rfl, rfl⟩⟩
  show s4.w = s2.w
  rw [hs4, hs3]; rfl

/-- .. of a row -/
theorem DFun.absR {P : Program} {f : FuncId} {args : List D} {Min Mout : List Blk} {T : TypeId} {sz q : Nat} {L : List Value} (Bs : List Mem) (m : Nat) {wr : List (Nat × Blk)} (h : DFun P f args Min (.arr m) (Mout ++ [.arr T sz q L])) (hm : Min.length = m) (hargs : D.ltL m args = true)
    (hlive : Min.all (·.live) = true)
    (hMin : vwMs (List.range m) nov (Min ++ [.fam Bs, .hole]) (List.range m) = some Min)
    (hwr : wrOf (List.range m ++ [m + 1]) (List.range m ++ [m + 1]) (Mout ++ [.arr T sz q L]) = some wr) (hupd : upd (Min ++ [.fam Bs, .hole]) wr = Mout ++ [.fam Bs, .arr T sz q L])
    (hset : ((Mout ++ [Blk.fam Bs, Blk.arr T sz q L]).set (m + 1) .gone).set m (.fam (Bs ++ [Mem.arr T sz q L])) = Mout ++ [.fam (Bs ++ [.arr T sz q L]), .gone])
    (hout : vwMs (List.range (m + 1)) nov (Mout ++ [.fam (Bs ++ [.arr T sz q L]), .gone]) (List.range (m + 1)) = some (Mout ++ [.fam (Bs ++ [.arr T sz q L])]))
    (hMl : Mout.length = m) : DFun P f args (Min ++ [.fam Bs]) (.farr m Bs.length) (Mout ++ [.fam (Bs ++ [.arr T sz q L])]) := by
  refine DFun.abs (B := Mem.arr T sz q L) (d' := .arr (m + 1)) (g := fun i k => .farr i k) m h hm hargs rfl hlive ?_ hMin hwr hupd ?_ (fun s v hr _ hs h1 h2 => ?_) hset hout ?_ ?_ hMl
  · simp [List.nodup_append, List.nodup_range]; omega
  · simp [sb]
  · cases hr with
    | arr h => exact .farr h1 (h2 _ h)
  · exact okσ_range _
  · have hp : pos (List.range (m + 1)) m = some m := pos_of _ m m List.nodup_range (by simp)
    unfold vw; rw [hp]
end Go.Proofs.Ytgomklemldldiaa
