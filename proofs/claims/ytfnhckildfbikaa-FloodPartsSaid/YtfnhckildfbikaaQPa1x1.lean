/- What is known of a value, told otherwise: nil slices as rows of nothing, plain structs as lists of cells; how many parts; the document: places, colours, neighbours; the document: spans; the document: how many parts; the document: how many parts, whole; what holds ahead of each law: flood, whole; the law: parts; arguments that are opened. No condition. -/
import Derived.Test.YtfnhckildfbikaaQ6
import Derived.Test.YtfnhckildfbikaaRows
namespace Go.Proofs.Ytfnhckildfbikaa
set_option linter.unusedVariables false
set_option linter.unusedSimpArgs false
open Go.RowKit
section
variable {P : Program} {s0 : St} {n : Cx}
/-- .. of what a slot holds -/
theorem dwp_wk {c : Code} {F : Fr} {M : List Blk} {K : Cont} {d d' : D} (t : Nat) (ht : lk F t = some d) (hw : Wk d d') (h : dwp P s0 n c ((t, d') :: F) M K) : dwp P s0 n c F M K := by
  intro a w hi
  refine h a w ?_
  obtain ⟨h0, s, h1, h2, h3, h4, h5, h6⟩ := hi
  refine ⟨h0, s, h1, h2, h3, fun x e he => ?_, h5, h6⟩
  rw [lk_cons] at he
  split at he
  · rename_i e'
    subst e'
    obtain rfl := Option.some.inj he
    exact hw s _ (h4 t _ ht)
  · exact h4 x e he
end
section
variable {P : Program} {pc : Bool} {o : Oper} {F : Fr} {M : List Blk} {T : TypeId} {x : Operand}
end
end Go.Proofs.Ytfnhckildfbikaa
namespace Go.Proofs.Ytfnhckildfbikaa
set_option maxRecDepth 4000
set_option linter.unusedVariables false
set_option linter.unusedSimpArgs false
open Go.RowKit
attribute [local irreducible] zFD srL goF bfsF
attribute [local irreducible] spF spN prK
set_option maxRecDepth 4000 in
set_option maxHeartbeats 1000000 in
theorem parts_n (w h : Int) (ds : List D) (ts : List TL) (hr : RowOk ds ts) (hc : CvOk w h ts) (hg : tsRng ts) (l : List Int) (h0 : (refE w h l []) ≠ 0) : DFun Try.prog 20 [cvD w h ds, .slf 1 l.length (l.flatMap iV)] [] (.tup [.val (.slice none 0 0), .val (.int .i64 (refE w h l []))]) [] := by
  refine zan (N := 39) 0 (by kernel_rfl) Try.func20 rfl rfl rfl (by simp only [fr0, Nat.zero_add, Nat.reduceAdd]; exact rfl) rfl fun s0 hs0 => ?_
  refine dwp_len (t := 1) rfl fun hl1 hL1 => ?_
  refine zaf ?_
  refine zai 1 (by simp only [holes, List.cons_append, List.nil_append]; exact rfl) ?_
  refine zad ?_
  refine zaj rfl rfl rfl (op_boxm 0 rfl (ev1 rfl) (fun s v h => by cases h <;> rfl) rfl) (by simp only [upd, zaa, za]; exact rfl) ?_
  refine zab rfl rfl rfl (zac (.inr rfl) (ev1 rfl)) ?_
  refine zab rfl rfl rfl (zac (.inr rfl) (ev1 rfl)) ?_
  refine zae ?_
  refine zaf ?_
  refine zaf ?_
  refine zad ?_
  refine zab rfl rfl rfl (op_ldm rfl tb29 (ev1 rfl) rfl rfl) ?_
  refine zab rfl rfl rfl (zac (.inl rfl) (ev1 rfl)) ?_
  refine zab rfl rfl rfl (zah [] [] [] rfl (ev1 rfl) (ec (ev1 rfl) (ec (ev1 rfl) (ec (evnil 2 (ev1 rfl)) en))) rfl rfl (refuse_d w h ds ts hr hc l []) rfl rfl rfl rfl rfl rfl) ?_
  refine zab rfl rfl rfl (zac (.inr rfl) (ev1 rfl)) ?_
  refine zae ?_
  refine zaf ?_
  refine zad ?_
  refine zab rfl rfl rfl (zac (.inl rfl) (ev1 rfl)) ?_
  refine zab rfl rfl rfl (op_neq rfl (ev1 rfl) (ev1 rfl)) ?_
  refine zae ?_
  refine dwp_if_t rfl (by simpa using h0) ?_
  refine zaf ?_
  refine zad ?_
  refine zab rfl rfl rfl (zac (.inl rfl) (ev1 rfl)) ?_
  refine zab rfl rfl rfl (zac (.inr rfl) (ev1 rfl)) ?_
  refine zab rfl rfl rfl (zac (.inr rfl) (ev1 rfl)) ?_
  refine zae ?_
  refine zao ?_
  refine kend0 (rs2 rfl (rv_t rfl) (rv_t rfl)) rfl ?_
  rfl
set_option maxRecDepth 4000 in
set_option maxHeartbeats 1000000 in
theorem parts_0 (l : List Int) : DFun Try.prog 20 [.val (.pointer none), .slf 1 l.length (l.flatMap iV)] [] (.tup [.val (.slice none 0 0), .val (.int .i64 1)]) [] := by
  refine zan (N := 39) 0 (by kernel_rfl) Try.func20 rfl rfl rfl (by simp only [fr0, Nat.zero_add, Nat.reduceAdd]; exact rfl) rfl fun s0 hs0 => ?_
  refine dwp_len (t := 1) rfl fun hl1 hL1 => ?_
  refine zaf ?_
  refine zai 1 (by simp only [holes, List.cons_append, List.nil_append]; exact rfl) ?_
  refine zad ?_
  refine zaj rfl rfl rfl (op_boxm 0 rfl (ev1 rfl) (fun s v h => by cases h <;> rfl) rfl) (by simp only [upd, zaa, za]; exact rfl) ?_
  refine zab rfl rfl rfl (zac (.inr rfl) (ev1 rfl)) ?_
  refine zab rfl rfl rfl (zac (.inr rfl) (ev1 rfl)) ?_
  refine zae ?_
  refine zaf ?_
  refine zaf ?_
  refine zad ?_
  refine zab rfl rfl rfl (op_ldm rfl tb29 (ev1 rfl) rfl rfl) ?_
  refine zab rfl rfl rfl (zac (.inl rfl) (ev1 rfl)) ?_
  refine zab rfl rfl rfl (zah [] [] [] rfl (ev1 rfl) (ec (ev1 rfl) (ec (ev1 rfl) (ec (evnil 2 (ev1 rfl)) en))) rfl rfl (refuse_0 l []) rfl rfl rfl rfl rfl rfl) ?_
  refine zab rfl rfl rfl (zac (.inr rfl) (ev1 rfl)) ?_
  refine zae ?_
  refine zaf ?_
  refine zad ?_
  refine zab rfl rfl rfl (zac (.inl rfl) (ev1 rfl)) ?_
  refine zab rfl rfl rfl (op_neq rfl (ev1 rfl) (ev1 rfl)) ?_
  refine zae ?_
  refine dwp_if_t rfl (rfl) ?_
  refine zaf ?_
  refine zad ?_
  refine zab rfl rfl rfl (zac (.inl rfl) (ev1 rfl)) ?_
  refine zab rfl rfl rfl (zac (.inr rfl) (ev1 rfl)) ?_
  refine zab rfl rfl rfl (zac (.inr rfl) (ev1 rfl)) ?_
  refine zae ?_
  refine zao ?_
  refine kend0 (rs2 rfl (rv_t rfl) (rv_t rfl)) rfl ?_
  rfl
end Go.Proofs.Ytfnhckildfbikaa
namespace Go.Proofs.Ytfnhckildfbikaa
set_option maxRecDepth 4000
set_option linter.unusedVariables false
set_option linter.unusedSimpArgs false
open Go.RowKit
attribute [local irreducible] zFD srL goF bfsF
attribute [local irreducible] spF spN prK
theorem FD.ext_at {f g : FD} (h : ∀ p, inF32 p → f.at p = g.at p) : f = g := by
  refine FD.ext (List.ext_getElem (by rw [f.h, g.h]) fun i h1 h2 => ?_)
  have hi : i < 1024 := by rw [← f.h]; exact h1
  have := h ⟨((i % 32 : Nat) : Int), ((i / 32 : Nat) : Int)⟩ (by unfold inF32; simp only; omega)
  unfold FD.at ixF at this
  simp only at this
  rw [show (((i / 32 : Nat) : Int) * 32 + ((i % 32 : Nat) : Int)).toNat = i by omega] at this
  rw [List.getD_eq_getElem?_getD, List.getD_eq_getElem?_getD, List.getElem?_eq_getElem h1, List.getElem?_eq_getElem h2] at this
  exact this
end Go.Proofs.Ytfnhckildfbikaa
namespace Go.Proofs.Ytfnhckildfbikaa
set_option maxRecDepth 4000
set_option linter.unusedVariables false
set_option linter.unusedSimpArgs false
open Go.RowKit
attribute [local irreducible] zFD srL goF bfsF
attribute [local irreducible] spF spN prK
theorem fld_mem {W n i j : Nat} (hi : i < W) : (⟨0 + (i : Int), 0 + (j : Int)⟩ : P2) ∈ fieldN W n 0 0 ↔ j * W + i < n := by
  unfold fieldN
  rw [List.mem_map]
  constructor
  · rintro ⟨k, hk, e⟩
    have hk := List.mem_range.1 hk
    simp only [P2.mk.injEq] at e
    have e1 : k % W = i := by omega
    have e2 : k / W = j := by omega
    have := Nat.div_add_mod k W
    rw [e1, e2, Nat.mul_comm] at this
    omega
  · intro h
    refine ⟨j * W + i, List.mem_range.2 h, ?_⟩
    rw [Nat.mul_add_mod_self_right, Nat.mod_eq_of_lt hi, Nat.add_comm (j * W) i, Nat.add_mul_div_right _ _ (by omega), Nat.div_eq_of_lt hi, Nat.zero_add]
theorem at_zero (x y : Nat) : (⟨0 + (x : Int), 0 + (y : Int)⟩ : P2) = atN x y := by unfold atN; rw [Int.zero_add, Int.zero_add]
end Go.Proofs.Ytfnhckildfbikaa
namespace Go.Proofs.Ytfnhckildfbikaa
set_option maxRecDepth 4000
set_option linter.unusedVariables false
set_option linter.unusedSimpArgs false
open Go.RowKit
attribute [local irreducible] zFD
section
variable {On near : P2 → Bool} (hOn : ∀ p, On p = true → inF32 p) {b : FD}
include hOn
theorem vis_sim : ∀ (L : List P2) (v : Nat) (F G : FD) (o : List P2), (∀ q ∈ L, On q = true) → (∀ x, inF32 x → F.at x = b.at x + G.at x) →
    (∀ x, inF32 x → (L.foldl (visF near v) (F, o)).1.at x = b.at x + (L.foldl (visF (fun q => decide (b.at q = 0) && near q) v) (G, o)).1.at x) ∧ (L.foldl (visF near v) (F, o)).2 = (L.foldl (visF (fun q => decide (b.at q = 0) && near q) v) (G, o)).2
  | [], _, _, _, _, _, h => ⟨h, rfl⟩
  | q :: L, v, F, G, o, hL, h => by
    have hq := hOn _ (hL q (List.mem_cons_self ..))
    have hL' : ∀ x ∈ L, On x = true := fun x hx => hL x (List.mem_cons_of_mem _ hx)
    have he := h q hq
    rw [List.foldl_cons, List.foldl_cons]
    by_cases hc : F.at q = 0 ∧ near q = true
    · have hc2 : G.at q = 0 ∧ (decide (b.at q = 0) && near q) = true := ⟨by omega, by rw [hc.2, decide_eq_true (by omega)]; rfl⟩
      rw [show visF near v (F, o) q = (F.put q v, o ++ [q]) from if_pos hc, show visF (fun q => decide (b.at q = 0) && near q) v (G, o) q = (G.put q v, o ++ [q]) from if_pos hc2]
      refine vis_sim L v (F.put q v) (G.put q v) (o ++ [q]) hL' fun x hx => ?_
      rw [FD.put_at hq hx, FD.put_at hq hx]
      split
      · rename_i e; subst e; omega
      · exact h x hx
    · have hc2 : ¬ (G.at q = 0 ∧ (decide (b.at q = 0) && near q) = true) := fun g => hc ⟨by have := g.2; simp at this; omega, by have := g.2; simp at this; exact this.2⟩
      rw [show visF near v (F, o) q = (F, o) from if_neg hc, show visF (fun q => decide (b.at q = 0) && near q) v (G, o) q = (G, o) from if_neg hc2]
      exact vis_sim L v F G o hL' h
theorem bfs_sim : ∀ (k1 k2 : Nat) (F G : FD) (q : List P2), zrF F + q.length ≤ k1 → zrF G + q.length ≤ k2 → (∀ x, inF32 x → F.at x = b.at x + G.at x) → (∀ x ∈ q, On x = true ∧ b.at x = 0) →
    ∀ x, inF32 x → (bfsF On near k1 F q).at x = b.at x + (bfsF On (fun q => decide (b.at q = 0) && near q) k2 G q).at x
  | k1, k2, F, G, [], _, _, h, _ => by rw [bfs_nil, bfs_nil]; exact h
  | 0, _, F, G, p :: r, h1, _, _, _ => by rw [List.length_cons] at h1; omega
  | _, 0, F, G, p :: r, _, h2, _, _ => by rw [List.length_cons] at h2; omega
  | k1 + 1, k2 + 1, F, G, p :: r, h1, h2, h, hq => by
    obtain ⟨hop, hbp⟩ := hq p (List.mem_cons_self ..)
    have hpi := hOn _ hop
    have hv : F.at p = G.at p := by have := h p hpi; omega
    have hs := vis_sim (near := near) hOn (nbL On p) (F.at p + 1) F G [] (fun q hq => (nb_iff.1 hq).2) h
    rw [bfsF, bfsF]
    have e1 : (goF On near F p) = (nbL On p).foldl (visF near (F.at p + 1)) (F, []) := rfl
    have e2 : (goF On (fun q => decide (b.at q = 0) && near q) G p) = (nbL On p).foldl (visF (fun q => decide (b.at q = 0) && near q) (F.at p + 1)) (G, []) := by rw [hv]; rfl
    rw [← e1, ← e2] at hs
    have z1 := goF_zr (near := near) hOn F p
    have z2 := goF_zr (near := fun q => decide (b.at q = 0) && near q) hOn G p
    rw [List.length_cons] at h1 h2
    rw [hs.2] at z1 ⊢
    refine bfs_sim k1 k2 _ _ _ (by rw [List.length_append]; omega) (by rw [List.length_append]; omega) hs.1 fun x hx => ?_
    rcases List.mem_append.1 hx with hx | hx
    · exact hq x (List.mem_cons_of_mem _ hx)
    · rw [goF_new hOn, List.mem_filter, nb_iff] at hx
      exact ⟨hx.1.2, by have := hx.2; simp at this; exact this.2.1⟩
theorem sp_sim {p : P2} (hp : On p = true) (h0 : b.at p = 0) {x : P2} (hx : inF32 x) : (spF On near b p).at x = b.at x + (spF On (fun q => decide (b.at q = 0) && near q) zFD p).at x := by
  unfold spF
  refine bfs_sim (near := near) (b := b) hOn (zrF (b.put p 1) + 1) (zrF (zFD.put p 1) + 1) (b.put p 1) (zFD.put p 1) [p] (Nat.le_refl (zrF (b.put p 1) + 1)) (Nat.le_refl (zrF (zFD.put p 1) + 1)) (fun y hy => ?_) (fun y hy => ?_) x hx
  · rw [FD.put_at (hOn _ hp) hy, FD.put_at (hOn _ hp) hy, zFD_at]
    split
    · rename_i e; subst e; omega
    · omega
  · obtain rfl := List.mem_singleton.1 hy
    exact ⟨hp, h0⟩
theorem bfs_off {x : P2} (hx : inF32 x) (ho : On x = false) : ∀ (k : Nat) (G : FD) (q : List P2), (bfsF On near k G q).at x = G.at x
  | 0, _, _ => rfl
  | _ + 1, _, [] => rfl
  | k + 1, G, p :: r => by
    have key : ∀ (L : List P2) (v : Nat) (s : FD × List P2), (∀ q ∈ L, On q = true) → (L.foldl (visF near v) s).1.at x = s.1.at x := by
      intro L v
      induction L with
      | nil => intro s _; rfl
      | cons a L ih =>
        intro s hL
        rw [List.foldl_cons, ih _ fun q hq => hL q (List.mem_cons_of_mem _ hq)]
        have ha := hL a (List.mem_cons_self ..)
        unfold visF
        split
        · rw [FD.put_at (hOn _ ha) hx, if_neg fun e => by rw [e, ha] at ho; exact absurd ho (by decide)]
        · rfl
    rw [bfsF, bfs_off hx ho k]
    exact key _ _ _ fun q hq => (nb_iff.1 hq).2
end
def adK (W n : Nat) (f g : FD) : FD := (fieldN W n 0 0).foldl (fun m p => m.put p (f.at p + g.at p)) f
theorem adK_zero (W : Nat) (f g : FD) : adK W 0 f g = f := rfl
theorem adK_add {W x y : Nat} (hx : x < W) (f g : FD) : adK W (y * W + (x + 1)) f g = (adK W (y * W + x) f g).put (atN x y) (f.at (atN x y) + g.at (atN x y)) := by
  unfold adK
  rw [gt_field hx, List.foldl_append]
  rfl
theorem adL_at {f g : FD} : ∀ (L : List P2) (m : FD), (∀ p ∈ L, inF32 p) → ∀ q, inF32 q → (L.foldl (fun m p => m.put p (f.at p + g.at p)) m).at q = if q ∈ L then f.at q + g.at q else m.at q
  | [], m, _, q, _ => by simp
  | p :: L, m, hL, q, hq => by
    rw [List.foldl_cons, adL_at L _ (fun x hx => hL x (List.mem_cons_of_mem _ hx)) q hq, FD.put_at (hL p (List.mem_cons_self ..)) hq]
    by_cases h1 : q ∈ L
    · rw [if_pos h1, if_pos (List.mem_cons_of_mem _ h1)]
    · rw [if_neg h1]
      by_cases e : q = p
      · subst e; rw [if_pos rfl, if_pos (List.mem_cons_self ..)]
      · rw [if_neg e, if_neg (by simp [e, h1])]
theorem fieldN_all {W n : Nat} : fieldN W n 0 0 = gtP (fun _ => true) W n := by unfold gtP; exact (List.filter_eq_self.2 fun _ _ => rfl).symm
theorem fieldN_on {w h : Int} (hm : mayS w h = true) {p : P2} : p ∈ fieldN (w * 8).toNat ((h * 8).toNat * (w * 8).toNat) 0 0 ↔ onP w h p = true := by
  have hb := mayS_b hm
  rw [fieldN_all, gtP_mem (by omega)]
  unfold onP
  rw [onS_iff]
  constructor
  · rintro ⟨h1, _⟩; omega
  · intro h1; exact ⟨by omega, rfl⟩
theorem fieldN_sub {w h : Int} (hm : mayS w h = true) {n : Nat} (hn : n ≤ (h * 8).toNat * (w * 8).toNat) {p : P2} (hp : p ∈ fieldN (w * 8).toNat n 0 0) : onP w h p = true := by
  refine (fieldN_on hm).1 ?_
  unfold fieldN at hp ⊢
  obtain ⟨i, hi, rfl⟩ := List.mem_map.1 hp
  exact List.mem_map.2 ⟨i, List.mem_range.2 (Nat.lt_of_lt_of_le (List.mem_range.1 hi) hn), rfl⟩
theorem adK_new {w h : Int} (hm : mayS w h = true) {x y : Nat} (hx : x < (w * 8).toNat) (hy : y < (h * 8).toNat) (hpi : inF32 (atN x y)) (f g : FD) : (adK (w * 8).toNat (y * (w * 8).toNat + x) f g).at (atN x y) = f.at (atN x y) := by
  have hn : y * (w * 8).toNat + x ≤ (h * 8).toNat * (w * 8).toNat := by
    have : (y + 1) * (w * 8).toNat ≤ (h * 8).toNat * (w * 8).toNat := Nat.mul_le_mul_right _ hy
    rw [Nat.succ_mul] at this
    omega
  unfold adK
  rw [adL_at _ _ (fun p hp => onP_in hm p (fieldN_sub hm hn hp)) _ hpi, if_neg]
  rw [← at_zero, fld_mem hx]
  omega
theorem ad_eq {w h : Int} (hm : mayS w h = true) {ts : List TL} {tol : Int} {f : FD} {p : P2} (hp : onP w h p = true) (h0 : f.at p = 0) : adK (w * 8).toNat ((h * 8).toNat * (w * 8).toNat) f (grF w h ts tol f p) = spF (onP w h) (nearP w ts tol (getC w ts p.x p.y)) f p := by
  refine FD.ext_at fun x hx => ?_
  have hs := sp_sim (near := nearP w ts tol (getC w ts p.x p.y)) (onP_in hm) hp h0 hx
  have hg : grF w h ts tol f p = spF (onP w h) (fun q => decide (f.at q = 0) && nearP w ts tol (getC w ts p.x p.y) q) zFD p := rfl
  rw [hs]
  unfold adK
  rw [adL_at _ _ (fun p hp => onP_in hm p ((fieldN_on hm).1 hp)) _ hx, hg]
  by_cases ho : onP w h x = true
  · rw [if_pos ((fieldN_on hm).2 ho)]
  · rw [if_neg fun h => ho ((fieldN_on hm).1 h)]
    have e : (spF (onP w h) (fun q => decide (f.at q = 0) && nearP w ts tol (getC w ts p.x p.y) q) zFD p).at x = 0 := by
      unfold spF
      rw [bfs_off (onP_in hm) hx (by simpa using ho), FD.put_at (onP_in hm _ hp) hx, if_neg fun e => ho (by rw [e]; exact hp), zFD_at]
    omega
theorem grF_le {w h : Int} (hm : mayS w h = true) {ts : List TL} {tol : Int} {b : FD} {p : P2} (hp : onP w h p = true) (x : P2) : (grF w h ts tol b p).at x ≤ 1026 := by
  unfold grF
  exact spF_le (onP_in hm) hp (zFD_at p) (fun x => by rw [zFD_at]; omega) x
theorem prK_le {w h : Int} (hm : mayS w h = true) {ts : List TL} {tol : Int} {n : Nat} (hn : n ≤ (h * 8).toNat * (w * 8).toNat) (x : P2) : (prK w h ts tol n).1.at x ≤ 1026 := by
  have key : ∀ (L : List P2) (s : FD × Nat × List P2), (∀ p ∈ L, onP w h p = true) → (∀ x, s.1.at x ≤ 1026) → ∀ x, (L.foldl (prV w h ts tol) s).1.at x ≤ 1026 := by
    intro L
    induction L with
    | nil => intro s _ h; exact h
    | cons a L ih =>
      intro s hL h
      rw [List.foldl_cons]
      refine ih _ (fun p hp => hL p (List.mem_cons_of_mem _ hp)) fun x => ?_
      unfold prV
      split
      · exact h x
      · rename_i hh
        exact spF_le (onP_in hm) (hL a (List.mem_cons_self ..)) (hasF_no (by simpa using hh)) h x
  unfold prK
  exact key _ _ (fun p hp => fieldN_sub hm hn hp) (fun x => by show zFD.at x ≤ 1026; rw [zFD_at]; omega) x
theorem prK_fst0 (w h : Int) (ts : List TL) (tol : Int) : fV (prK w h ts tol 0).1 = zFV := by rw [prK_zero]; exact fV_zero.symm
end Go.Proofs.Ytfnhckildfbikaa
namespace Go.Proofs.Ytfnhckildfbikaa
set_option maxRecDepth 4000
set_option linter.unusedVariables false
set_option linter.unusedSimpArgs false
open Go.RowKit
attribute [local irreducible] zFD srL goF bfsF
attribute [local irreducible] spF spN prK
set_option maxRecDepth 4000 in
set_option maxHeartbeats 1000000 in
theorem rparts_d (w h : Int) (ts : List TL) (hc : CvOk w h ts) (hg : tsRng ts) (tol : Int) : DFun Try.prog 21 [shD w h ts, .val (.int .i64 tol)] [] (.val (.int .i64 (pcV w h ts tol))) [] := by
  have hb := mayS_b hc.may
  have hW : ((w * 8).toNat : Int) = w * 8 := by omega
  have hH : ((h * 8).toNat : Int) = h * 8 := by omega
  have hWH : (h * 8).toNat * (w * 8).toNat ≤ 32 * 32 := Nat.mul_le_mul (by omega) (by omega)
  refine zan (N := 70) 0 (by kernel_rfl) Try.func21 rfl rfl rfl (by simp only [fr0, Nat.zero_add, Nat.reduceAdd]; exact rfl) rfl fun s0 hs0 => ?_
  refine zaf ?_
  refine zai 1 (by simp only [holes, List.cons_append, List.nil_append]; exact rfl) ?_
  refine zad ?_
  refine zaj rfl rfl rfl (op_boxam 0 rfl (ev1 rfl) rfl) (by simp only [upd, zaa, za]; exact rfl) ?_
  refine zab rfl rfl rfl (zac (.inr rfl) (ev1 rfl)) ?_
  refine zae ?_
  refine zaf ?_
  refine zad ?_
  refine zab rfl rfl rfl (op_ldmw rfl tb24 (ev1 rfl) rfl rfl) ?_
  refine zab rfl rfl rfl (zah [] [] [] rfl (ev1 rfl) (ec (ev1 rfl) en) rfl rfl (rsizes_d w h ts hc) rfl rfl rfl rfl rfl rfl) ?_
  refine zab rfl rfl rfl (zac (.inl rfl) (ev1 rfl)) ?_
  refine zab rfl rfl rfl (op_ext rfl (ev1 rfl) rfl) ?_
  refine zab rfl rfl rfl (op_ext rfl (ev1 rfl) rfl) ?_
  refine zab rfl rfl rfl (zac (.inr rfl) (ev1 rfl)) ?_
  refine zab rfl rfl rfl (zac (.inr rfl) (ev1 rfl)) ?_
  refine zae ?_
  refine zaf ?_
  refine zai 1 (by simp only [holes, List.cons_append, List.nil_append]; exact rfl) ?_
  refine zad ?_
  refine zaj rfl rfl rfl (op_alloc 1 rfl zr45 rfl) (by simp only [upd, zaa, za]; exact rfl) ?_
  refine zae ?_
  refine zaf ?_
  refine zad ?_
  refine zab rfl rfl rfl (zac (.inr rfl) (ev1 rfl)) ?_
  refine zae ?_
  refine zaf ?_
  refine zaf ?_
  refine zad ?_
  refine zab rfl rfl rfl (zac (.inl rfl) (ev1 rfl)) ?_
  refine zab rfl rfl rfl (zac (.inl rfl) (ev1 rfl)) ?_
  refine zae ?_
  refine zal ?_
  refine dwp_loopS ⟨hs0, rfl⟩ (α := Nat) (fun y => [(8, .val (.int .i64 ((prK w h ts tol (y * (w * 8).toNat)).2.2.length : Int))), (20, .val (.int .i64 (y : Int)))]) [(1, _), (2, _), (5, _), (6, _), (7, _), (19, _)] (fun y => [(1, .flat 45 (fV (prK w h ts tol (y * (w * 8).toNat)).1))]) [_, .hole] (fun y => y ≤ (h * 8).toNat) (fun y => (h * 8).toNat - y) 0 [0, 1] (Nat.zero_le _) rfl ⟨rfl, rfl, rfl, rfl, rfl, rfl, trivial⟩ ⟨by rw [Nat.zero_mul, prK_zero]; rfl, rfl, trivial⟩ ⟨rfl, by rw [Nat.zero_mul, prK_fst0]; rfl, trivial⟩ ?_
  intro y hx
  simp only [upd, zaa, za, List.cons_append, List.nil_append]
  have hy0 := hx
  have hyW : y * (w * 8).toNat ≤ (h * 8).toNat * (w * 8).toNat := Nat.mul_le_mul_right _ hy0
  refine zaf ?_
  refine zad ?_
  refine zab rfl rfl rfl (op_lss rfl (ev1 rfl) (ev1 rfl)) ?_
  refine zae ?_
  refine zaf ?_
  refine dwp_cond rfl (fun c1 => ?_) (fun c1 => ?_)
  · try simp only [decide_eq_true_eq, decide_eq_false_iff_not, beq_iff_eq, bne_iff_ne, beq_eq_false_iff_ne, bne_eq_false_iff_eq, Bool.not_eq_true', Bool.not_eq_false', Bool.and_eq_true, Bool.or_eq_true, Bool.or_eq_false_iff, ne_eq, Decidable.not_not, Int.not_lt, Int.not_le] at c1
    refine zak ?_
    refine zaf ?_
    refine zal ?_
    refine zaf ?_
    refine zad ?_
    refine zab rfl rfl rfl (zac (.inl rfl) (ev1 rfl)) ?_
    refine zab rfl rfl rfl (zac (.inr rfl) (ev1 rfl)) ?_
    refine zae ?_
    refine zaf ?_
    refine zad ?_
    refine zab rfl rfl rfl (zac (.inl rfl) (ev1 rfl)) ?_
    refine zab rfl rfl rfl (zac (.inl rfl) (ev1 rfl)) ?_
    refine zae ?_
    refine zal ?_
    refine dwp_loopS ⟨hs0, rfl⟩ (α := Nat) (fun x => [(8, .val (.int .i64 ((prK w h ts tol (y * (w * 8).toNat + x)).2.2.length : Int))), (24, .val (.int .i64 (x : Int)))]) [(1, _), (2, _), (5, _), (6, _), (7, _), (9, _), (19, _), (20, _), (23, _)] (fun x => [(1, .flat 45 (fV (prK w h ts tol (y * (w * 8).toNat + x)).1))]) [_, .hole] (fun x => x ≤ (w * 8).toNat) (fun x => (w * 8).toNat - x) 0 [0, 1] (Nat.zero_le _) rfl ⟨rfl, rfl, rfl, rfl, rfl, rfl, rfl, rfl, rfl, trivial⟩ ⟨by rw [Nat.add_zero]; rfl, rfl, trivial⟩ ⟨rfl, by rw [Nat.add_zero]; rfl, trivial⟩ ?_
    intro x hx
    simp only [upd, zaa, za, List.cons_append, List.nil_append]
    have hx0 := hx
    have hpl := prK_len w h ts tol (y * (w * 8).toNat + x)
    refine zaf ?_
    refine zad ?_
    refine zab rfl rfl rfl (op_lss rfl (ev1 rfl) (ev1 rfl)) ?_
    refine zae ?_
    refine zaf ?_
    refine dwp_cond rfl (fun c2 => ?_) (fun c2 => ?_)
    · try simp only [decide_eq_true_eq, decide_eq_false_iff_not, beq_iff_eq, bne_iff_ne, beq_eq_false_iff_ne, bne_eq_false_iff_eq, Bool.not_eq_true', Bool.not_eq_false', Bool.and_eq_true, Bool.or_eq_true, Bool.or_eq_false_iff, ne_eq, Decidable.not_not, Int.not_lt, Int.not_le] at c2
      refine zak ?_
      refine zaf ?_
      refine zal ?_
      refine zaf ?_
      have hxW : x < (w * 8).toNat := by omega
      have hyH : y < (h * 8).toNat := by omega
      have hyW2 : (y + 1) * (w * 8).toNat ≤ (h * 8).toNat * (w * 8).toNat := Nat.mul_le_mul_right _ hyH
      rw [Nat.succ_mul] at hyW2
      have hpi : inF32 (atN x y) := by unfold inF32 atN; simp only; omega
      have hpo : onS w h (atN x y).x (atN x y).y = true := onS_iff.2 ⟨by show (0 : Int) ≤ (x : Int) ∧ (x : Int) < w * 8; omega, by show (0 : Int) ≤ (y : Int) ∧ (y : Int) < h * 8; omega⟩
      have hkl := fun q => prK_le hc.may (ts := ts) (tol := tol) (n := y * (w * 8).toNat + x) (by omega) q
      refine zad ?_
      refine zab rfl rfl rfl (zac (.inl rfl) (ev1 rfl)) ?_
      refine zab rfl rfl rfl (zac (.inr rfl) (ev1 rfl)) ?_
      refine zae ?_
      refine zaf ?_
      refine zaf ?_
      refine zad ?_
      refine zab rfl rfl rfl (zac (.inl rfl) (ev1 rfl)) ?_
      refine zab rfl rfl rfl (zac (.inl rfl) (ev1 rfl)) ?_
      refine zab rfl rfl rfl (op_ixl rfl ar45 (ev1 rfl) (ev1 rfl) (fun _ => by omega)) ?_
      refine zab rfl rfl rfl (op_ixl rfl ar43 (ev1 rfl) (ev1 rfl) (fun _ => by omega)) ?_
      refine zab rfl rfl rfl (zam rfl tb3 (ev1 rfl) rfl (fV_at (p := atN x y) hpi)) ?_
      refine zab rfl rfl rfl ((op_gtr rfl (ev1 rfl) (ev1 rfl)).cast (d' := .val (.bool ((prK w h ts tol (y * (w * 8).toNat + x)).1.has (atN x y)))) (by rw [← has_int])) ?_
      refine zae ?_
      refine dwp_cond rfl (fun hh => ?_) (fun hh => ?_)
      · refine dwp_exit ?_
        refine zad ?_
        refine zab rfl rfl rfl (op_add' rfl (ev1 rfl) (ev1 rfl) (fun _ => IntWalk.i64_in _ (by omega))) ?_
        refine zab rfl rfl rfl (zac (.inl rfl) (ev1 rfl)) ?_
        refine zae ?_
        refine ⟨x + 1, [0, 1], by omega, by simp only []; omega, rfl, ⟨by rw [prK_add hxW, prV_yes hh]; rfl, rfl, rfl, rfl, rfl, rfl, rfl, rfl, rfl, rfl, rfl, trivial⟩, ⟨rfl, by rw [prK_add hxW, prV_yes hh]; rfl, trivial⟩⟩
      · refine zak ?_
        refine zaf ?_
        refine zad ?_
        refine zab rfl rfl rfl (zac (.inl rfl) (ev1 rfl)) ?_
        refine zab rfl rfl rfl (op_add' rfl (ev1 rfl) (ev1 rfl) (fun _ => IntWalk.i64_in _ (by omega))) ?_
        refine zab rfl rfl rfl (zac (.inr rfl) (ev1 rfl)) ?_
        refine zae ?_
        refine zaf ?_
        refine zai 1 (by simp only [holes, List.cons_append, List.nil_append]; exact rfl) ?_
        refine zad ?_
        refine zab rfl rfl rfl (op_ldmw rfl tb24 (ev1 rfl) rfl rfl) ?_
        refine zab rfl rfl rfl (zac (.inl rfl) (ev1 rfl)) ?_
        refine zab rfl rfl rfl (zac (.inl rfl) (ev1 rfl)) ?_
        refine zab rfl rfl rfl (op_build (ps := [(0, .tmp 36), (1, .tmp 37)]) rfl fl34 zr34 (vc (ev1 rfl) (vc (ev1 rfl) vn)) rfl rfl) ?_
        refine zab rfl rfl rfl (zac (.inl rfl) (ev1 rfl)) ?_
        refine zab rfl rfl rfl (op_ldw rfl tb45 (ev1 rfl) rfl (fV_len _)) ?_
        refine zab rfl rfl rfl (zah [] [] [] rfl (ev1 rfl) (ec (ev1 rfl) (ec (ev1 rfl) (ec (ev1 rfl) (ec (ev1 rfl) en)))) rfl rfl (rgrown_d w h ts hc hg (atN x y) hpo tol _) rfl rfl rfl rfl rfl rfl) ?_
        refine zaj rfl rfl rfl (op_alloc 2 rfl zr45 rfl) (by simp only [upd, zaa, za]; exact rfl) ?_
        refine walk_s rfl rfl (op_stwa rfl tb45 (ev1 rfl) (ev1 rfl) rfl (fV_len _) (fV_oc _) (by rw [fV_len, zFV_len])) (by simp only [upd, zaa, za]; exact rfl) ?_
        refine zae ?_
        refine zaf ?_
        refine zad ?_
        refine zab rfl rfl rfl (zac (.inl rfl) (ev1 rfl)) ?_
        refine zab rfl rfl rfl (zac (.inl rfl) (ev1 rfl)) ?_
        refine zae ?_
        refine zal ?_
        refine dwp_loopS ⟨hs0, rfl⟩ (α := Nat) (fun v => [(43, .val (.int .i64 (v : Int)))]) [(1, _), (2, _), (5, _), (6, _), (7, _), (8, _), (9, _), (11, _), (19, _), (20, _), (23, _), (24, _), (42, _)] (fun v => [(1, .flat 45 (fV (adK (w * 8).toNat (v * (w * 8).toNat) (prK w h ts tol (y * (w * 8).toNat + x)).1 (grF w h ts tol (prK w h ts tol (y * (w * 8).toNat + x)).1 (atN x y)))))]) [_, .hole, _] (fun v => v ≤ (h * 8).toNat) (fun v => (h * 8).toNat - v) 0 [0, 1, 2] (Nat.zero_le _) rfl ⟨rfl, rfl, rfl, rfl, rfl, rfl, rfl, rfl, rfl, rfl, rfl, rfl, rfl, trivial⟩ ⟨rfl, trivial⟩ ⟨rfl, by rw [Nat.zero_mul, adK_zero]; rfl, rfl, trivial⟩ ?_
        intro v hx
        simp only [upd, zaa, za, List.cons_append, List.nil_append]
        have hv0 := hx
        have hgl := fun q => grF_le hc.may (ts := ts) (tol := tol) (b := (prK w h ts tol (y * (w * 8).toNat + x)).1) hpo q
        refine zaf ?_
        refine zad ?_
        refine zab rfl rfl rfl (op_lss rfl (ev1 rfl) (ev1 rfl)) ?_
        refine zae ?_
        refine zaf ?_
        refine dwp_cond rfl (fun c4 => ?_) (fun c4 => ?_)
        · try simp only [decide_eq_true_eq, decide_eq_false_iff_not, beq_iff_eq, bne_iff_ne, beq_eq_false_iff_ne, bne_eq_false_iff_eq, Bool.not_eq_true', Bool.not_eq_false', Bool.and_eq_true, Bool.or_eq_true, Bool.or_eq_false_iff, ne_eq, Decidable.not_not, Int.not_lt, Int.not_le] at c4
          refine zak ?_
          refine zaf ?_
          refine zal ?_
          refine zaf ?_
          refine zad ?_
          refine zab rfl rfl rfl (zac (.inl rfl) (ev1 rfl)) ?_
          refine zab rfl rfl rfl (zac (.inr rfl) (ev1 rfl)) ?_
          refine zae ?_
          refine zaf ?_
          refine zad ?_
          refine zab rfl rfl rfl (zac (.inl rfl) (ev1 rfl)) ?_
          refine zab rfl rfl rfl (zac (.inl rfl) (ev1 rfl)) ?_
          refine zae ?_
          refine zal ?_
          refine dwp_loopS ⟨hs0, rfl⟩ (α := Nat) (fun u => [(47, .val (.int .i64 (u : Int)))]) [(1, _), (2, _), (5, _), (6, _), (7, _), (8, _), (9, _), (11, _), (12, _), (19, _), (20, _), (23, _), (24, _), (42, _), (43, _), (46, _)] (fun u => [(1, .flat 45 (fV (adK (w * 8).toNat (v * (w * 8).toNat + u) (prK w h ts tol (y * (w * 8).toNat + x)).1 (grF w h ts tol (prK w h ts tol (y * (w * 8).toNat + x)).1 (atN x y)))))]) [_, .hole, _] (fun u => u ≤ (w * 8).toNat) (fun u => (w * 8).toNat - u) 0 [0, 1, 2] (Nat.zero_le _) rfl ⟨rfl, rfl, rfl, rfl, rfl, rfl, rfl, rfl, rfl, rfl, rfl, rfl, rfl, rfl, rfl, rfl, trivial⟩ ⟨rfl, trivial⟩ ⟨rfl, by rw [Nat.add_zero]; rfl, rfl, trivial⟩ ?_
          intro u hx
          simp only [upd, zaa, za, List.cons_append, List.nil_append]
          have hu0 := hx
          refine zaf ?_
          refine zad ?_
          refine zab rfl rfl rfl (op_lss rfl (ev1 rfl) (ev1 rfl)) ?_
          refine zae ?_
          refine zaf ?_
          refine dwp_cond rfl (fun c5 => ?_) (fun c5 => ?_)
          · try simp only [decide_eq_true_eq, decide_eq_false_iff_not, beq_iff_eq, bne_iff_ne, beq_eq_false_iff_ne, bne_eq_false_iff_eq, Bool.not_eq_true', Bool.not_eq_false', Bool.and_eq_true, Bool.or_eq_true, Bool.or_eq_false_iff, ne_eq, Decidable.not_not, Int.not_lt, Int.not_le] at c5
            refine zak ?_
            refine zaf ?_
            refine zal ?_
            refine zaf ?_
            have huW : u < (w * 8).toNat := by omega
            have hvH : v < (h * 8).toNat := by omega
            have hpu : inF32 (atN u v) := by unfold inF32 atN; simp only; omega
            have hb1 := hkl (atN u v)
            have hb2 := hgl (atN u v)
            refine zad ?_
            refine zab rfl rfl rfl (zac (.inl rfl) (ev1 rfl)) ?_
            refine zab rfl rfl rfl (zac (.inr rfl) (ev1 rfl)) ?_
            refine zae ?_
            refine dwp_draw [([], []), ([], []), ([], []), ([], []), ([], []), ([], []), ([1], []), ([], []), ([], []), ([], []), ([], []), ([2], []), ([], []), ([], []), ([], []), ([1], [1])] mixed (by kernel_rfl) ?_
            refine zag rfl rfl (zac (.inl rfl) (ev1 rfl)) ?_
            refine zag rfl rfl (zac (.inl rfl) (ev1 rfl)) ?_
            refine zag rfl rfl (zac (.inl rfl) (ev1 rfl)) ?_
            refine zag rfl rfl (zac (.inl rfl) (ev1 rfl)) ?_
            refine zag rfl rfl (op_ixl rfl ar45 (ev1 rfl) (ev1 rfl) (fun _ => by omega)) ?_
            refine zag rfl rfl (op_ixl rfl ar43 (ev1 rfl) (ev1 rfl) (fun _ => by omega)) ?_
            refine zag rfl rfl ((zam rfl tb3 (ev1 rfl) rfl (fV_at (p := atN u v) hpu)).cast (d' := .val (.int .i64 ((prK w h ts tol (y * (w * 8).toNat + x)).1.at (atN u v) : Int))) (by rw [adK_new hc.may huW hvH hpu])) ?_
            refine zag rfl rfl (zac (.inl rfl) (ev1 rfl)) ?_
            refine zag rfl rfl (zac (.inl rfl) (ev1 rfl)) ?_
            refine zag rfl rfl (op_ixl rfl ar45 (ev1 rfl) (ev1 rfl) (fun _ => by omega)) ?_
            refine zag rfl rfl (op_ixl rfl ar43 (ev1 rfl) (ev1 rfl) (fun _ => by omega)) ?_
            refine zag rfl rfl (zam rfl tb3 (ev1 rfl) rfl (fV_at (p := atN u v) hpu)) ?_
            refine zag rfl rfl ((op_add' rfl (ev1 rfl) (ev1 rfl) (fun _ => IntWalk.i64_in _ (by omega))).cast (d' := .val (.int .i64 (((prK w h ts tol (y * (w * 8).toNat + x)).1.at (atN u v) + (grF w h ts tol (prK w h ts tol (y * (w * 8).toNat + x)).1 (atN x y)).at (atN u v) : Nat) : Int))) (by rfl)) ?_
            refine zag rfl rfl (op_ixl rfl ar45 (ev1 rfl) (ev1 rfl) (fun _ => by omega)) ?_
            refine zag rfl rfl (op_ixl rfl ar43 (ev1 rfl) (ev1 rfl) (fun _ => by omega)) ?_
            refine lex_s rfl rfl (op_st rfl tb3 (ev1 rfl) (ev1 rfl) rfl rfl rfl rfl (fV_fit (p := atN u v) hpu) (fV_set (p := atN u v) hpu)) rfl (by simp only [upd, zaa, za]; exact rfl) ?_
            refine lex_nil ?_
            refine zad ?_
            refine zab rfl rfl rfl (op_add' rfl (ev1 rfl) (ev1 rfl) (fun _ => IntWalk.i64_in _ (by omega))) ?_
            refine zab rfl rfl rfl (zac (.inl rfl) (ev1 rfl)) ?_
            refine zae ?_
            refine ⟨u + 1, [0, 1, 2], by omega, by simp only []; omega, rfl, ⟨rfl, rfl, rfl, rfl, rfl, rfl, rfl, rfl, rfl, rfl, rfl, rfl, rfl, rfl, rfl, rfl, rfl, trivial⟩, ⟨rfl, by rw [adK_add huW]; rfl, rfl, trivial⟩⟩
          · try simp only [decide_eq_true_eq, decide_eq_false_iff_not, beq_iff_eq, bne_iff_ne, beq_eq_false_iff_ne, bne_eq_false_iff_eq, Bool.not_eq_true', Bool.not_eq_false', Bool.and_eq_true, Bool.or_eq_true, Bool.or_eq_false_iff, ne_eq, Decidable.not_not, Int.not_lt, Int.not_le] at c5
            refine dwp_exit ?_
            refine zad ?_
            refine zab rfl rfl rfl (op_add' rfl (ev1 rfl) (ev1 rfl) (fun _ => IntWalk.i64_in _ (by omega))) ?_
            refine zab rfl rfl rfl (zac (.inl rfl) (ev1 rfl)) ?_
            refine zae ?_
            obtain rfl : u = (w * 8).toNat := by omega
            refine ⟨v + 1, [0, 1, 2], by omega, by simp only []; omega, rfl, ⟨rfl, rfl, rfl, rfl, rfl, rfl, rfl, rfl, rfl, rfl, rfl, rfl, rfl, rfl, trivial⟩, ⟨rfl, by rw [Nat.succ_mul]; rfl, rfl, trivial⟩⟩
        · try simp only [decide_eq_true_eq, decide_eq_false_iff_not, beq_iff_eq, bne_iff_ne, beq_eq_false_iff_ne, bne_eq_false_iff_eq, Bool.not_eq_true', Bool.not_eq_false', Bool.and_eq_true, Bool.or_eq_true, Bool.or_eq_false_iff, ne_eq, Decidable.not_not, Int.not_lt, Int.not_le] at c4
          refine dwp_exit ?_
          refine zad ?_
          refine zab rfl rfl rfl (op_add' rfl (ev1 rfl) (ev1 rfl) (fun _ => IntWalk.i64_in _ (by omega))) ?_
          refine zab rfl rfl rfl (zac (.inl rfl) (ev1 rfl)) ?_
          refine zae ?_
          have hae := ad_eq hc.may (ts := ts) (tol := tol) hpo (hasF_no hh)
          obtain rfl : v = (h * 8).toNat := by omega
          refine ⟨x + 1, [0, 1], by omega, by simp only []; omega, rfl, ⟨by rw [prK_add hxW, prV_no hh, List.length_append]; rfl, rfl, rfl, rfl, rfl, rfl, rfl, rfl, rfl, rfl, rfl, trivial⟩, ⟨rfl, by rw [prK_add hxW, prV_no hh, ← hae]; rfl, trivial⟩⟩
    · try simp only [decide_eq_true_eq, decide_eq_false_iff_not, beq_iff_eq, bne_iff_ne, beq_eq_false_iff_ne, bne_eq_false_iff_eq, Bool.not_eq_true', Bool.not_eq_false', Bool.and_eq_true, Bool.or_eq_true, Bool.or_eq_false_iff, ne_eq, Decidable.not_not, Int.not_lt, Int.not_le] at c2
      refine dwp_exit ?_
      refine zad ?_
      refine zab rfl rfl rfl (op_add' rfl (ev1 rfl) (ev1 rfl) (fun _ => IntWalk.i64_in _ (by omega))) ?_
      refine zab rfl rfl rfl (zac (.inl rfl) (ev1 rfl)) ?_
      refine zae ?_
      obtain rfl : x = (w * 8).toNat := by omega
      refine ⟨y + 1, [0, 1], by omega, by simp only []; omega, rfl, ⟨by rw [Nat.succ_mul]; rfl, rfl, rfl, rfl, rfl, rfl, rfl, rfl, trivial⟩, ⟨rfl, by rw [Nat.succ_mul]; rfl, trivial⟩⟩
  · try simp only [decide_eq_true_eq, decide_eq_false_iff_not, beq_iff_eq, bne_iff_ne, beq_eq_false_iff_ne, bne_eq_false_iff_eq, Bool.not_eq_true', Bool.not_eq_false', Bool.and_eq_true, Bool.or_eq_true, Bool.or_eq_false_iff, ne_eq, Decidable.not_not, Int.not_lt, Int.not_le] at c1
    refine dwp_exit ?_
    refine zaf ?_
    refine zad ?_
    refine zab rfl rfl rfl (zac (.inl rfl) (ev1 rfl)) ?_
    refine zab rfl rfl rfl (zac (.inr rfl) (ev1 rfl)) ?_
    refine zae ?_
    refine zao ?_
    refine kend0 (rs1 rfl (rv_t rfl)) rfl ?_
    obtain rfl : y = (h * 8).toNat := by omega
    rfl
end Go.Proofs.Ytfnhckildfbikaa
namespace Go.Proofs.Ytfnhckildfbikaa
set_option maxRecDepth 4000
set_option linter.unusedVariables false
set_option linter.unusedSimpArgs false
open Go.RowKit
attribute [local irreducible] crT crU pcV rgF rgS gtP
set_option maxRecDepth 4000 in
set_option maxHeartbeats 1000000 in
theorem cloneI (l : List Int) (h : l.length ≤ 1000000) : DFun Try.prog 19 [.slf 1 l.length (l.flatMap iV)] [] (.arr 0) [.arr 3 1 l.length (l.flatMap iV)] := by
  refine zan (N := 8) 0 (by kernel_rfl) Try.func19 rfl rfl rfl (by simp only [fr0, Nat.zero_add, Nat.reduceAdd]; exact rfl) rfl fun s0 hs0 => ?_
  refine dwp_len (t := 0) rfl fun hl0 hL0 => ?_
  refine zaf ?_
  refine zad ?_
  refine zab rfl rfl rfl (zac (.inr rfl) (ev1 rfl)) ?_
  refine zae ?_
  refine zaf ?_
  refine zaf ?_
  refine zad ?_
  refine zab rfl rfl rfl (zac (.inl rfl) (ev1 rfl)) ?_
  refine walk_nil? rfl rfl rfl rfl sl55 (ev1 rfl) fun nb4 hnb4 => ?_
  refine zae ?_
  refine dwp_cond rfl (fun c1 => ?_) (fun c1 => ?_)
  · try simp only [decide_eq_true_eq, decide_eq_false_iff_not, beq_iff_eq, bne_iff_ne, beq_eq_false_iff_ne, bne_eq_false_iff_eq, Bool.not_eq_true', Bool.not_eq_false', Bool.and_eq_true, Bool.or_eq_true, Bool.or_eq_false_iff, ne_eq, Decidable.not_not, Int.not_lt, Int.not_le] at c1
    refine zaf ?_
    refine zad ?_
    refine zab rfl rfl rfl (zac (.inr rfl) (ev1 rfl)) ?_
    refine zae ?_
    refine dwp_adopt 2 3 1 rfl rfl rfl ?_
    refine zao ?_
    refine kend [0] (rs1 rfl (rv_t rfl)) rfl rfl ?_ ⟨?_, trivial⟩
    rfl
    exact (by obtain ⟨h1, h2⟩ := hnb4 c1; simp_all [MFits, vwB])
  · try simp only [decide_eq_true_eq, decide_eq_false_iff_not, beq_iff_eq, bne_iff_ne, beq_eq_false_iff_ne, bne_eq_false_iff_eq, Bool.not_eq_true', Bool.not_eq_false', Bool.and_eq_true, Bool.or_eq_true, Bool.or_eq_false_iff, ne_eq, Decidable.not_not, Int.not_lt, Int.not_le] at c1
    refine zak ?_
    refine zaf ?_
    refine zai 2 (by simp only [holes, List.cons_append, List.nil_append]; exact rfl) ?_
    refine zad ?_
    refine zaj rfl rfl rfl (op_bsa (ps := []) 0 rfl sl55 zr3 rfl vn rfl (by decide) (by decide) rfl) (by simp only [upd, zaa, za]; exact rfl) ?_
    refine zab rfl rfl rfl (zac (.inl rfl) (ev1 rfl)) ?_
    refine zaj rfl rfl rfl (op_app (j := 1) rfl sl55 zr3 rfl (ev1 rfl) (ev1 rfl) src_slf rfl rfl (fun _ => flat_oc (fun _ => rfl) l) (fun _ => ⟨by omega, by omega⟩)) (by simp only [upd, zaa, za]; exact rfl) ?_
    refine zab rfl rfl rfl (zac (.inr rfl) (ev1 rfl)) ?_
    refine zae ?_
    refine zao ?_
    refine kend [1] (rs1 rfl (rv_t rfl)) rfl rfl ?_ ⟨?_, trivial⟩
    rfl
    simp [vwB]
theorem cloneI_f (l : List Int) (h : l.length ≤ 1000000) : DFun Try.prog 19 [.slf 1 l.length (l.flatMap iV)] [] (.slf 1 l.length (l.flatMap iV)) [] := freeze (cloneI l h) rfl
end Go.Proofs.Ytfnhckildfbikaa
namespace Go.Proofs.Ytfnhckildfbikaa
set_option maxRecDepth 4000
set_option linter.unusedVariables false
set_option linter.unusedSimpArgs false
open Go.RowKit
attribute [local irreducible] crT crU pcV rgF rgS gtP
def noI (l : List Int) : Int := if l.any badT = true then 2 else 0
theorem noI_yes {l : List Int} {i : Nat} (hi : i < l.length) (h : badT l[i] = true) : noI (l.take (i + 1)) = 2 := by
  unfold noI
  rw [if_pos]
  rw [List.take_succ_eq_append_getElem hi, List.any_append]
  simp [h]
theorem noI_no {l : List Int} {i : Nat} (hi : i < l.length) (h : badT l[i] = false) : noI (l.take (i + 1)) = noI (l.take i) := by
  unfold noI
  rw [List.take_succ_eq_append_getElem hi, List.any_append]
  simp [h]
theorem noI_t {l : List Int} (h : l.any badT = true) : noI l = 2 := if_pos h
theorem noI_f {l : List Int} (h : l.any badT = false) : noI l = 0 := if_neg (by rw [h]; decide)
theorem refE_f {w h : Int} {l : List Int} (hb : l.any badT = false) : refE w h l [] = 0 := by unfold refE; rw [if_neg (by rw [hb]; decide)]; rfl
theorem parts_b (w h : Int) (ds : List D) (ts : List TL) (hr : RowOk ds ts) (hc : CvOk w h ts) (hg : tsRng ts) (l : List Int) (hb : l.any badT = true) : DFun Try.prog 20 [cvD w h ds, .slf 1 l.length (l.flatMap iV)] [] (.tup [.val (.slice none 0 0), .val (.int .i64 2)]) [] := by
  have h1 := parts_n w h ds ts hr hc hg l (by rw [refE_t hb]; decide)
  rw [refE_t hb] at h1
  exact h1
set_option maxRecDepth 4000 in
set_option maxHeartbeats 1000000 in
theorem fparts_d (w h : Int) (ts : List TL) (hg : tsRng ts) (y : List Int) : DFun Try.prog 4 [shD w h ts, .slf 1 y.length (y.flatMap iV)] [] (.val (.bool true)) [] := by
  have hly : (y.take 3).length ≤ 3 := by rw [List.length_take]; omega
  refine zan (N := 81) 0 (by kernel_rfl) Try.func4 rfl rfl rfl (by simp only [fr0, Nat.zero_add, Nat.reduceAdd]; exact rfl) rfl fun s0 hs0 => ?_
  refine dwp_len (t := 1) rfl fun hl1 hL1 => ?_
  refine zaf ?_
  refine zai 1 (by simp only [holes, List.cons_append, List.nil_append]; exact rfl) ?_
  refine zad ?_
  refine zaj rfl rfl rfl (op_boxam 0 rfl (ev1 rfl) rfl) (by simp only [upd, zaa, za]; exact rfl) ?_
  refine zab rfl rfl rfl (zac (.inr rfl) (ev1 rfl)) ?_
  refine zae ?_
  refine zaf ?_
  refine zaf ?_
  refine zad ?_
  refine zab rfl rfl rfl (zah [] [] [] rfl (ev1 rfl) en rfl rfl (wakes_d) rfl rfl rfl rfl rfl rfl) ?_
  refine zab rfl rfl rfl ((op_not rfl (ev1 rfl)).cast (d' := .val (.bool false)) (by kernel_rfl)) ?_
  refine zae ?_
  refine dwp_if_f rfl (rfl) ?_
  refine zak ?_
  refine zaf ?_
  by_cases hr : rightB w h (ts.take 17) = true
  · have hc := rightB_ok hr
    have hle := hc.le
    refine zai 1 (by simp only [holes, List.cons_append, List.nil_append]; exact rfl) ?_
    refine zad ?_
    refine zab rfl rfl rfl (op_ldmw rfl tb24 (ev1 rfl) rfl rfl) ?_
    refine zab rfl rfl rfl (zah [] [] [] rfl (ev1 rfl) (ec (ev1 rfl) en) rfl rfl (lof_y w h ts hc) rfl rfl rfl rfl rfl rfl) ?_
    refine zab rfl rfl rfl (zac (.inl rfl) (ev1 rfl)) ?_
    refine zab rfl rfl rfl (op_ext rfl (ev1 rfl) rfl) ?_
    refine zab rfl rfl rfl (op_ext rfl (ev1 rfl) rfl) ?_
    refine zab rfl rfl rfl (op_ext rfl (ev1 rfl) rfl) ?_
    refine zaj rfl rfl rfl (op_alloc 1 rfl zr24 rfl) (by simp only [upd, zaa, za]; exact rfl) ?_
    refine zab rfl rfl rfl (zac (.inr rfl) (ev1 rfl)) ?_
    refine walk_s rfl rfl (op_stam rfl tb24 (ev1 rfl) (ev1 rfl) rfl rfl rfl rfl) (by simp only [upd, zaa, za]; exact rfl) ?_
    refine zab rfl rfl rfl (zac (.inr rfl) (ev1 rfl)) ?_
    refine zae ?_
    refine zaf ?_
    refine zaf ?_
    refine zad ?_
    refine zab rfl rfl rfl (zac (.inl rfl) (ev1 rfl)) ?_
    refine zab rfl rfl rfl ((op_not rfl (ev1 rfl)).cast (d' := .val (.bool false)) (by kernel_rfl)) ?_
    refine zae ?_
    refine dwp_if_f rfl (rfl) ?_
    refine zak ?_
    refine zaf ?_
    refine zad ?_
    refine zab rfl rfl rfl (zac (.inl rfl) (ev1 rfl)) ?_
    refine zab rfl rfl rfl (zac (.inl rfl) (ev1 rfl)) ?_
    refine zab rfl rfl rfl (op_len rfl sl55 (ev1 rfl)) ?_
    refine zab rfl rfl rfl (op_min rfl (ev1 rfl) (ev1 rfl)) ?_
    refine zab rfl rfl rfl (op_sltk (j := min y.length 3) rfl sl55 (ev1 rfl) (bd_some (ev1 rfl)) (fun _ => by omega) (fun _ => by omega) (fun _ => rfl)) ?_
    refine zab rfl rfl rfl ((zah [] [] [] rfl (ev1 rfl) (ec (ev1 rfl) en) rfl rfl (cloneI_f _ (by rw [List.length_take]; omega)) rfl rfl rfl rfl rfl rfl).cast (d' := .slf 1 (y.take 3).length ((y.take 3).flatMap iV)) (by rw [tkmin])) ?_
    refine zab rfl rfl rfl (zac (.inr rfl) (ev1 rfl)) ?_
    refine zae ?_
    refine zaf ?_
    by_cases hb : (y.take 3).any badT = true
    · refine zad ?_
      refine zab rfl rfl rfl (zac (.inl rfl) (ev1 rfl)) ?_
      refine zab rfl rfl rfl (zac (.inl rfl) (ev1 rfl)) ?_
      refine zab rfl rfl rfl (zah [] [] [] rfl (ev1 rfl) (ec (ev1 rfl) (ec (ev1 rfl) en)) rfl rfl (parts_b w h _ (ts.take 17) (dpR_ok _) hc (take_rng hg 17) (y.take 3) hb) rfl rfl rfl rfl rfl rfl) ?_
      refine zab rfl rfl rfl (zac (.inl rfl) (ev1 rfl)) ?_
      refine zab rfl rfl rfl (op_ext rfl (ev1 rfl) rfl) ?_
      refine zab rfl rfl rfl (op_ext rfl (ev1 rfl) rfl) ?_
      refine zab rfl rfl rfl (zac (.inr rfl) (ev1 rfl)) ?_
      refine zab rfl rfl rfl (zac (.inr rfl) (ev1 rfl)) ?_
      refine zae ?_
      refine zaf ?_
      refine zad ?_
      refine zab rfl rfl rfl (zac (.inr rfl) (ev1 rfl)) ?_
      refine zae ?_
      refine zaf ?_
      refine zad ?_
      refine zab rfl rfl rfl (zac (.inr rfl) (ev1 rfl)) ?_
      refine zae ?_
      refine zaf ?_
      refine zaf ?_
      refine zad ?_
      refine zab rfl rfl rfl (zac (.inl rfl) (ev1 rfl)) ?_
      refine zab rfl rfl rfl (op_len rfl sl55 (ev1 rfl)) ?_
      refine zab rfl rfl rfl (zac (.inl rfl) (ev1 rfl)) ?_
      refine zae ?_
      refine zal ?_
      refine dwp_loopS ⟨hs0, rfl⟩ (α := Nat) (fun i => [(11, .val (.int .i64 (noI ((y.take 3).take i)))), (42, .val (.int .i64 (i : Int)))]) [(1, _), (6, _), (8, _), (9, _), (10, _), (40, _), (41, _)] (fun i => []) [_, _] (fun i => i ≤ (y.take 3).length) (fun i => (y.take 3).length - i) 0 [0, 1] (Nat.zero_le _) rfl ⟨rfl, rfl, rfl, rfl, rfl, rfl, rfl, trivial⟩ ⟨rfl, rfl, trivial⟩ ⟨rfl, rfl, trivial⟩ ?_
      intro i hx
      simp only [upd, zaa, za, List.cons_append, List.nil_append]
      have hi0 := hx
      refine zaf ?_
      refine zad ?_
      refine zab rfl rfl rfl (op_lss rfl (ev1 rfl) (ev1 rfl)) ?_
      refine zae ?_
      refine zaf ?_
      refine dwp_cond rfl (fun c3 => ?_) (fun c3 => ?_)
      · try simp only [decide_eq_true_eq, decide_eq_false_iff_not, beq_iff_eq, bne_iff_ne, beq_eq_false_iff_ne, bne_eq_false_iff_eq, Bool.not_eq_true', Bool.not_eq_false', Bool.and_eq_true, Bool.or_eq_true, Bool.or_eq_false_iff, ne_eq, Decidable.not_not, Int.not_lt, Int.not_le] at c3
        refine zak ?_
        refine zaf ?_
        refine zal ?_
        refine zaf ?_
        have hi : i < (y.take 3).length := by omega
        refine zad ?_
        refine zab rfl rfl rfl (op_ixsr (j := i) rfl sl55 (ev1 rfl) (ev1 rfl) (fun _ => rfl) (by decide) (by omega) (by omega)) ?_
        refine zab rfl rfl rfl (op_ldod rfl tb3 (ev1 rfl) rfl) ?_
        refine zab rfl rfl rfl (zac (.inr rfl) (ev1 rfl)) ?_
        refine zae ?_
        refine zaf ?_
        refine zad ?_
        refine zab rfl rfl rfl (zac (.inl rfl) (ev1 rfl)) ?_
        refine zab rfl rfl rfl (zah [] [] [] rfl (ev1 rfl) (ec (ev1 rfl) en) rfl rfl (rtol_d _) rfl rfl rfl rfl rfl rfl) ?_
        refine zab rfl rfl rfl (op_not rfl (ev1 rfl)) ?_
        refine zae ?_
        refine dwp_cond rfl (fun c3 => ?_) (fun c3 => ?_)
        · refine zad ?_
          refine zab rfl rfl rfl (zac (.inr rfl) (ev1 rfl)) ?_
          refine zae ?_
          refine zad ?_
          refine zab rfl rfl rfl (op_add' rfl (ev1 rfl) (ev1 rfl) (fun _ => IntWalk.i64_in _ (by omega))) ?_
          refine zab rfl rfl rfl (zac (.inl rfl) (ev1 rfl)) ?_
          refine zae ?_
          refine ⟨i + 1, [0, 1], by omega, by simp only []; omega, rfl, ⟨by rw [noI_yes hi (by simpa using c3)]; rfl, rfl, rfl, rfl, rfl, rfl, rfl, rfl, rfl, trivial⟩, ⟨rfl, rfl, trivial⟩⟩
        · refine zak ?_
          refine zad ?_
          refine zab rfl rfl rfl (op_add' rfl (ev1 rfl) (ev1 rfl) (fun _ => IntWalk.i64_in _ (by omega))) ?_
          refine zab rfl rfl rfl (zac (.inl rfl) (ev1 rfl)) ?_
          refine zae ?_
          refine ⟨i + 1, [0, 1], by omega, by simp only []; omega, rfl, ⟨by rw [noI_no hi (by simpa using c3)]; rfl, rfl, rfl, rfl, rfl, rfl, rfl, rfl, rfl, trivial⟩, ⟨rfl, rfl, trivial⟩⟩
      · try simp only [decide_eq_true_eq, decide_eq_false_iff_not, beq_iff_eq, bne_iff_ne, beq_eq_false_iff_ne, bne_eq_false_iff_eq, Bool.not_eq_true', Bool.not_eq_false', Bool.and_eq_true, Bool.or_eq_true, Bool.or_eq_false_iff, ne_eq, Decidable.not_not, Int.not_lt, Int.not_le] at c3
        refine dwp_exit ?_
        refine zaf ?_
        refine zaf ?_
        refine dwp_wk 11 rfl (Wk.of_eq (d' := .val (.int .i64 2)) (by rw [take_all (by omega), noI_t hb])) ?_
        refine zad ?_
        refine zab rfl rfl rfl (zac (.inl rfl) (ev1 rfl)) ?_
        refine zab rfl rfl rfl (op_len rfl sl55 (ev1 rfl)) ?_
        refine zab rfl rfl rfl (zac (.inl rfl) (ev1 rfl)) ?_
        refine zae ?_
        refine zal ?_
        refine dwp_loopS ⟨hs0, rfl⟩ (α := Nat) (fun k => [(52, .val (.int .i64 (k : Int)))]) [(6, _), (8, _), (9, _), (10, _), (11, _), (50, _), (51, _)] (fun k => []) [_, _] (fun k => k ≤ (y.take 3).length) (fun k => (y.take 3).length - k) 0 [0, 1] (Nat.zero_le _) rfl ⟨rfl, rfl, rfl, rfl, rfl, rfl, rfl, trivial⟩ ⟨rfl, trivial⟩ ⟨rfl, rfl, trivial⟩ ?_
        intro k hx
        simp only [upd, zaa, za, List.cons_append, List.nil_append]
        have hk0 := hx
        refine zaf ?_
        refine zad ?_
        refine zab rfl rfl rfl (op_lss rfl (ev1 rfl) (ev1 rfl)) ?_
        refine zae ?_
        refine zaf ?_
        refine dwp_cond rfl (fun c5 => ?_) (fun c5 => ?_)
        · try simp only [decide_eq_true_eq, decide_eq_false_iff_not, beq_iff_eq, bne_iff_ne, beq_eq_false_iff_ne, bne_eq_false_iff_eq, Bool.not_eq_true', Bool.not_eq_false', Bool.and_eq_true, Bool.or_eq_true, Bool.or_eq_false_iff, ne_eq, Decidable.not_not, Int.not_lt, Int.not_le] at c5
          refine zak ?_
          refine zaf ?_
          refine zal ?_
          refine zaf ?_
          have hk : k < (y.take 3).length := by omega
          refine zad ?_
          refine zab rfl rfl rfl (op_ixsr (j := k) rfl sl55 (ev1 rfl) (ev1 rfl) (fun _ => rfl) (by decide) (by omega) (by omega)) ?_
          refine zab rfl rfl rfl (op_ldod rfl tb3 (ev1 rfl) rfl) ?_
          refine zab rfl rfl rfl (zac (.inr rfl) (ev1 rfl)) ?_
          refine zae ?_
          refine zaf ?_
          refine zad ?_
          refine zab rfl rfl rfl (zac (.inl rfl) (ev1 rfl)) ?_
          refine zab rfl rfl rfl ((op_eql rfl (ev1 rfl) (ev1 rfl)).cast (d' := .val (.bool false)) (by kernel_rfl)) ?_
          refine zae ?_
          refine dwp_if_f rfl (rfl) ?_
          refine zak ?_
          refine zad ?_
          refine zab rfl rfl rfl (op_add' rfl (ev1 rfl) (ev1 rfl) (fun _ => IntWalk.i64_in _ (by omega))) ?_
          refine zab rfl rfl rfl (zac (.inl rfl) (ev1 rfl)) ?_
          refine zae ?_
          refine ⟨k + 1, [0, 1], by omega, by simp only []; omega, rfl, ⟨rfl, rfl, rfl, rfl, rfl, rfl, rfl, rfl, trivial⟩, ⟨rfl, rfl, trivial⟩⟩
        · try simp only [decide_eq_true_eq, decide_eq_false_iff_not, beq_iff_eq, bne_iff_ne, beq_eq_false_iff_ne, bne_eq_false_iff_eq, Bool.not_eq_true', Bool.not_eq_false', Bool.and_eq_true, Bool.or_eq_true, Bool.or_eq_false_iff, ne_eq, Decidable.not_not, Int.not_lt, Int.not_le] at c5
          refine dwp_exit ?_
          refine zaf ?_
          refine zad ?_
          refine zab rfl rfl rfl (zah [] [] [] rfl (ev1 rfl) (ec (ev1 rfl) (ec (evnil 1 (ev1 rfl)) en)) rfl rfl (parts_0 []) rfl rfl rfl rfl rfl rfl) ?_
          refine zab rfl rfl rfl (zac (.inl rfl) (ev1 rfl)) ?_
          refine zab rfl rfl rfl (op_ext rfl (ev1 rfl) rfl) ?_
          refine zab rfl rfl rfl (op_ext rfl (ev1 rfl) rfl) ?_
          refine zab rfl rfl rfl (zac (.inr rfl) (ev1 rfl)) ?_
          refine zab rfl rfl rfl (zac (.inr rfl) (ev1 rfl)) ?_
          refine zae ?_
          refine zaf ?_
          refine zad ?_
          refine zab rfl rfl rfl (zac (.inl rfl) (ev1 rfl)) ?_
          refine zab rfl rfl rfl (zac (.inl rfl) (ev1 rfl)) ?_
          refine zab rfl rfl rfl ((op_eql rfl (ev1 rfl) (ev1 rfl)).cast (d' := .val (.bool true)) (by kernel_rfl)) ?_
          refine zab rfl rfl rfl (zac (.inl rfl) (ev1 rfl)) ?_
          refine walk_k (gd_t (b := true) rfl rfl rfl) rfl rfl rfl (zac (.inl rfl) (ev1 rfl)) (by simp only [upd, zaa, za]; exact rfl) ?_
          refine walk_k (gd_t (b := true) rfl rfl rfl) rfl rfl rfl (zac (.inl rfl) (ev1 rfl)) (by simp only [upd, zaa, za]; exact rfl) ?_
          refine walk_k (gd_t (b := true) rfl rfl rfl) rfl rfl rfl ((zah [] [] [] rfl (ev1 rfl) (ec (evnil 1 (ev2 rfl)) (ec (evnil 1 (ev2 rfl)) en)) rfl rfl (equalI [] []) rfl rfl rfl rfl rfl rfl).cast (d' := .val (.bool true)) (by rfl)) (by simp only [upd, zaa, za]; exact rfl) ?_
          refine zab rfl rfl rfl ((op_and rfl (ev1 rfl) (ev3 rfl (fun _ => rfl))).cast (d' := .val (.bool true)) (by rfl)) ?_
          refine zab rfl rfl rfl (zac (.inl rfl) (ev1 rfl)) ?_
          refine walk_k (gd_t (b := true) rfl rfl rfl) rfl rfl rfl (zac (.inl rfl) (ev1 rfl)) (by simp only [upd, zaa, za]; exact rfl) ?_
          refine walk_k (gd_t (b := true) rfl rfl rfl) rfl rfl rfl ((op_eql rfl (ev2 rfl) (ev1 rfl)).cast (d' := .val (.bool true)) (by kernel_rfl)) (by simp only [upd, zaa, za]; exact rfl) ?_
          refine zab rfl rfl rfl ((op_and rfl (ev1 rfl) (ev3 rfl (fun _ => rfl))).cast (d' := .val (.bool true)) (by rfl)) ?_
          refine zab rfl rfl rfl (zac (.inr rfl) (ev1 rfl)) ?_
          refine zae ?_
          refine zao ?_
          refine kend0 (rs1 rfl (rv_t rfl)) rfl ?_
          rfl
    · have hb : (y.take 3).any badT = false := by simpa using hb
      refine zad ?_
      refine zab rfl rfl rfl (zac (.inl rfl) (ev1 rfl)) ?_
      refine zab rfl rfl rfl (zac (.inl rfl) (ev1 rfl)) ?_
      refine zab rfl rfl rfl (zah [] [] [] rfl (ev1 rfl) (ec (ev1 rfl) (ec (ev1 rfl) en)) rfl rfl (parts_d w h _ (ts.take 17) (dpR_ok _) hc (take_rng hg 17) (y.take 3) (refE_f hb) (by omega)) rfl rfl rfl rfl rfl rfl) ?_
      refine zab rfl rfl rfl (zac (.inl rfl) (ev1 rfl)) ?_
      refine zab rfl rfl rfl (op_ext rfl (ev1 rfl) rfl) ?_
      refine zab rfl rfl rfl (op_ext rfl (ev1 rfl) rfl) ?_
      refine zab rfl rfl rfl (zac (.inr rfl) (ev1 rfl)) ?_
      refine zab rfl rfl rfl (zac (.inr rfl) (ev1 rfl)) ?_
      refine zae ?_
      refine zaf ?_
      refine zad ?_
      refine zab rfl rfl rfl (zac (.inr rfl) (ev1 rfl)) ?_
      refine zae ?_
      refine zaf ?_
      refine zad ?_
      refine zab rfl rfl rfl (zac (.inr rfl) (ev1 rfl)) ?_
      refine zae ?_
      refine zaf ?_
      refine zaf ?_
      refine zad ?_
      refine zab rfl rfl rfl (zac (.inl rfl) (ev1 rfl)) ?_
      refine zab rfl rfl rfl (op_len rfl sl55 (ev1 rfl)) ?_
      refine zab rfl rfl rfl (zac (.inl rfl) (ev1 rfl)) ?_
      refine zae ?_
      refine zal ?_
      refine dwp_loopS ⟨hs0, rfl⟩ (α := Nat) (fun i => [(11, .val (.int .i64 (noI ((y.take 3).take i)))), (42, .val (.int .i64 (i : Int)))]) [(1, _), (6, _), (8, _), (9, _), (10, _), (40, _), (41, _)] (fun i => []) [_, _] (fun i => i ≤ (y.take 3).length) (fun i => (y.take 3).length - i) 0 [0, 1] (Nat.zero_le _) rfl ⟨rfl, rfl, rfl, rfl, rfl, rfl, rfl, trivial⟩ ⟨rfl, rfl, trivial⟩ ⟨rfl, rfl, trivial⟩ ?_
      intro i hx
      simp only [upd, zaa, za, List.cons_append, List.nil_append]
      have hi0 := hx
      refine zaf ?_
      refine zad ?_
      refine zab rfl rfl rfl (op_lss rfl (ev1 rfl) (ev1 rfl)) ?_
      refine zae ?_
      refine zaf ?_
      refine dwp_cond rfl (fun c7 => ?_) (fun c7 => ?_)
      · try simp only [decide_eq_true_eq, decide_eq_false_iff_not, beq_iff_eq, bne_iff_ne, beq_eq_false_iff_ne, bne_eq_false_iff_eq, Bool.not_eq_true', Bool.not_eq_false', Bool.and_eq_true, Bool.or_eq_true, Bool.or_eq_false_iff, ne_eq, Decidable.not_not, Int.not_lt, Int.not_le] at c7
        refine zak ?_
        refine zaf ?_
        refine zal ?_
        refine zaf ?_
        have hi : i < (y.take 3).length := by omega
        refine zad ?_
        refine zab rfl rfl rfl (op_ixsr (j := i) rfl sl55 (ev1 rfl) (ev1 rfl) (fun _ => rfl) (by decide) (by omega) (by omega)) ?_
        refine zab rfl rfl rfl (op_ldod rfl tb3 (ev1 rfl) rfl) ?_
        refine zab rfl rfl rfl (zac (.inr rfl) (ev1 rfl)) ?_
        refine zae ?_
        refine zaf ?_
        refine zad ?_
        refine zab rfl rfl rfl (zac (.inl rfl) (ev1 rfl)) ?_
        refine zab rfl rfl rfl (zah [] [] [] rfl (ev1 rfl) (ec (ev1 rfl) en) rfl rfl (rtol_d _) rfl rfl rfl rfl rfl rfl) ?_
        refine zab rfl rfl rfl (op_not rfl (ev1 rfl)) ?_
        refine zae ?_
        refine dwp_cond rfl (fun c3 => ?_) (fun c3 => ?_)
        · refine zad ?_
          refine zab rfl rfl rfl (zac (.inr rfl) (ev1 rfl)) ?_
          refine zae ?_
          refine zad ?_
          refine zab rfl rfl rfl (op_add' rfl (ev1 rfl) (ev1 rfl) (fun _ => IntWalk.i64_in _ (by omega))) ?_
          refine zab rfl rfl rfl (zac (.inl rfl) (ev1 rfl)) ?_
          refine zae ?_
          refine ⟨i + 1, [0, 1], by omega, by simp only []; omega, rfl, ⟨by rw [noI_yes hi (by simpa using c3)]; rfl, rfl, rfl, rfl, rfl, rfl, rfl, rfl, rfl, trivial⟩, ⟨rfl, rfl, trivial⟩⟩
        · refine zak ?_
          refine zad ?_
          refine zab rfl rfl rfl (op_add' rfl (ev1 rfl) (ev1 rfl) (fun _ => IntWalk.i64_in _ (by omega))) ?_
          refine zab rfl rfl rfl (zac (.inl rfl) (ev1 rfl)) ?_
          refine zae ?_
          refine ⟨i + 1, [0, 1], by omega, by simp only []; omega, rfl, ⟨by rw [noI_no hi (by simpa using c3)]; rfl, rfl, rfl, rfl, rfl, rfl, rfl, rfl, rfl, trivial⟩, ⟨rfl, rfl, trivial⟩⟩
      · try simp only [decide_eq_true_eq, decide_eq_false_iff_not, beq_iff_eq, bne_iff_ne, beq_eq_false_iff_ne, bne_eq_false_iff_eq, Bool.not_eq_true', Bool.not_eq_false', Bool.and_eq_true, Bool.or_eq_true, Bool.or_eq_false_iff, ne_eq, Decidable.not_not, Int.not_lt, Int.not_le] at c7
        refine dwp_exit ?_
        refine zaf ?_
        refine zaf ?_
        refine dwp_wk 11 rfl (Wk.of_eq (d' := .val (.int .i64 0)) (by rw [take_all (by omega), noI_f hb])) ?_
        refine zad ?_
        refine zab rfl rfl rfl (zac (.inl rfl) (ev1 rfl)) ?_
        refine zab rfl rfl rfl (op_len rfl sl55 (ev1 rfl)) ?_
        refine zab rfl rfl rfl (zac (.inl rfl) (ev1 rfl)) ?_
        refine zae ?_
        refine zal ?_
        refine dwp_adopt 10 3 1 rfl rfl rfl ?_
        refine dwp_loopS ⟨hs0, rfl⟩ (α := Nat) (fun k => [(52, .val (.int .i64 (k : Int)))]) [(6, _), (8, _), (9, _), (10, _), (11, _), (50, _), (51, _)] (fun k => [(2, .arr 3 1 (((y.take 3).take k).map (pcV w h (ts.take 17))).length ((((y.take 3).take k).map (pcV w h (ts.take 17))).flatMap iV))]) [_, _, .hole] (fun k => k ≤ (y.take 3).length) (fun k => (y.take 3).length - k) 0 [0, 1, 2] (Nat.zero_le _) rfl ⟨rfl, rfl, rfl, rfl, rfl, rfl, rfl, trivial⟩ ⟨rfl, trivial⟩ ⟨rfl, rfl, rfl, trivial⟩ ?_
        intro k hx
        simp only [upd, zaa, za, List.cons_append, List.nil_append]
        have hk0 := hx
        have hml : (((y.take 3).take k).map (pcV w h (ts.take 17))).length ≤ 3 := by rw [List.length_map, List.length_take]; omega
        refine zaf ?_
        refine zad ?_
        refine zab rfl rfl rfl (op_lss rfl (ev1 rfl) (ev1 rfl)) ?_
        refine zae ?_
        refine zaf ?_
        refine dwp_cond rfl (fun c9 => ?_) (fun c9 => ?_)
        · try simp only [decide_eq_true_eq, decide_eq_false_iff_not, beq_iff_eq, bne_iff_ne, beq_eq_false_iff_ne, bne_eq_false_iff_eq, Bool.not_eq_true', Bool.not_eq_false', Bool.and_eq_true, Bool.or_eq_true, Bool.or_eq_false_iff, ne_eq, Decidable.not_not, Int.not_lt, Int.not_le] at c9
          refine zak ?_
          refine zaf ?_
          refine zal ?_
          refine zaf ?_
          have hk : k < (y.take 3).length := by omega
          refine zad ?_
          refine zab rfl rfl rfl (op_ixsr (j := k) rfl sl55 (ev1 rfl) (ev1 rfl) (fun _ => rfl) (by decide) (by omega) (by omega)) ?_
          refine zab rfl rfl rfl (op_ldod rfl tb3 (ev1 rfl) rfl) ?_
          refine zab rfl rfl rfl (zac (.inr rfl) (ev1 rfl)) ?_
          refine zae ?_
          refine zaf ?_
          refine zad ?_
          refine zab rfl rfl rfl (zac (.inl rfl) (ev1 rfl)) ?_
          refine zab rfl rfl rfl ((op_eql rfl (ev1 rfl) (ev1 rfl)).cast (d' := .val (.bool true)) (by kernel_rfl)) ?_
          refine zae ?_
          refine dwp_if_t rfl (rfl) ?_
          refine zai 1 (by simp only [holes, List.cons_append, List.nil_append]; exact rfl) ?_
          refine zad ?_
          refine zab rfl rfl rfl (zac (.inl rfl) (ev1 rfl)) ?_
          refine zab rfl rfl rfl (op_ldmw rfl tb24 (ev1 rfl) rfl rfl) ?_
          refine zab rfl rfl rfl (zac (.inl rfl) (ev1 rfl)) ?_
          refine zab rfl rfl rfl (zah [] [] [] rfl (ev1 rfl) (ec (ev1 rfl) (ec (ev1 rfl) en)) rfl rfl (rparts_d w h (ts.take 17) hc (take_rng hg 17) _) rfl rfl rfl rfl rfl rfl) ?_
          refine zab rfl rfl rfl (op_bs (ps := [(0, .tmp 61)]) rfl sl55 zr3 rfl (vc (ev1 rfl) vn) rfl (by decide) (by decide)) ?_
          refine zaj rfl rfl rfl (op_app (j := 3) rfl sl55 zr3 rfl (ev1 rfl) (ev1 rfl) src_slf rfl rfl (fun _ => rfl) (fun _ => ⟨by omega, by omega⟩)) (by simp only [upd, zaa, za]; exact rfl) ?_
          refine zab rfl rfl rfl (zac (.inr rfl) (ev1 rfl)) ?_
          refine zae ?_
          refine zad ?_
          refine zab rfl rfl rfl (op_add' rfl (ev1 rfl) (ev1 rfl) (fun _ => IntWalk.i64_in _ (by omega))) ?_
          refine zab rfl rfl rfl (zac (.inl rfl) (ev1 rfl)) ?_
          refine zae ?_
          refine ⟨k + 1, [0, 1, 3], by omega, by simp only []; omega, rfl, ⟨rfl, rfl, rfl, rfl, rfl, rfl, rfl, rfl, trivial⟩, ⟨rfl, rfl, arr_eq (by rw [List.length_map, List.length_map, List.length_take (i := k), List.length_take (i := k + 1)]; omega) (iv_add hk), trivial⟩⟩
        · try simp only [decide_eq_true_eq, decide_eq_false_iff_not, beq_iff_eq, bne_iff_ne, beq_eq_false_iff_ne, bne_eq_false_iff_eq, Bool.not_eq_true', Bool.not_eq_false', Bool.and_eq_true, Bool.or_eq_true, Bool.or_eq_false_iff, ne_eq, Decidable.not_not, Int.not_lt, Int.not_le] at c9
          refine dwp_exit ?_
          refine zaf ?_
          refine dwp_giveA 10 rfl rfl (by simp only [zaa, za]; exact rfl) ?_
          obtain rfl : k = (y.take 3).length := by omega
          rw [List.take_length]
          refine zad ?_
          refine zab rfl rfl rfl (zah [] [] [] rfl (ev1 rfl) (ec (ev1 rfl) (ec (evnil 1 (ev1 rfl)) en)) rfl rfl (parts_0 []) rfl rfl rfl rfl rfl rfl) ?_
          refine zab rfl rfl rfl (zac (.inl rfl) (ev1 rfl)) ?_
          refine zab rfl rfl rfl (op_ext rfl (ev1 rfl) rfl) ?_
          refine zab rfl rfl rfl (op_ext rfl (ev1 rfl) rfl) ?_
          refine zab rfl rfl rfl (zac (.inr rfl) (ev1 rfl)) ?_
          refine zab rfl rfl rfl (zac (.inr rfl) (ev1 rfl)) ?_
          refine zae ?_
          refine zaf ?_
          refine zad ?_
          refine zab rfl rfl rfl (zac (.inl rfl) (ev1 rfl)) ?_
          refine zab rfl rfl rfl (zac (.inl rfl) (ev1 rfl)) ?_
          refine zab rfl rfl rfl ((op_eql rfl (ev1 rfl) (ev1 rfl)).cast (d' := .val (.bool true)) (by kernel_rfl)) ?_
          refine zab rfl rfl rfl (zac (.inl rfl) (ev1 rfl)) ?_
          refine walk_k (gd_t (b := true) rfl rfl rfl) rfl rfl rfl (zac (.inl rfl) (ev1 rfl)) (by simp only [upd, zaa, za]; exact rfl) ?_
          refine walk_k (gd_t (b := true) rfl rfl rfl) rfl rfl rfl (zac (.inl rfl) (ev1 rfl)) (by simp only [upd, zaa, za]; exact rfl) ?_
          refine walk_k (gd_t (b := true) rfl rfl rfl) rfl rfl rfl ((zah [] [] [] rfl (ev1 rfl) (ec (ev2 rfl) (ec (ev2 rfl) en)) rfl rfl (equalI (((y.take 3)).map (pcV w h (ts.take 17))) (((y.take 3)).map (pcV w h (ts.take 17)))) rfl rfl rfl rfl rfl rfl).cast (d' := .val (.bool true)) (by rw [decide_eq_true rfl])) (by simp only [upd, zaa, za]; exact rfl) ?_
          refine zab rfl rfl rfl ((op_and rfl (ev1 rfl) (ev3 rfl (fun _ => rfl))).cast (d' := .val (.bool true)) (by rfl)) ?_
          refine zab rfl rfl rfl (zac (.inl rfl) (ev1 rfl)) ?_
          refine walk_k (gd_t (b := true) rfl rfl rfl) rfl rfl rfl (zac (.inl rfl) (ev1 rfl)) (by simp only [upd, zaa, za]; exact rfl) ?_
          refine walk_k (gd_t (b := true) rfl rfl rfl) rfl rfl rfl ((op_eql rfl (ev2 rfl) (ev1 rfl)).cast (d' := .val (.bool true)) (by kernel_rfl)) (by simp only [upd, zaa, za]; exact rfl) ?_
          refine zab rfl rfl rfl ((op_and rfl (ev1 rfl) (ev3 rfl (fun _ => rfl))).cast (d' := .val (.bool true)) (by rfl)) ?_
          refine zab rfl rfl rfl (zac (.inr rfl) (ev1 rfl)) ?_
          refine zae ?_
          refine zao ?_
          refine kend0 (rs1 rfl (rv_t rfl)) rfl ?_
          rfl
  · refine zai 1 (by simp only [holes, List.cons_append, List.nil_append]; exact rfl) ?_
    refine zad ?_
    refine zab rfl rfl rfl (op_ldmw rfl tb24 (ev1 rfl) rfl rfl) ?_
    refine zab rfl rfl rfl (zah [] [] [] rfl (ev1 rfl) (ec (ev1 rfl) en) rfl rfl (lof_n w h ts (by simpa using hr)) rfl rfl rfl rfl rfl rfl) ?_
    refine zab rfl rfl rfl (zac (.inl rfl) (ev1 rfl)) ?_
    refine zab rfl rfl rfl (op_ext rfl (ev1 rfl) rfl) ?_
    refine zab rfl rfl rfl (op_ext rfl (ev1 rfl) rfl) ?_
    refine zab rfl rfl rfl (op_ext rfl (ev1 rfl) rfl) ?_
    refine zaj rfl rfl rfl (op_alloc 1 rfl zr24 rfl) (by simp only [upd, zaa, za]; exact rfl) ?_
    refine zab rfl rfl rfl (zac (.inr rfl) (ev1 rfl)) ?_
    refine walk_s rfl rfl (op_stam rfl tb24 (ev1 rfl) (ev1 rfl) rfl rfl rfl rfl) (by simp only [upd, zaa, za]; exact rfl) ?_
    refine zab rfl rfl rfl (zac (.inr rfl) (ev1 rfl)) ?_
    refine zae ?_
    refine zaf ?_
    refine zaf ?_
    refine zad ?_
    refine zab rfl rfl rfl (zac (.inl rfl) (ev1 rfl)) ?_
    refine zab rfl rfl rfl ((op_not rfl (ev1 rfl)).cast (d' := .val (.bool true)) (by kernel_rfl)) ?_
    refine zae ?_
    refine dwp_if_t rfl (rfl) ?_
    refine zaf ?_
    refine zad ?_
    refine zab rfl rfl rfl (zac (.inr rfl) (ev1 rfl)) ?_
    refine zae ?_
    refine zao ?_
    refine kend0 (rs1 rfl (rv_t rfl)) rfl ?_
    rfl
end Go.Proofs.Ytfnhckildfbikaa
namespace Go.Proofs.Ytfnhckildfbikaa
set_option maxRecDepth 4000
set_option linter.unusedVariables false
set_option linter.unusedSimpArgs false
open Go.RowKit
open Go.ChangeShapes Go.WideShapes Go.ChangeAt Go.Joins Go.Deep
theorem fits_iv (cs : List Value) (h : fitsP [.int .i64] cs) : ∃ a : Int, True ∧ cs = iV a := by
  obtain ⟨x0, r, rfl, h0, g1⟩ := fitsP_cons h
  obtain rfl := fitsP_nil g1
  obtain ⟨x, _, rfl⟩ := fits_prim_i64 h0
  exact ⟨x, trivial, rfl⟩
end Go.Proofs.Ytfnhckildfbikaa
