/- Operations, one behind the other; a call by its contract; lines, rectangles, boxes, and what rows of spans have; what a row has, and how many; fields of places, and their rows; colours that are near; fields of numbers; how many steps there are; the law: regions grow; the law: regions grow, whole; arguments that are opened. No condition. -/
import Derived.Test.YtfnhckildfbikaaGreatQ6
import Derived.Test.YtfnhckildfbikaaGreatRows
namespace Go.Proofs.YtfnhckildfbikaaGreat
set_option linter.unusedVariables false
set_option linter.unusedSimpArgs false
open Go.RowKit
section
variable {P : Program} {s0 : St} {n : Cx} {ops : Array Oper}
theorem gd_ff {o : Oper} {F : Fr} {j t : Nat} {g b : Bool} (h : o.guard = some (j, false)) (ht : (ops[j]?).bind (·.dst) = some t) (hl : lk F t = some (.opt g (.val (.bool b)))) : Gd ops o F (g && !b) := by
  unfold Gd; rw [h]; exact ⟨t, g, b, ht, .inl hl, by simp⟩
end

/-! ### names turned back -/
end Go.Proofs.YtfnhckildfbikaaGreat
namespace Go.Proofs.YtfnhckildfbikaaGreat
set_option maxRecDepth 4000
set_option linter.unusedVariables false
set_option linter.unusedSimpArgs false
open Go.RowKit
def cntS (l : List Sp) : Nat := (l.map Sp.wd).sum
theorem ptsS_len (l : List Sp) : (ptsS l).length = cntS l := by
  unfold ptsS cntS
  rw [List.length_flatMap]
  congr 1
  exact List.map_congr_left fun s _ => by simp [Sp.pts]
end Go.Proofs.YtfnhckildfbikaaGreat
namespace Go.Proofs.YtfnhckildfbikaaGreat
set_option maxRecDepth 4000
set_option linter.unusedVariables false
set_option linter.unusedSimpArgs false
open Go.RowKit
noncomputable def cntA : Code := rfA (pth [1, 1, 0, 1, 0] (bodyOf Tryz.f11))
noncomputable def cntB : Code := rfB (pth [1, 1, 0, 1, 0] (bodyOf Tryz.f11))
set_option maxRecDepth 4000 in
set_option maxHeartbeats 1000000 in
theorem cntRound (s : Sp) (c : Nat) (hs : rchS s ∧ s.f ≤ s.t) (hc : c ≤ 1000000000) : DRound Tryz.prog 0 [.val (.agg (s3 s).toArray)] [.lp 17 [(3, .loc 1 0)] #[7] cntA cntB .ready none, .flat 3 [.int .i64 (c : Int)]] true [.lp 17 [(3, .loc 1 0)] #[7] cntA cntB .ready none, .flat 3 [.int .i64 ((c + s.wd : Nat) : Int)]] := by
  obtain ⟨hr, hft⟩ := hs
  unfold rchS at hr
  have hw : ((c + s.wd : Nat) : Int) = (c : Int) + (s.t - s.f + 1) := by unfold Sp.wd; omega
  rw [hw]
  refine dround_go 2 rfl rfl (by simp) rfl rfl fun s0 hs0 => ?_
  refine zah 1 (by simp only [holes, List.cons_append, List.nil_append]; exact rfl) ?_
  refine zac ?_
  refine zaj rfl rfl rfl (op_alloc 2 rfl zr41 rfl) (by simp only [upd, zaa, za]; exact rfl) ?_
  refine walk_s rfl rfl (op_stwa rfl tb41 (ev1 rfl) (ev1 rfl) rfl rfl rfl rfl) (by simp only [upd, zaa, za]; exact rfl) ?_
  refine zae ?_
  refine ⟨rfl, ?_⟩
  simp only [zaa, za]
  refine zak ?_
  refine zac ?_
  refine zab rfl rfl rfl (op_ldo rfl tb3 (ev1 rfl) rfl rfl) ?_
  refine zab rfl rfl rfl (op_fa rfl fo41_2 (ev1 rfl)) ?_
  refine zab rfl rfl rfl (op_ldo rfl tb3 (ev1 rfl) rfl rfl) ?_
  refine zab rfl rfl rfl (op_fa rfl fo41_1 (ev1 rfl)) ?_
  refine zab rfl rfl rfl (op_ldo rfl tb3 (ev1 rfl) rfl rfl) ?_
  refine zab rfl rfl rfl (op_sub' rfl (ev1 rfl) (ev1 rfl) (fun _ => IntWalk.i64_in _ (by omega))) ?_
  refine zab rfl rfl rfl (op_add' rfl (ev1 rfl) (ev1 rfl) (fun _ => IntWalk.i64_in _ (by omega))) ?_
  refine zab rfl rfl rfl (op_add' rfl (ev1 rfl) (ev1 rfl) (fun _ => IntWalk.i64_in _ (by omega))) ?_
  refine walk_s rfl rfl (op_stwi rfl tb3 (ev1 rfl) (ev1 rfl) rfl) (by simp only [upd, zaa, za]; exact rfl) ?_
  refine zae ?_
  refine ⟨by first | rfl | assumption | simp_all, rfl, [0, 1], rfl, ⟨rfl, rfl, trivial⟩⟩
theorem cnt_add {l : List Sp} {i : Nat} (hi : i < l.length) : cntS (l.take (i + 1)) = cntS (l.take i) + l[i].wd := by
  unfold cntS
  rw [List.take_succ_eq_append_getElem hi, List.map_append, List.sum_append]
  simp
theorem cnt_le {l : List Sp} (h : chkS l) (i : Nat) : cntS (l.take i) ≤ l.length * 512 := by
  have h1 : ∀ (m : List Sp), (∀ s ∈ m, rchS s ∧ s.f ≤ s.t) → cntS m ≤ m.length * 512 := fun m => by
    induction m with
    | nil => intro _; exact Nat.le_refl _
    | cons a m ih =>
      intro hm
      have h2 := ih fun s hs => hm s (List.mem_cons_of_mem _ hs)
      have h3 := hm a (List.mem_cons_self ..)
      unfold rchS at h3
      have h4 : a.wd ≤ 512 := by unfold Sp.wd; omega
      unfold cntS at *
      rw [List.map_cons, List.sum_cons, List.length_cons]
      omega
  have h2 := h1 (l.take i) fun s hs => h.1 s (List.mem_of_mem_take hs)
  rw [List.length_take] at h2
  have : min i l.length * 512 ≤ l.length * 512 := Nat.mul_le_mul_right _ (Nat.min_le_right _ _)
  omega
def cntL (l : List Sp) : Nat := if chkS l then cntS l else 0
set_option maxRecDepth 4000 in
set_option maxHeartbeats 1000000 in
theorem told_cnt (l : List Sp) (hc : chkS l) (hn : l.length ≤ 1000000) : DFun Tryz.prog 67 [.yld 0, .loc 2 0] [.lp 17 [(3, .loc 1 0)] #[7] cntA cntB .ready none, .flat 3 [.int .i64 0], .mix 32 [.slf 3 l.length (l.flatMap s3)]] (.tup []) [.lp 17 [(3, .loc 1 0)] #[7] cntA cntB .ready none, .flat 3 [.int .i64 (cntS l : Int)], .mix 32 [.slf 3 l.length (l.flatMap s3)]] := by
  refine zan (N := 19) 3 (by kernel_rfl) Tryz.func67 rfl rfl rfl (by simp only [fr0, Nat.zero_add, Nat.reduceAdd]; exact rfl) rfl fun s0 hs0 => ?_
  refine zaf ?_
  refine zaf ?_
  refine zac ?_
  refine zab rfl rfl rfl (op_ldm rfl tb32 (ev1 rfl) rfl rfl) ?_
  refine zab rfl rfl rfl (zai [] [] [] rfl (ev1 rfl) (ec (ev1 rfl) en) rfl rfl (check_d l) rfl rfl rfl rfl rfl rfl) ?_
  refine zab rfl rfl rfl (op_neq rfl (ev1 rfl) (ev1 rfl)) ?_
  refine zae ?_
  refine dwp_if_f rfl (by rw [chkE_ok hc]; rfl) ?_
  refine zal ?_
  refine zaf ?_
  refine zac ?_
  refine zab rfl rfl rfl (op_ldm rfl tb32 (ev1 rfl) rfl rfl) ?_
  refine zab rfl rfl rfl (op_len rfl sl32 (ev1 rfl)) ?_
  refine zab rfl rfl rfl (zad (.inl rfl) (ev1 rfl)) ?_
  refine zae ?_
  refine zak ?_
  refine dwp_loopS ⟨hs0, rfl⟩ (α := Nat) (fun i => [(10, .val (.int .i64 (i : Int)))]) [(0, _), (8, _), (9, _)] (fun i => [(1, .flat 3 [.int .i64 (cntS (l.take i) : Int)])]) [_, .hole, _] (fun i => i ≤ l.length) (fun i => l.length - i) 0 [0, 1, 2] (Nat.zero_le _) rfl ⟨rfl, rfl, rfl, trivial⟩ ⟨rfl, trivial⟩ ⟨rfl, rfl, rfl, trivial⟩ ?_
  intro i hx
  simp only [upd, zaa, za, List.cons_append, List.nil_append]
  have hi0 := hx
  have hcl := cnt_le hc i
  refine zaf ?_
  refine zac ?_
  refine zab rfl rfl rfl (op_lss rfl (ev1 rfl) (ev1 rfl)) ?_
  refine zae ?_
  refine zaf ?_
  refine dwp_cond rfl (fun c2 => ?_) (fun c2 => ?_)
  · try simp only [decide_eq_true_eq, decide_eq_false_iff_not, beq_iff_eq, bne_iff_ne, beq_eq_false_iff_ne, bne_eq_false_iff_eq, Bool.not_eq_true', Bool.not_eq_false', Bool.and_eq_true, Bool.or_eq_true, Bool.or_eq_false_iff, ne_eq, Decidable.not_not, Int.not_lt, Int.not_le] at c2
    refine zal ?_
    refine zaf ?_
    refine zak ?_
    refine zaf ?_
    have hi : i < l.length := by omega
    refine zah 1 (by simp only [holes, List.cons_append, List.nil_append]; exact rfl) ?_
    refine zac ?_
    refine zab rfl rfl rfl (op_ixsr (j := i) rfl sl32 (ev1 rfl) (ev1 rfl) (fun _ => rfl) (by decide) (by omega) (by omega)) ?_
    refine zab rfl rfl rfl (op_ldwd rfl tb41 (ev1 rfl) rfl) ?_
    refine zaj rfl rfl rfl (op_alloc 3 rfl zr41 rfl) (by simp only [upd, zaa, za]; exact rfl) ?_
    refine walk_s rfl rfl (op_stwa rfl tb41 (ev1 rfl) (ev1 rfl) rfl rfl rfl rfl) (by simp only [upd, zaa, za]; exact rfl) ?_
    refine zae ?_
    refine zaf ?_
    refine zac ?_
    refine zab rfl rfl rfl (zad (.inl rfl) (ev1 rfl)) ?_
    refine zab rfl rfl rfl (op_ldw rfl tb41 (ev1 rfl) rfl rfl) ?_
    refine zaj rfl rfl rfl (op_y (i := 0) [0, 1] [] [] rfl (ev1 rfl) (ec (ev1 rfl) en) rfl rfl rfl (cntRound l[i] _ (hc.1 _ (List.getElem_mem hi)) (by omega)) rfl rfl rfl rfl rfl) (by simp only [upd, zaa, za]; exact rfl) ?_
    refine zab rfl rfl rfl (op_not rfl (ev1 rfl)) ?_
    refine zae ?_
    refine dwp_if_f rfl (rfl) ?_
    refine zal ?_
    refine zac ?_
    refine zab rfl rfl rfl (op_add' rfl (ev1 rfl) (ev1 rfl) (fun _ => IntWalk.i64_in _ (by omega))) ?_
    refine zab rfl rfl rfl (zad (.inl rfl) (ev1 rfl)) ?_
    refine zae ?_
    refine ⟨i + 1, [0, 1, 2], by omega, by simp only []; omega, rfl, ⟨rfl, rfl, rfl, rfl, trivial⟩, ⟨rfl, by rw [cnt_add hi]; rfl, rfl, trivial⟩⟩
  · try simp only [decide_eq_true_eq, decide_eq_false_iff_not, beq_iff_eq, bne_iff_ne, beq_eq_false_iff_ne, bne_eq_false_iff_eq, Bool.not_eq_true', Bool.not_eq_false', Bool.and_eq_true, Bool.or_eq_true, Bool.or_eq_false_iff, ne_eq, Decidable.not_not, Int.not_lt, Int.not_le] at c2
    refine dwp_exit ?_
    refine kend [0, 1, 2] (res_none rfl) rfl rfl ?_ ⟨?_, ?_, ?_, trivial⟩
    rfl
    all_goals first | exact rfl | exact (by rw [take_all (by omega)]; rfl)
set_option maxRecDepth 4000 in
set_option maxHeartbeats 1000000 in
theorem told_cnt_no (l : List Sp) (hc : ¬ chkS l) : DFun Tryz.prog 67 [.yld 0, .loc 2 0] [.lp 17 [(3, .loc 1 0)] #[7] cntA cntB .ready none, .flat 3 [.int .i64 0], .mix 32 [.slf 3 l.length (l.flatMap s3)]] (.tup []) [.lp 17 [(3, .loc 1 0)] #[7] cntA cntB .ready none, .flat 3 [.int .i64 0], .mix 32 [.slf 3 l.length (l.flatMap s3)]] := by
  refine zan (N := 19) 3 (by kernel_rfl) Tryz.func67 rfl rfl rfl (by simp only [fr0, Nat.zero_add, Nat.reduceAdd]; exact rfl) rfl fun s0 hs0 => ?_
  refine zaf ?_
  refine zaf ?_
  refine zac ?_
  refine zab rfl rfl rfl (op_ldm rfl tb32 (ev1 rfl) rfl rfl) ?_
  refine zab rfl rfl rfl (zai [] [] [] rfl (ev1 rfl) (ec (ev1 rfl) en) rfl rfl (check_d l) rfl rfl rfl rfl rfl rfl) ?_
  refine zab rfl rfl rfl (op_neq rfl (ev1 rfl) (ev1 rfl)) ?_
  refine zae ?_
  refine dwp_if_t rfl (by rw [chkE_no hc]; rfl) ?_
  refine dwp_ret ?_
  refine kend [0, 1, 2] (res_none rfl) rfl rfl ?_ ⟨rfl, rfl, rfl, trivial⟩
  rfl
set_option maxRecDepth 4000 in
set_option maxHeartbeats 1000000 in
theorem count_ok (l : List Sp) (hc : chkS l) (hn : l.length ≤ 1000000) : DFun Tryz.prog 11 [.slf 3 l.length (l.flatMap s3)] [] (.val (.int .i64 (cntS l : Int))) [] := by
  refine zan (N := 17) 0 (by kernel_rfl) Tryz.func11 rfl rfl rfl (by simp only [fr0, Nat.zero_add, Nat.reduceAdd]; exact rfl) rfl fun s0 hs0 => ?_
  refine dwp_len (t := 0) rfl fun hl0 hL0 => ?_
  refine zaf ?_
  refine zac ?_
  refine zab rfl rfl rfl (zad (.inr rfl) (ev1 rfl)) ?_
  refine zae ?_
  refine zaf ?_
  refine zah 1 (by simp only [holes, List.cons_append, List.nil_append]; exact rfl) ?_
  refine zac ?_
  refine zaj rfl rfl rfl (op_alloc 0 rfl zr3 rfl) (by simp only [upd, zaa, za]; exact rfl) ?_
  refine walk_s rfl rfl (op_stwi rfl tb3 (ev1 rfl) (ev1 rfl) rfl) (by simp only [upd, zaa, za]; exact rfl) ?_
  refine zae ?_
  refine zaf ?_
  refine zaf ?_
  refine zah 1 (by simp only [holes, List.cons_append, List.nil_append]; exact rfl) ?_
  refine zac ?_
  refine zab rfl rfl rfl (zad (.inl rfl) (ev1 rfl)) ?_
  refine zaj rfl rfl rfl (zai [] [] [1] rfl (ev1 rfl) (ec (ev1 rfl) en) rfl rfl (told_d l) rfl rfl rfl rfl rfl rfl) (by simp only [upd, zaa, za]; exact rfl) ?_
  refine zae ?_
  refine zak ?_
  refine dwp_hole ?_
  simp only [List.cons_append, List.nil_append]
  refine dwp_rf (FL := [(3, _)]) (st := .ready) (pe := none) [2, 0, 1] [] [] 2 rfl rfl (ev1 rfl) rfl (subF_lk ⟨rfl, trivial⟩) rfl rfl rfl (told_cnt l hc hn) rfl rfl rfl rfl rfl rfl rfl (by simp) (fun e => ?_) (fun c e => ?_)
  · simp only [upd, zaa, za]
    refine zaf ?_
    refine zac ?_
    refine zab rfl rfl rfl (op_ldo rfl tb3 (ev1 rfl) rfl rfl) ?_
    refine zab rfl rfl rfl (zad (.inr rfl) (ev1 rfl)) ?_
    refine zae ?_
    refine dwp_ret ?_
    refine kend0 (rs1 rfl (rv_t rfl)) rfl ?_
    rfl
  · cases e
set_option maxRecDepth 4000 in
set_option maxHeartbeats 1000000 in
theorem count_no (l : List Sp) (hc : ¬ chkS l) : DFun Tryz.prog 11 [.slf 3 l.length (l.flatMap s3)] [] (.val (.int .i64 0)) [] := by
  refine zan (N := 17) 0 (by kernel_rfl) Tryz.func11 rfl rfl rfl (by simp only [fr0, Nat.zero_add, Nat.reduceAdd]; exact rfl) rfl fun s0 hs0 => ?_
  refine dwp_len (t := 0) rfl fun hl0 hL0 => ?_
  refine zaf ?_
  refine zac ?_
  refine zab rfl rfl rfl (zad (.inr rfl) (ev1 rfl)) ?_
  refine zae ?_
  refine zaf ?_
  refine zah 1 (by simp only [holes, List.cons_append, List.nil_append]; exact rfl) ?_
  refine zac ?_
  refine zaj rfl rfl rfl (op_alloc 0 rfl zr3 rfl) (by simp only [upd, zaa, za]; exact rfl) ?_
  refine walk_s rfl rfl (op_stwi rfl tb3 (ev1 rfl) (ev1 rfl) rfl) (by simp only [upd, zaa, za]; exact rfl) ?_
  refine zae ?_
  refine zaf ?_
  refine zaf ?_
  refine zah 1 (by simp only [holes, List.cons_append, List.nil_append]; exact rfl) ?_
  refine zac ?_
  refine zab rfl rfl rfl (zad (.inl rfl) (ev1 rfl)) ?_
  refine zaj rfl rfl rfl (zai [] [] [1] rfl (ev1 rfl) (ec (ev1 rfl) en) rfl rfl (told_d l) rfl rfl rfl rfl rfl rfl) (by simp only [upd, zaa, za]; exact rfl) ?_
  refine zae ?_
  refine zak ?_
  refine dwp_hole ?_
  simp only [List.cons_append, List.nil_append]
  refine dwp_rf (FL := [(3, _)]) (st := .ready) (pe := none) [2, 0, 1] [] [] 2 rfl rfl (ev1 rfl) rfl (subF_lk ⟨rfl, trivial⟩) rfl rfl rfl (told_cnt_no l hc) rfl rfl rfl rfl rfl rfl rfl (by simp) (fun e => ?_) (fun c e => ?_)
  · simp only [upd, zaa, za]
    refine zaf ?_
    refine zac ?_
    refine zab rfl rfl rfl (op_ldo rfl tb3 (ev1 rfl) rfl rfl) ?_
    refine zab rfl rfl rfl (zad (.inr rfl) (ev1 rfl)) ?_
    refine zae ?_
    refine dwp_ret ?_
    refine kend0 (rs1 rfl (rv_t rfl)) rfl ?_
    rfl
  · cases e
theorem count_d (l : List Sp) (hn : l.length ≤ 1000000) : DFun Tryz.prog 11 [.slf 3 l.length (l.flatMap s3)] [] (.val (.int .i64 (cntL l : Int))) [] := by
  by_cases hc : chkS l
  · have e : cntL l = cntS l := if_pos hc
    rw [e]; exact count_ok l hc hn
  · have e : cntL l = 0 := if_neg hc
    rw [e]; exact count_no l hc
end Go.Proofs.YtfnhckildfbikaaGreat
namespace Go.Proofs.YtfnhckildfbikaaGreat
set_option maxRecDepth 4000
set_option linter.unusedVariables false
set_option linter.unusedSimpArgs false
open Go.RowKit
theorem reb_eq {k k' : Blk} (h : k = k') : ∀ s v, BlkOk s v k → BlkOk s v k' := fun s v hk => h ▸ hk
end Go.Proofs.YtfnhckildfbikaaGreat
namespace Go.Proofs.YtfnhckildfbikaaGreat
set_option maxRecDepth 4000
set_option linter.unusedVariables false
set_option linter.unusedSimpArgs false
open Go.RowKit
theorem farC_bd {a b : C4} (ha : a.rng) (hb : b.rng) : 0 ≤ farC a b ∧ farC a b ≤ 1020 := by
  obtain ⟨h1, h2, h3, h4⟩ := ha
  obtain ⟨g1, g2, g3, g4⟩ := hb
  unfold farC
  omega
theorem farC_zero {a b : C4} (h : farC a b ≤ 0) : a = b := by
  obtain ⟨r, g, b', a'⟩ := a
  obtain ⟨r2, g2, b2, a2⟩ := b
  unfold farC at h
  simp only [C4.mk.injEq] at *
  omega
end Go.Proofs.YtfnhckildfbikaaGreat
namespace Go.Proofs.YtfnhckildfbikaaGreat
set_option maxRecDepth 4000
set_option linter.unusedVariables false
set_option linter.unusedSimpArgs false
open Go.RowKit
theorem adj_sym {p q : P2} (h : q ∈ adjL p) : p ∈ adjL q := by rw [adj_iff] at *; omega
section
variable {On near : P2 → Bool} (hOn : ∀ p, On p = true → inF32 p)
include hOn
end
section
variable {On near : P2 → Bool} (hOn : ∀ p, On p = true → inF32 p) {p0 : P2}
include hOn
end
theorem Pth.nr {On near : P2 → Bool} {p0 : P2} {k : Nat} {n : P2} (h : Pth On near p0 k n) (h0 : near p0 = true) : near n = true := by cases h <;> assumption
theorem Pth.rev {On near : P2 → Bool} {p : P2} {k : Nat} {n : P2} (h : Pth On near p k n) (ho : On p = true) (hn : near p = true) : Pth On near n k p := by
  induction h with
  | z => exact .z
  | @s k m n hm ho1 ha hn1 ih =>
    have h1 : Pth On near n 1 m := .s .z (hm.on ho) (adj_sym ha) (hm.nr hn)
    have := h1.trans ih
    rwa [Nat.add_comm] at this
end Go.Proofs.YtfnhckildfbikaaGreat
namespace Go.Proofs.YtfnhckildfbikaaGreat
set_option maxRecDepth 4000
set_option linter.unusedVariables false
set_option linter.unusedSimpArgs false
open Go.RowKit
attribute [local irreducible] zFD
theorem rg_near {w h : Int} (hm : mayS w h = true) {ts : List TL} {tol : Int} (ht : 0 ≤ tol) {p q : P2} (hp : onP w h p = true) (hq : onP w h q = true) (hh : (rgF w h ts tol p).has q = true) : nearP w ts tol (getC w ts p.x p.y) q = true := by
  by_cases e : q = p
  · subst e; exact near_self ht _
  · exact ((rgF_fin hm hp).up q hq (has_pos.1 hh) e).1
theorem near_col {w : Int} {ts : List TL} {c : C4} {q : P2} (h : nearP w ts 0 c q = true) : c = getC w ts q.x q.y := by
  unfold nearP nearC at h
  exact farC_zero (by simpa using h)
theorem st_mono {w h : Int} (hm : mayS w h = true) {ts : List TL} {a b : Int} (hab : a ≤ b) {p u : P2} (hp : onP w h p = true) (hu : onP w h u = true) (hh : (rgF w h ts a p).has u = true) : (rgF w h ts b p).has u = true ∧ (rgF w h ts b p).at u ≤ (rgF w h ts a p).at u := by
  have hw := fin_way (rgF_fin (ts := ts) (tol := a) hm hp) hu (has_pos.1 hh)
  have h1 := (rgF_fin (ts := ts) (tol := b) hm hp).le hp (hw.mono fun q hq => by
    unfold nearP nearC at *
    simp only [decide_eq_true_eq] at *
    omega)
  have h0 := has_pos.1 hh
  exact ⟨has_pos.2 h1.1, by omega⟩
theorem ptsS_beh : ∀ {l : List Sp}, okS l → (ptsS l).Pairwise beh
  | [], _ => List.Pairwise.nil
  | s :: l, h => by
    have hs := h.1 s (List.mem_cons_self ..)
    have ht : okS l := ⟨fun a ha => h.1 a (List.mem_cons_of_mem _ ha), (List.pairwise_cons.1 h.2).2⟩
    show (s.pts ++ ptsS l).Pairwise beh
    refine List.pairwise_append.2 ⟨?_, ptsS_beh ht, fun p hp q hq => ?_⟩
    · unfold Sp.pts
      refine List.pairwise_map.2 (List.pairwise_lt_range.imp fun {i j} hij => ?_)
      exact .inr ⟨rfl, show s.f + (i : Int) < s.f + (j : Int) by omega⟩
    · obtain ⟨k, hk, rfl⟩ := List.mem_map.1 hp
      obtain ⟨a, ha, hqa⟩ := List.mem_flatMap.1 hq
      obtain ⟨j, hj, rfl⟩ := List.mem_map.1 hqa
      have hap := (List.pairwise_cons.1 h.2).1 a ha
      have hk := List.mem_range.1 hk
      unfold Sp.wd at hk
      unfold apS at hap
      unfold beh
      simp only
      omega
theorem beh_irr {p : P2} : ¬ beh p p := by unfold beh; omega
theorem beh_asym {p q : P2} (h : beh p q) : ¬ beh q p := by unfold beh at *; omega
theorem beh_uniq : ∀ {l m : List P2}, l.Pairwise beh → m.Pairwise beh → (∀ p, p ∈ l ↔ p ∈ m) → l = m
  | [], [], _, _, _ => rfl
  | [], b :: m, _, _, h => absurd ((h b).2 (List.mem_cons_self ..)) (List.not_mem_nil)
  | a :: l, [], _, _, h => absurd ((h a).1 (List.mem_cons_self ..)) (List.not_mem_nil)
  | a :: l, b :: m, hl, hm, h => by
    obtain ⟨h1, h2⟩ := List.pairwise_cons.1 hl
    obtain ⟨g1, g2⟩ := List.pairwise_cons.1 hm
    have e : a = b := by
      rcases List.mem_cons.1 ((h a).1 (List.mem_cons_self ..)) with e | e
      · exact e
      · rcases List.mem_cons.1 ((h b).2 (List.mem_cons_self ..)) with e2 | e2
        · exact e2.symm
        · exact absurd (h1 b e2) (beh_asym (g1 a e))
    subst e
    congr 1
    refine beh_uniq h2 g2 fun p => ⟨fun hp => ?_, fun hp => ?_⟩
    · rcases List.mem_cons.1 ((h p).1 (List.mem_cons_of_mem _ hp)) with e | e
      · subst e; exact absurd (h1 p hp) beh_irr
      · exact e
    · rcases List.mem_cons.1 ((h p).2 (List.mem_cons_of_mem _ hp)) with e | e
      · subst e; exact absurd (g1 p hp) beh_irr
      · exact e
theorem fieldN_all {W n : Nat} : fieldN W n 0 0 = gtP (fun _ => true) W n := by unfold gtP; exact (List.filter_eq_self.2 fun _ _ => rfl).symm
theorem fieldN_on {w h : Int} (hm : mayS w h = true) {p : P2} : p ∈ fieldN (w * 8).toNat ((h * 8).toNat * (w * 8).toNat) 0 0 ↔ onP w h p = true := by
  have hb := mayS_b hm
  rw [fieldN_all, gtP_mem (by omega)]
  unfold onP
  rw [onS_iff]
  constructor
  · rintro ⟨h1, _⟩; omega
  · intro h1; exact ⟨by omega, rfl⟩
theorem near_every {w : Int} {ts : List TL} (hg : tsRng ts) (a b : Int) (q : P2) : nearP w ts 1020 (getC w ts a b) q = true := by
  unfold nearP nearC
  exact decide_eq_true (farC_bd (getC_rng hg _ _ _) (getC_rng hg _ _ _)).2
theorem rg_every {w h : Int} (hm : mayS w h = true) {ts : List TL} (hg : tsRng ts) {p : P2} (hp : onP w h p = true) : ∀ (k : Nat) (q : P2), onP w h q = true → (q.x - p.x).natAbs + (q.y - p.y).natAbs = k → (rgF w h ts 1020 p).has q = true
  | 0, q, _, hk => by
    have hf := rgF_fin (ts := ts) (tol := 1020) hm hp
    have e : q = p := by
      obtain ⟨x, y⟩ := q
      obtain ⟨a, b⟩ := p
      simp only at hk
      simp only [P2.mk.injEq]
      omega
    rw [e]
    exact has_pos.2 (by rw [hf.one]; omega)
  | k + 1, q, hq, hk => by
    have hf := rgF_fin (ts := ts) (tol := 1020) hm hp
    have key : ∀ m : P2, onP w h m = true → q ∈ adjL m → (m.x - p.x).natAbs + (m.y - p.y).natAbs = k → (rgF w h ts 1020 p).has q = true := fun m hmo ha hd =>
      has_pos.2 (hf.dn m hmo (has_pos.1 (rg_every hm hg hp k m hmo hd)) q hq ha (near_every hg _ _ q)).1
    have g1 := onS_iff.1 (show onS w h q.x q.y = true from hq)
    have g2 := onS_iff.1 (show onS w h p.x p.y = true from hp)
    rcases Int.lt_trichotomy q.x p.x with hx | hx | hx
    · exact key ⟨q.x + 1, q.y⟩ (onS_iff.2 ⟨by simp only; omega, by simp only; omega⟩) (adj_iff.2 (.inl ⟨rfl, .inl (by simp only; omega)⟩)) (by simp only; omega)
    · rcases Int.lt_trichotomy q.y p.y with hy | hy | hy
      · exact key ⟨q.x, q.y + 1⟩ (onS_iff.2 ⟨by simp only; omega, by simp only; omega⟩) (adj_iff.2 (.inr ⟨rfl, .inl (by simp only; omega)⟩)) (by simp only; omega)
      · omega
      · exact key ⟨q.x, q.y - 1⟩ (onS_iff.2 ⟨by simp only; omega, by simp only; omega⟩) (adj_iff.2 (.inr ⟨rfl, .inr (by simp only; omega)⟩)) (by simp only; omega)
    · exact key ⟨q.x - 1, q.y⟩ (onS_iff.2 ⟨by simp only; omega, by simp only; omega⟩) (adj_iff.2 (.inl ⟨rfl, .inr (by simp only; omega)⟩)) (by simp only; omega)
theorem cnt_every {w h : Int} (hm : mayS w h = true) {ts : List TL} (hg : tsRng ts) {p : P2} (hp : onP w h p = true) : ((cntL (rgS w h (rgF w h ts 1020 p)) : Nat) : Int) = w * 8 * (h * 8) := by
  have hb := mayS_b hm
  have hW : (((w * 8).toNat : Nat) : Int) = w * 8 := by omega
  have hH : (((h * 8).toNat : Nat) : Int) = h * 8 := by omega
  have e : cntL (rgS w h (rgF w h ts 1020 p)) = cntS (rgS w h (rgF w h ts 1020 p)) := if_pos (rgS_chk hm _)
  have e2 : ptsS (rgS w h (rgF w h ts 1020 p)) = fieldN (w * 8).toNat ((h * 8).toNat * (w * 8).toNat) 0 0 :=
    beh_uniq (ptsS_beh (rgS_chk hm _).ok) (field_beh (by omega) _ 0 0) fun q => by
      rw [rgS_pts hm, fieldN_on hm]
      exact ⟨fun g => g.1, fun g => ⟨g, rg_every hm hg hp _ q g rfl⟩⟩
  rw [e, ← ptsS_len, e2, fieldN_len, Int.natCast_mul, hW, hH, Int.mul_comm]
theorem rgS_eq {w h : Int} (hm : mayS w h = true) {f g : FD} (he : ∀ x, onP w h x = true → f.has x = g.has x) : rgS w h f = rgS w h g := by
  refine okS_uniq (rgS_chk hm f).ok (rgS_chk hm g).ok fun x y => ?_
  rw [← hasL_iff (rgS_chk hm f) ⟨x, y⟩, ← hasL_iff (rgS_chk hm g) ⟨x, y⟩, rgS_has hm, rgS_has hm]
  by_cases ho : onP w h ⟨x, y⟩ = true
  · rw [he _ ho]
  · rw [show onP w h ⟨x, y⟩ = false by simpa using ho]; rfl
theorem same_reg {w h : Int} (hm : mayS w h = true) {ts : List TL} {p q : P2} (hp : onP w h p = true) (hq : onP w h q = true) (hh : (rgF w h ts 0 p).has q = true) : rgS w h (rgF w h ts 0 q) = rgS w h (rgF w h ts 0 p) := by
  have e := near_col (rg_near hm (Int.le_refl 0) hp hq hh)
  have f1 := rgF_fin (ts := ts) (tol := 0) hm hp
  have f2 := rgF_fin (ts := ts) (tol := 0) hm hq
  rw [← e] at f2
  have n1 : nearP w ts 0 (getC w ts p.x p.y) p = true := near_self (Int.le_refl 0) _
  have w1 := fin_way f1 hq (has_pos.1 hh)
  refine rgS_eq hm fun x hx => ?_
  rw [Bool.eq_iff_iff]
  constructor
  · intro g
    exact has_pos.2 (f1.le hp (w1.trans (fin_way f2 hx (has_pos.1 g)))).1
  · intro g
    exact has_pos.2 (f2.le hq ((w1.rev hp n1).trans (fin_way f1 hx (has_pos.1 g)))).1
theorem mono_reg {w h : Int} (hm : mayS w h = true) {ts : List TL} {a b : Int} (hab : a ≤ b) {p : P2} (hp : onP w h p = true) (q : P2) (hq : hasL (rgS w h (rgF w h ts a p)) q = true) : hasL (rgS w h (rgF w h ts b p)) q = true := by
  rw [rgS_has hm, Bool.and_eq_true] at hq ⊢
  exact ⟨hq.1, (st_mono hm hab hp hq.1 hq.2).1⟩
def rgW (w h : Int) (ts : List TL) (tol : Int) (p : P2) : List Sp := if refE w h [tol] [p] = 0 then rgS w h (rgF w h ts tol p) else []
theorem rgW_ok {w h : Int} {ts : List TL} {tol : Int} {p : P2} (h0 : refE w h [tol] [p] = 0) : rgW w h ts tol p = rgS w h (rgF w h ts tol p) := if_pos h0
theorem rgW_no {w h : Int} {ts : List TL} {tol : Int} {p : P2} (h0 : refE w h [tol] [p] ≠ 0) : rgW w h ts tol p = [] := if_neg h0
theorem refE_k1 {w h tol : Int} {p : P2} (hb : badT tol = false) (ho : onP w h p = true) : refE w h [tol] [p] = 0 := by rw [refE_one, if_neg (by rw [hb]; decide), if_pos ho]
theorem region_w (w h : Int) (ds : List D) (ts : List TL) (hr : RowOk ds ts) (hc : CvOk w h ts) (hg : tsRng ts) (p : P2) (tol : Int) : DFun Tryz.prog 7 [cvD w h ds, .val (.agg #[.int .i64 p.x, .int .i64 p.y]), .val (.int .i64 tol)] [] (.tup [.slf 3 (rgW w h ts tol p).length ((rgW w h ts tol p).flatMap s3), .val (.int .i64 (refE w h [tol] [p]))]) [] := by
  by_cases h0 : refE w h [tol] [p] = 0
  · rw [rgW_ok h0, h0]
    exact region_d w h ds ts hr hc hg p tol h0
  · rw [rgW_no h0]
    exact (region_n w h ds ts hr hc hg p tol h0).wk (Wk.tup (.cons (Wk.slf0 3) (.cons (.refl _) .nil)))
end Go.Proofs.YtfnhckildfbikaaGreat
namespace Go.Proofs.YtfnhckildfbikaaGreat
set_option maxRecDepth 4000
set_option linter.unusedVariables false
set_option linter.unusedSimpArgs false
open Go.RowKit
attribute [local irreducible] crT crU pcV rgF rgS gtP zFD refE rgW
noncomputable def grrA : Code := rfA (pth [1, 1, 1, 1, 1, 1, 1, 1, 1, 1, 1, 1, 1, 1, 1, 0, 1, 0] (bodyOf Tryz.f3))
noncomputable def grrB : Code := rfB (pth [1, 1, 1, 1, 1, 1, 1, 1, 1, 1, 1, 1, 1, 1, 1, 0, 1, 0] (bodyOf Tryz.f3))
set_option maxRecDepth 4000 in
set_option maxHeartbeats 1000000 in
theorem grRound (w h : Int) (ts : List TL) (hc : CvOk w h ts) (hg : tsRng ts) (p : P2) (hp : onP w h p = true) (P : List P2) (hP : P.length ≤ 1000000000) (q : P2) (hq : onP w h q = true) (hh : (rgF w h ts 0 p).has q = true) : DRound Tryz.prog 0 [.val (.agg #[.int .i64 q.x, .int .i64 q.y])] [.lp 185 [(6, .loc 1 0), (7, .loc 2 0), (18, .loc 3 0), (24, .loc 4 0), (26, .loc 5 0)] #[147] grrA grrB .ready none, .flat 4 [.bool false], .mix 29 [cvD w h (dpR ts)], .mix 32 [.slf 3 (rgS w h (rgF w h ts 0 p)).length ((rgS w h (rgF w h ts 0 p)).flatMap s3)], .flat 44 (c4 (getC w ts p.x p.y)), .flat 3 [.int .i64 ((P).length : Int)]] true [.lp 185 [(6, .loc 1 0), (7, .loc 2 0), (18, .loc 3 0), (24, .loc 4 0), (26, .loc 5 0)] #[147] grrA grrB .ready none, .flat 4 [.bool false], .mix 29 [cvD w h (dpR ts)], .mix 32 [.slf 3 (rgS w h (rgF w h ts 0 p)).length ((rgS w h (rgF w h ts 0 p)).flatMap s3)], .flat 44 (c4 (getC w ts p.x p.y)), .flat 3 [.int .i64 ((P ++ [q]).length : Int)]] := by
  have hqs : onS w h q.x q.y = true := hq
  have hcol := near_col (rg_near hc.may (Int.le_refl 0) hp hq hh)
  have hsame := same_reg hc.may hp hq hh
  refine dround_go 6 rfl rfl (by simp) rfl rfl fun s0 hs0 => ?_
  refine zah 1 (by simp only [holes, List.cons_append, List.nil_append]; exact rfl) ?_
  refine zac ?_
  refine zaj rfl rfl rfl (op_alloc 6 rfl zr26 rfl) (by simp only [upd, zaa, za]; exact rfl) ?_
  refine walk_s rfl rfl (op_stwa rfl tb26 (ev1 rfl) (ev1 rfl) rfl rfl rfl rfl) (by simp only [upd, zaa, za]; exact rfl) ?_
  refine zae ?_
  refine ⟨rfl, ?_⟩
  simp only [zaa, za]
  refine zak ?_
  refine zaf ?_
  refine zah 1 (by simp only [holes, List.cons_append, List.nil_append]; exact rfl) ?_
  refine zac ?_
  refine zab rfl rfl rfl (op_ldm rfl tb29 (ev1 rfl) rfl rfl) ?_
  refine zab rfl rfl rfl (op_fa rfl fo26_0 (ev1 rfl)) ?_
  refine zab rfl rfl rfl (op_ldo rfl tb3 (ev1 rfl) rfl rfl) ?_
  refine zab rfl rfl rfl (op_fa rfl fo26_1 (ev1 rfl)) ?_
  refine zab rfl rfl rfl (op_ldo rfl tb3 (ev1 rfl) rfl rfl) ?_
  refine zab rfl rfl rfl (zai [] [] [] rfl (ev1 rfl) (ec (ev1 rfl) (ec (ev1 rfl) (ec (ev1 rfl) en))) rfl rfl (at_d w h _ ts (dpR_ok ts) hc q.x q.y) rfl rfl rfl rfl rfl rfl) ?_
  refine zab rfl rfl rfl (zad (.inl rfl) (ev1 rfl)) ?_
  refine zab rfl rfl rfl ((op_ext rfl (ev1 rfl) rfl).cast (d' := .val (.agg (c4 (getC w ts q.x q.y)).toArray)) (by rw [if_pos hqs])) ?_
  refine zab rfl rfl rfl ((op_ext rfl (ev1 rfl) rfl).cast (d' := .val (.bool true)) (by rw [hqs])) ?_
  refine zaj rfl rfl rfl (op_alloc 7 rfl zr44 rfl) (by simp only [upd, zaa, za]; exact rfl) ?_
  refine walk_s rfl rfl (op_stwa rfl tb44 (ev1 rfl) (ev1 rfl) rfl rfl rfl rfl) (by simp only [upd, zaa, za]; exact rfl) ?_
  refine zab rfl rfl rfl (zad (.inr rfl) (ev1 rfl)) ?_
  refine zae ?_
  refine zaf ?_
  refine zaf ?_
  refine zac ?_
  refine zab rfl rfl rfl (zad (.inl rfl) (ev1 rfl)) ?_
  refine zab rfl rfl rfl ((op_not rfl (ev1 rfl)).cast (d' := .val (.bool false)) (by kernel_rfl)) ?_
  refine zab rfl rfl rfl (zad (.inl rfl) (ev1 rfl)) ?_
  refine walk_k (gd_f (b := false) rfl rfl rfl) rfl rfl rfl (op_ldw rfl tb44 (ev1 rfl) rfl rfl) (by simp only [upd, zaa, za]; exact rfl) ?_
  refine walk_k (gd_f (b := false) rfl rfl rfl) rfl rfl rfl (op_ldw rfl tb44 (ev1 rfl) rfl rfl) (by simp only [upd, zaa, za]; exact rfl) ?_
  refine walk_k (gd_f (b := false) rfl rfl rfl) rfl rfl rfl ((op_ner eq44 rfl gd44 tb44 (ev2 rfl) (ev2 rfl)).cast (d' := .val (.bool false)) (by rw [hcol]; simp)) (by simp only [upd, zaa, za]; exact rfl) ?_
  refine zab rfl rfl rfl ((op_or rfl (ev1 rfl) (ev3 rfl (fun _ => rfl))).cast (d' := .val (.bool false)) (by rfl)) ?_
  refine zae ?_
  refine dwp_if_f rfl (rfl) ?_
  refine zal ?_
  refine zaf ?_
  refine zac ?_
  refine zab rfl rfl rfl (op_ldo rfl tb3 (ev1 rfl) rfl rfl) ?_
  refine zab rfl rfl rfl (op_add' rfl (ev1 rfl) (ev1 rfl) (fun _ => IntWalk.i64_in _ (by omega))) ?_
  refine walk_s rfl rfl (op_stwi rfl tb3 (ev1 rfl) (ev1 rfl) rfl) (by simp only [upd, zaa, za]; exact rfl) ?_
  refine zae ?_
  refine zaf ?_
  refine zac ?_
  refine zab rfl rfl rfl (op_ldo rfl tb3 (ev1 rfl) rfl rfl) ?_
  refine zab rfl rfl rfl (op_lss rfl (ev1 rfl) (ev1 rfl)) ?_
  refine zae ?_
  refine dwp_cond rfl (fun c2 => ?_) (fun c2 => ?_)
  · try simp only [decide_eq_true_eq, decide_eq_false_iff_not, beq_iff_eq, bne_iff_ne, beq_eq_false_iff_ne, bne_eq_false_iff_eq, Bool.not_eq_true', Bool.not_eq_false', Bool.and_eq_true, Bool.or_eq_true, Bool.or_eq_false_iff, ne_eq, Decidable.not_not, Int.not_lt, Int.not_le] at c2
    refine zaf ?_
    refine zac ?_
    refine zab rfl rfl rfl (op_ldm rfl tb29 (ev1 rfl) rfl rfl) ?_
    refine zab rfl rfl rfl (op_ldw rfl tb26 (ev1 rfl) rfl rfl) ?_
    refine zab rfl rfl rfl (zai [] [] [] rfl (ev1 rfl) (ec (ev1 rfl) (ec (ev1 rfl) (ec (ev1 rfl) en))) rfl rfl (region_d w h _ ts (dpR_ok ts) hc hg q 0 (refE_k1 (by decide) hq)) rfl rfl rfl rfl rfl rfl) ?_
    refine zab rfl rfl rfl (zad (.inl rfl) (ev1 rfl)) ?_
    refine zab rfl rfl rfl (op_ext rfl (ev1 rfl) rfl) ?_
    refine zab rfl rfl rfl (op_ext rfl (ev1 rfl) rfl) ?_
    refine zab rfl rfl rfl (zad (.inr rfl) (ev1 rfl)) ?_
    refine zab rfl rfl rfl (zad (.inr rfl) (ev1 rfl)) ?_
    refine zae ?_
    refine zaf ?_
    refine zac ?_
    refine zab rfl rfl rfl (zad (.inl rfl) (ev1 rfl)) ?_
    refine zab rfl rfl rfl ((op_neq rfl (ev1 rfl) (ev1 rfl)).cast (d' := .val (.bool false)) (by kernel_rfl)) ?_
    refine zab rfl rfl rfl (zad (.inl rfl) (ev1 rfl)) ?_
    refine walk_k (gd_f (b := false) rfl rfl rfl) rfl rfl rfl (zad (.inl rfl) (ev1 rfl)) (by simp only [upd, zaa, za]; exact rfl) ?_
    refine walk_k (gd_f (b := false) rfl rfl rfl) rfl rfl rfl (op_ldm rfl tb32 (ev1 rfl) rfl rfl) (by simp only [upd, zaa, za]; exact rfl) ?_
    refine walk_k (gd_f (b := false) rfl rfl rfl) rfl rfl rfl ((zai [] [] [] rfl (ev1 rfl) (ec (ev2 rfl) (ec (ev2 rfl) en)) rfl rfl (equalS _ (rgS w h (rgF w h ts 0 p))) rfl rfl rfl rfl rfl rfl).cast (d' := .val (.bool true)) (by rw [hsame, decide_eq_true rfl])) (by simp only [upd, zaa, za]; exact rfl) ?_
    refine walk_k (gd_f (b := false) rfl rfl rfl) rfl rfl rfl ((op_not rfl (ev2 rfl)).cast (d' := .val (.bool false)) (by kernel_rfl)) (by simp only [upd, zaa, za]; exact rfl) ?_
    refine zab rfl rfl rfl ((op_or rfl (ev1 rfl) (ev3 rfl (fun _ => rfl))).cast (d' := .val (.bool false)) (by rfl)) ?_
    refine zae ?_
    refine dwp_if_f rfl (rfl) ?_
    refine zal ?_
    refine ⟨by first | rfl | assumption | simp_all, rfl, [0, 1, 2, 3, 4, 5], rfl, ⟨rfl, rfl, rfl, rfl, rfl, by rw [List.length_append]; rfl, trivial⟩⟩
  · try simp only [decide_eq_true_eq, decide_eq_false_iff_not, beq_iff_eq, bne_iff_ne, beq_eq_false_iff_ne, bne_eq_false_iff_eq, Bool.not_eq_true', Bool.not_eq_false', Bool.and_eq_true, Bool.or_eq_true, Bool.or_eq_false_iff, ne_eq, Decidable.not_not, Int.not_lt, Int.not_le] at c2
    refine zal ?_
    refine ⟨by first | rfl | assumption | simp_all, rfl, [0, 1, 2, 3, 4, 5], rfl, ⟨rfl, rfl, rfl, rfl, rfl, by rw [List.length_append]; rfl, trivial⟩⟩
set_option maxRecDepth 4000 in
set_option maxHeartbeats 1000000 in
theorem gr_span (w h : Int) (ts : List TL) (hv : CvOk w h ts) (hg : tsRng ts) (p : P2) (hp : onP w h p = true) (l : List Sp) (hl : l.length ≤ 1000000) (hu : ∀ q ∈ ptsS l, onP w h q = true ∧ (rgF w h ts 0 p).has q = true) (s : Sp) (hs : rchS s ∧ s.f ≤ s.t) (P : List P2) (hP : P.length + s.wd ≤ 1000000000) (hm : ∀ k : Nat, k < s.wd → (⟨s.f + (k : Int), s.y⟩ : P2) ∈ ptsS l) : DRound Tryz.prog 0 [.val (.agg (s3 s).toArray)] [.lp 23 [(2, .loc 1 0)] #[7] alrA alrB .ready none, .mix 78 [.yld 2], .lp 185 [(6, .loc 3 0), (7, .loc 4 0), (18, .loc 5 0), (24, .loc 6 0), (26, .loc 7 0)] #[147] grrA grrB .ready none, .flat 4 [.bool false], .mix 29 [cvD w h (dpR ts)], .mix 32 [.slf 3 (rgS w h (rgF w h ts 0 p)).length ((rgS w h (rgF w h ts 0 p)).flatMap s3)], .flat 44 (c4 (getC w ts p.x p.y)), .flat 3 [.int .i64 ((P).length : Int)]] true [.lp 23 [(2, .loc 1 0)] #[7] alrA alrB .ready none, .mix 78 [.yld 2], .lp 185 [(6, .loc 3 0), (7, .loc 4 0), (18, .loc 5 0), (24, .loc 6 0), (26, .loc 7 0)] #[147] grrA grrB .ready none, .flat 4 [.bool false], .mix 29 [cvD w h (dpR ts)], .mix 32 [.slf 3 (rgS w h (rgF w h ts 0 p)).length ((rgS w h (rgF w h ts 0 p)).flatMap s3)], .flat 44 (c4 (getC w ts p.x p.y)), .flat 3 [.int .i64 (((P ++ s.pts)).length : Int)]] := by
  obtain ⟨hr, hft⟩ := hs
  have hr2 := hr
  unfold rchS at hr2
  have hwd : (s.wd : Int) = s.t - s.f + 1 := by unfold Sp.wd; omega
  have hpw := pts_wd s
  refine dround_go 8 rfl rfl (by simp) rfl rfl fun s0 hs0 => ?_
  refine zah 1 (by simp only [holes, List.cons_append, List.nil_append]; exact rfl) ?_
  refine zac ?_
  refine zaj rfl rfl rfl (op_alloc 8 rfl zr41 rfl) (by simp only [upd, zaa, za]; exact rfl) ?_
  refine walk_s rfl rfl (op_stwa rfl tb41 (ev1 rfl) (ev1 rfl) rfl rfl rfl rfl) (by simp only [upd, zaa, za]; exact rfl) ?_
  refine zae ?_
  refine ⟨rfl, ?_⟩
  simp only [zaa, za]
  refine zak ?_
  refine zaf ?_
  refine zac ?_
  refine zab rfl rfl rfl (op_fa rfl fo41_1 (ev1 rfl)) ?_
  refine zab rfl rfl rfl (op_ldo rfl tb3 (ev1 rfl) rfl rfl) ?_
  refine zab rfl rfl rfl (zad (.inr rfl) (ev1 rfl)) ?_
  refine zae ?_
  refine zak ?_
  refine dwp_loopS ⟨hs0, rfl⟩ (α := Nat) (fun k => [(4, .val (.int .i64 (s.f + (k : Int))))]) [(2, _), (3, _)] (fun k => [(7, .flat 3 [.int .i64 (((P ++ s.pts.take k)).length : Int)])]) [_, _, _, _, _, _, _, .hole, _] (fun k => k ≤ s.wd) (fun k => s.wd - k) 0 [0, 1, 2, 3, 4, 5, 6, 7, 8] (Nat.zero_le _) rfl ⟨rfl, rfl, trivial⟩ ⟨congrArg (fun z => some (D.val (.int .i64 z))) (by first | rfl | omega), trivial⟩ ⟨rfl, rfl, rfl, rfl, rfl, rfl, rfl, by rw [List.take_zero, List.append_nil]; rfl, rfl, trivial⟩ ?_
  intro k hx
  simp only [upd, zaa, za, List.cons_append, List.nil_append]
  have hk0 := hx
  refine zaf ?_
  refine zaf ?_
  refine zac ?_
  refine zab rfl rfl rfl (zad (.inl rfl) (ev1 rfl)) ?_
  refine zab rfl rfl rfl (op_fa rfl fo41_2 (ev1 rfl)) ?_
  refine zab rfl rfl rfl (op_ldo rfl tb3 (ev1 rfl) rfl rfl) ?_
  refine zab rfl rfl rfl (op_leq rfl (ev1 rfl) (ev1 rfl)) ?_
  refine zae ?_
  refine dwp_cond rfl (fun c1 => ?_) (fun c1 => ?_)
  · try simp only [decide_eq_true_eq, decide_eq_false_iff_not, beq_iff_eq, bne_iff_ne, beq_eq_false_iff_ne, bne_eq_false_iff_eq, Bool.not_eq_true', Bool.not_eq_false', Bool.and_eq_true, Bool.or_eq_true, Bool.or_eq_false_iff, ne_eq, Decidable.not_not, Int.not_lt, Int.not_le] at c1
    refine zal ?_
    refine zaf ?_
    refine zak ?_
    refine zaf ?_
    have hk : k < s.wd := by omega
    have hq := hm k hk
    refine zac ?_
    refine zab rfl rfl rfl (op_ldm rfl tb78 (ev1 rfl) rfl rfl) ?_
    refine zab rfl rfl rfl (zad (.inl rfl) (ev1 rfl)) ?_
    refine zab rfl rfl rfl (op_fa rfl fo41_0 (ev1 rfl)) ?_
    refine zab rfl rfl rfl (op_ldo rfl tb3 (ev1 rfl) rfl rfl) ?_
    refine zab rfl rfl rfl (op_build (ps := [(0, .tmp 17), (1, .tmp 19)]) rfl fl26 zr26 (vc (ev1 rfl) (vc (ev1 rfl) vn)) rfl rfl) ?_
    refine zaj rfl rfl rfl (op_y (i := 0) [2, 3, 4, 5, 6, 7] [] [] rfl (ev1 rfl) (ec (ev1 rfl) en) rfl rfl rfl (grRound w h ts hv hg p hp (P ++ s.pts.take k) (by have := List.length_take_le k s.pts; rw [List.length_append]; omega) ⟨s.f + (k : Int), s.y⟩ (hu _ hq).1 (hu _ hq).2) rfl rfl rfl rfl rfl) (by simp only [upd, zaa, za]; exact rfl) ?_
    refine zab rfl rfl rfl (op_not rfl (ev1 rfl)) ?_
    refine zae ?_
    refine dwp_if_f rfl (rfl) ?_
    refine zal ?_
    refine zac ?_
    refine zab rfl rfl rfl (zad (.inl rfl) (ev1 rfl)) ?_
    refine zab rfl rfl rfl (op_add' rfl (ev1 rfl) (ev1 rfl) (fun _ => IntWalk.i64_in _ (by omega))) ?_
    refine zab rfl rfl rfl (zad (.inr rfl) (ev1 rfl)) ?_
    refine zae ?_
    refine ⟨k + 1, [0, 1, 2, 3, 4, 5, 6, 7, 8], by omega, by simp only []; omega, rfl, ⟨congrArg (fun z => some (D.val (.int .i64 z))) (by first | rfl | omega), rfl, rfl, trivial⟩, ⟨rfl, rfl, rfl, rfl, rfl, rfl, rfl, by rw [pts_add hk, ← List.append_assoc]; rfl, rfl, trivial⟩⟩
  · try simp only [decide_eq_true_eq, decide_eq_false_iff_not, beq_iff_eq, bne_iff_ne, beq_eq_false_iff_ne, bne_eq_false_iff_eq, Bool.not_eq_true', Bool.not_eq_false', Bool.and_eq_true, Bool.or_eq_true, Bool.or_eq_false_iff, ne_eq, Decidable.not_not, Int.not_lt, Int.not_le] at c1
    refine dwp_exit ?_
    obtain rfl : k = s.wd := by omega
    try rw [show s.pts.take s.wd = s.pts from List.take_of_length_le (by omega)]
    refine ⟨by first | rfl | assumption | simp_all, rfl, [0, 1, 2, 3, 4, 5, 6, 7], rfl, ⟨rfl, rfl, rfl, rfl, rfl, rfl, rfl, rfl, trivial⟩⟩
set_option maxRecDepth 4000 in
set_option maxHeartbeats 1000000 in
theorem gr_told (w h : Int) (ts : List TL) (hv : CvOk w h ts) (hg : tsRng ts) (p : P2) (hp : onP w h p = true) (l : List Sp) (hl : l.length ≤ 1000000) (hu : ∀ q ∈ ptsS l, onP w h q = true ∧ (rgF w h ts 0 p).has q = true) (hl0 : l.length ≤ 9223372036854775807) (hc : chkS l) : DFun Tryz.prog 67 [.yld 0, .loc 8 0] [.lp 23 [(2, .loc 1 0)] #[7] alrA alrB .ready none, .mix 78 [.yld 2], .lp 185 [(6, .loc 3 0), (7, .loc 4 0), (18, .loc 5 0), (24, .loc 6 0), (26, .loc 7 0)] #[147] grrA grrB .ready none, .flat 4 [.bool false], .mix 29 [cvD w h (dpR ts)], .mix 32 [.slf 3 (rgS w h (rgF w h ts 0 p)).length ((rgS w h (rgF w h ts 0 p)).flatMap s3)], .flat 44 (c4 (getC w ts p.x p.y)), .flat 3 [.int .i64 ((([] : List P2)).length : Int)], .mix 32 [.slf 3 l.length (l.flatMap s3)]] (.tup []) [.lp 23 [(2, .loc 1 0)] #[7] alrA alrB .ready none, .mix 78 [.yld 2], .lp 185 [(6, .loc 3 0), (7, .loc 4 0), (18, .loc 5 0), (24, .loc 6 0), (26, .loc 7 0)] #[147] grrA grrB .ready none, .flat 4 [.bool false], .mix 29 [cvD w h (dpR ts)], .mix 32 [.slf 3 (rgS w h (rgF w h ts 0 p)).length ((rgS w h (rgF w h ts 0 p)).flatMap s3)], .flat 44 (c4 (getC w ts p.x p.y)), .flat 3 [.int .i64 (((ptsS l)).length : Int)], .mix 32 [.slf 3 l.length (l.flatMap s3)]] := by
  refine zan (N := 19) 9 (by kernel_rfl) Tryz.func67 rfl rfl rfl (by simp only [fr0, Nat.zero_add, Nat.reduceAdd]; exact rfl) rfl fun s0 hs0 => ?_
  refine zaf ?_
  refine zaf ?_
  refine zac ?_
  refine zab rfl rfl rfl (op_ldm rfl tb32 (ev1 rfl) rfl rfl) ?_
  refine zab rfl rfl rfl (zai [] [] [] rfl (ev1 rfl) (ec (ev1 rfl) en) rfl rfl (check_d l) rfl rfl rfl rfl rfl rfl) ?_
  refine zab rfl rfl rfl (op_neq rfl (ev1 rfl) (ev1 rfl)) ?_
  refine zae ?_
  refine dwp_if_f rfl (by rw [chkE_ok hc]; rfl) ?_
  refine zal ?_
  refine zaf ?_
  refine zac ?_
  refine zab rfl rfl rfl (op_ldm rfl tb32 (ev1 rfl) rfl rfl) ?_
  refine zab rfl rfl rfl (op_len rfl sl32 (ev1 rfl)) ?_
  refine zab rfl rfl rfl (zad (.inl rfl) (ev1 rfl)) ?_
  refine zae ?_
  refine zak ?_
  refine dwp_loopS ⟨hs0, rfl⟩ (α := Nat) (fun i => [(10, .val (.int .i64 (i : Int)))]) [(0, _), (8, _), (9, _)] (fun i => [(7, .flat 3 [.int .i64 (((ptsS (l.take i))).length : Int)])]) [_, _, _, _, _, _, _, .hole, _] (fun i => i ≤ l.length) (fun i => l.length - i) 0 [0, 1, 2, 3, 4, 5, 6, 7, 8] (Nat.zero_le _) rfl ⟨rfl, rfl, rfl, trivial⟩ ⟨rfl, trivial⟩ ⟨rfl, rfl, rfl, rfl, rfl, rfl, rfl, rfl, rfl, trivial⟩ ?_
  intro i hx
  simp only [upd, zaa, za, List.cons_append, List.nil_append]
  have hi0 := hx
  refine zaf ?_
  refine zac ?_
  refine zab rfl rfl rfl (op_lss rfl (ev1 rfl) (ev1 rfl)) ?_
  refine zae ?_
  refine zaf ?_
  refine dwp_cond rfl (fun c2 => ?_) (fun c2 => ?_)
  · try simp only [decide_eq_true_eq, decide_eq_false_iff_not, beq_iff_eq, bne_iff_ne, beq_eq_false_iff_ne, bne_eq_false_iff_eq, Bool.not_eq_true', Bool.not_eq_false', Bool.and_eq_true, Bool.or_eq_true, Bool.or_eq_false_iff, ne_eq, Decidable.not_not, Int.not_lt, Int.not_le] at c2
    refine zal ?_
    refine zaf ?_
    refine zak ?_
    refine zaf ?_
    have hi : i < l.length := by omega
    refine zah 1 (by simp only [holes, List.cons_append, List.nil_append]; exact rfl) ?_
    refine zac ?_
    refine zab rfl rfl rfl (op_ixsr (j := i) rfl sl32 (ev1 rfl) (ev1 rfl) (fun _ => rfl) (by decide) (by omega) (by omega)) ?_
    refine zab rfl rfl rfl (op_ldwd rfl tb41 (ev1 rfl) rfl) ?_
    refine zaj rfl rfl rfl (op_alloc 9 rfl zr41 rfl) (by simp only [upd, zaa, za]; exact rfl) ?_
    refine walk_s rfl rfl (op_stwa rfl tb41 (ev1 rfl) (ev1 rfl) rfl rfl rfl rfl) (by simp only [upd, zaa, za]; exact rfl) ?_
    refine zae ?_
    refine zaf ?_
    refine zac ?_
    refine zab rfl rfl rfl (zad (.inl rfl) (ev1 rfl)) ?_
    refine zab rfl rfl rfl (op_ldw rfl tb41 (ev1 rfl) rfl rfl) ?_
    refine zaj rfl rfl rfl (op_y (i := 0) [0, 1, 2, 3, 4, 5, 6, 7] [] [] rfl (ev1 rfl) (ec (ev1 rfl) en) rfl rfl rfl (gr_span w h ts hv hg p hp l hl hu l[i] (hc.1 _ (List.getElem_mem hi)) _ (by have := cnt_le hc (i + 1); rw [cnt_add hi] at this; rw [ptsS_len]; omega) (fun k hk => pts_mem2 hi hk)) rfl rfl rfl rfl rfl) (by simp only [upd, zaa, za]; exact rfl) ?_
    refine zab rfl rfl rfl (op_not rfl (ev1 rfl)) ?_
    refine zae ?_
    refine dwp_if_f rfl (rfl) ?_
    refine zal ?_
    refine zac ?_
    refine zab rfl rfl rfl (op_add' rfl (ev1 rfl) (ev1 rfl) (fun _ => IntWalk.i64_in _ (by omega))) ?_
    refine zab rfl rfl rfl (zad (.inl rfl) (ev1 rfl)) ?_
    refine zae ?_
    refine ⟨i + 1, [0, 1, 2, 3, 4, 5, 6, 7, 8], by omega, by simp only []; omega, rfl, ⟨rfl, rfl, rfl, rfl, trivial⟩, ⟨rfl, rfl, rfl, rfl, rfl, rfl, rfl, by rw [ptsS_add hi]; rfl, rfl, trivial⟩⟩
  · try simp only [decide_eq_true_eq, decide_eq_false_iff_not, beq_iff_eq, bne_iff_ne, beq_eq_false_iff_ne, bne_eq_false_iff_eq, Bool.not_eq_true', Bool.not_eq_false', Bool.and_eq_true, Bool.or_eq_true, Bool.or_eq_false_iff, ne_eq, Decidable.not_not, Int.not_lt, Int.not_le] at c2
    refine dwp_exit ?_
    refine kend [0, 1, 2, 3, 4, 5, 6, 7, 8] (res_none rfl) rfl rfl ?_ ⟨?_, ?_, ?_, ?_, ?_, ?_, ?_, ?_, ?_, trivial⟩
    rfl
    all_goals first | exact rfl | exact (by rw [take_all (by omega)]; rfl)
set_option maxRecDepth 4000 in
set_option maxHeartbeats 1000000 in
theorem gr_told_no (w h : Int) (ts : List TL) (hv : CvOk w h ts) (hg : tsRng ts) (p : P2) (hp : onP w h p = true) (l : List Sp) (hl : l.length ≤ 1000000) (hu : ∀ q ∈ ptsS l, onP w h q = true ∧ (rgF w h ts 0 p).has q = true) (hc : ¬ chkS l) : DFun Tryz.prog 67 [.yld 0, .loc 8 0] [.lp 23 [(2, .loc 1 0)] #[7] alrA alrB .ready none, .mix 78 [.yld 2], .lp 185 [(6, .loc 3 0), (7, .loc 4 0), (18, .loc 5 0), (24, .loc 6 0), (26, .loc 7 0)] #[147] grrA grrB .ready none, .flat 4 [.bool false], .mix 29 [cvD w h (dpR ts)], .mix 32 [.slf 3 (rgS w h (rgF w h ts 0 p)).length ((rgS w h (rgF w h ts 0 p)).flatMap s3)], .flat 44 (c4 (getC w ts p.x p.y)), .flat 3 [.int .i64 ((([] : List P2)).length : Int)], .mix 32 [.slf 3 l.length (l.flatMap s3)]] (.tup []) [.lp 23 [(2, .loc 1 0)] #[7] alrA alrB .ready none, .mix 78 [.yld 2], .lp 185 [(6, .loc 3 0), (7, .loc 4 0), (18, .loc 5 0), (24, .loc 6 0), (26, .loc 7 0)] #[147] grrA grrB .ready none, .flat 4 [.bool false], .mix 29 [cvD w h (dpR ts)], .mix 32 [.slf 3 (rgS w h (rgF w h ts 0 p)).length ((rgS w h (rgF w h ts 0 p)).flatMap s3)], .flat 44 (c4 (getC w ts p.x p.y)), .flat 3 [.int .i64 ((([] : List P2)).length : Int)], .mix 32 [.slf 3 l.length (l.flatMap s3)]] := by
  refine zan (N := 19) 9 (by kernel_rfl) Tryz.func67 rfl rfl rfl (by simp only [fr0, Nat.zero_add, Nat.reduceAdd]; exact rfl) rfl fun s0 hs0 => ?_
  refine zaf ?_
  refine zaf ?_
  refine zac ?_
  refine zab rfl rfl rfl (op_ldm rfl tb32 (ev1 rfl) rfl rfl) ?_
  refine zab rfl rfl rfl (zai [] [] [] rfl (ev1 rfl) (ec (ev1 rfl) en) rfl rfl (check_d l) rfl rfl rfl rfl rfl rfl) ?_
  refine zab rfl rfl rfl (op_neq rfl (ev1 rfl) (ev1 rfl)) ?_
  refine zae ?_
  refine dwp_if_t rfl (by rw [chkE_no hc]; rfl) ?_
  refine dwp_ret ?_
  refine kend [0, 1, 2, 3, 4, 5, 6, 7, 8] (res_none rfl) rfl rfl ?_ ⟨rfl, rfl, rfl, rfl, rfl, rfl, rfl, rfl, rfl, trivial⟩
  rfl
set_option maxRecDepth 4000 in
set_option maxHeartbeats 1000000 in
theorem gr_all_ok (w h : Int) (ts : List TL) (hv : CvOk w h ts) (hg : tsRng ts) (p : P2) (hp : onP w h p = true) (l : List Sp) (hl : l.length ≤ 1000000) (hu : ∀ q ∈ ptsS l, onP w h q = true ∧ (rgF w h ts 0 p).has q = true) (hl0 : l.length ≤ 9223372036854775807) (hc : chkS l) : DFun Tryz.prog 38 [.yld 0, .loc 6 0] [.lp 185 [(6, .loc 1 0), (7, .loc 2 0), (18, .loc 3 0), (24, .loc 4 0), (26, .loc 5 0)] #[147] grrA grrB .ready none, .flat 4 [.bool false], .mix 29 [cvD w h (dpR ts)], .mix 32 [.slf 3 (rgS w h (rgF w h ts 0 p)).length ((rgS w h (rgF w h ts 0 p)).flatMap s3)], .flat 44 (c4 (getC w ts p.x p.y)), .flat 3 [.int .i64 ((([] : List P2)).length : Int)], .mix 32 [.slf 3 l.length (l.flatMap s3)]] (.tup []) [.lp 185 [(6, .loc 1 0), (7, .loc 2 0), (18, .loc 3 0), (24, .loc 4 0), (26, .loc 5 0)] #[147] grrA grrB .ready none, .flat 4 [.bool false], .mix 29 [cvD w h (dpR ts)], .mix 32 [.slf 3 (rgS w h (rgF w h ts 0 p)).length ((rgS w h (rgF w h ts 0 p)).flatMap s3)], .flat 44 (c4 (getC w ts p.x p.y)), .flat 3 [.int .i64 (((ptsS l)).length : Int)], .mix 32 [.slf 3 l.length (l.flatMap s3)]] := by
  refine zan (N := 23) 7 (by kernel_rfl) Tryz.func38 rfl rfl rfl (by simp only [fr0, Nat.zero_add, Nat.reduceAdd]; exact rfl) rfl fun s0 hs0 => ?_
  refine zaf ?_
  refine zah 1 (by simp only [holes, List.cons_append, List.nil_append]; exact rfl) ?_
  refine zac ?_
  refine zaj rfl rfl rfl (op_boxm 7 rfl (ev1 rfl) (fun s v h => by cases h <;> rfl) rfl) (by simp only [upd, zaa, za]; exact rfl) ?_
  refine zae ?_
  refine zaf ?_
  refine zah 1 (by simp only [holes, List.cons_append, List.nil_append]; exact rfl) ?_
  refine zac ?_
  refine zab rfl rfl rfl (op_ldm rfl tb32 (ev1 rfl) rfl rfl) ?_
  refine zaj rfl rfl rfl (zai [] [] [8] rfl (ev1 rfl) (ec (ev1 rfl) en) rfl rfl (told_d l) rfl rfl rfl rfl rfl rfl) (by simp only [upd, zaa, za]; exact rfl) ?_
  refine zae ?_
  refine zak ?_
  refine dwp_hole ?_
  simp only [List.cons_append, List.nil_append]
  refine dwp_rf (FL := [(2, _)]) (st := .ready) (pe := none) [9, 7, 0, 1, 2, 3, 4, 5, 8] [] [] 9 rfl rfl (ev1 rfl) rfl (subF_lk ⟨rfl, trivial⟩) rfl rfl rfl (gr_told w h ts hv hg p hp l hl hu hl0 hc) rfl rfl rfl rfl rfl rfl rfl (by simp) (fun e => ?_) (fun c e => ?_)
  · simp only [upd, zaa, za]
    refine kend [0, 1, 2, 3, 4, 5, 6] (res_none rfl) rfl rfl ?_ ⟨rfl, rfl, rfl, rfl, rfl, rfl, rfl, trivial⟩
    rfl
  · cases e
set_option maxRecDepth 4000 in
set_option maxHeartbeats 1000000 in
theorem gr_all_no (w h : Int) (ts : List TL) (hv : CvOk w h ts) (hg : tsRng ts) (p : P2) (hp : onP w h p = true) (l : List Sp) (hl : l.length ≤ 1000000) (hu : ∀ q ∈ ptsS l, onP w h q = true ∧ (rgF w h ts 0 p).has q = true) (hc : ¬ chkS l) : DFun Tryz.prog 38 [.yld 0, .loc 6 0] [.lp 185 [(6, .loc 1 0), (7, .loc 2 0), (18, .loc 3 0), (24, .loc 4 0), (26, .loc 5 0)] #[147] grrA grrB .ready none, .flat 4 [.bool false], .mix 29 [cvD w h (dpR ts)], .mix 32 [.slf 3 (rgS w h (rgF w h ts 0 p)).length ((rgS w h (rgF w h ts 0 p)).flatMap s3)], .flat 44 (c4 (getC w ts p.x p.y)), .flat 3 [.int .i64 ((([] : List P2)).length : Int)], .mix 32 [.slf 3 l.length (l.flatMap s3)]] (.tup []) [.lp 185 [(6, .loc 1 0), (7, .loc 2 0), (18, .loc 3 0), (24, .loc 4 0), (26, .loc 5 0)] #[147] grrA grrB .ready none, .flat 4 [.bool false], .mix 29 [cvD w h (dpR ts)], .mix 32 [.slf 3 (rgS w h (rgF w h ts 0 p)).length ((rgS w h (rgF w h ts 0 p)).flatMap s3)], .flat 44 (c4 (getC w ts p.x p.y)), .flat 3 [.int .i64 ((([] : List P2)).length : Int)], .mix 32 [.slf 3 l.length (l.flatMap s3)]] := by
  refine zan (N := 23) 7 (by kernel_rfl) Tryz.func38 rfl rfl rfl (by simp only [fr0, Nat.zero_add, Nat.reduceAdd]; exact rfl) rfl fun s0 hs0 => ?_
  refine zaf ?_
  refine zah 1 (by simp only [holes, List.cons_append, List.nil_append]; exact rfl) ?_
  refine zac ?_
  refine zaj rfl rfl rfl (op_boxm 7 rfl (ev1 rfl) (fun s v h => by cases h <;> rfl) rfl) (by simp only [upd, zaa, za]; exact rfl) ?_
  refine zae ?_
  refine zaf ?_
  refine zah 1 (by simp only [holes, List.cons_append, List.nil_append]; exact rfl) ?_
  refine zac ?_
  refine zab rfl rfl rfl (op_ldm rfl tb32 (ev1 rfl) rfl rfl) ?_
  refine zaj rfl rfl rfl (zai [] [] [8] rfl (ev1 rfl) (ec (ev1 rfl) en) rfl rfl (told_d l) rfl rfl rfl rfl rfl rfl) (by simp only [upd, zaa, za]; exact rfl) ?_
  refine zae ?_
  refine zak ?_
  refine dwp_hole ?_
  simp only [List.cons_append, List.nil_append]
  refine dwp_rf (FL := [(2, _)]) (st := .ready) (pe := none) [9, 7, 0, 1, 2, 3, 4, 5, 8] [] [] 9 rfl rfl (ev1 rfl) rfl (subF_lk ⟨rfl, trivial⟩) rfl rfl rfl (gr_told_no w h ts hv hg p hp l hl hu hc) rfl rfl rfl rfl rfl rfl rfl (by simp) (fun e => ?_) (fun c e => ?_)
  · simp only [upd, zaa, za]
    refine kend [0, 1, 2, 3, 4, 5, 6] (res_none rfl) rfl rfl ?_ ⟨rfl, rfl, rfl, rfl, rfl, rfl, rfl, trivial⟩
    rfl
  · cases e
theorem gr_all (w h : Int) (ts : List TL) (hv : CvOk w h ts) (hg : tsRng ts) (p : P2) (hp : onP w h p = true) (l : List Sp) (hl : l.length ≤ 1000000) (hu : ∀ q ∈ ptsS l, onP w h q = true ∧ (rgF w h ts 0 p).has q = true) (hl0 : l.length ≤ 9223372036854775807) : DFun Tryz.prog 38 [.yld 0, .loc 6 0] [.lp 185 [(6, .loc 1 0), (7, .loc 2 0), (18, .loc 3 0), (24, .loc 4 0), (26, .loc 5 0)] #[147] grrA grrB .ready none, .flat 4 [.bool false], .mix 29 [cvD w h (dpR ts)], .mix 32 [.slf 3 (rgS w h (rgF w h ts 0 p)).length ((rgS w h (rgF w h ts 0 p)).flatMap s3)], .flat 44 (c4 (getC w ts p.x p.y)), .flat 3 [.int .i64 ((([] : List P2)).length : Int)], .mix 32 [.slf 3 l.length (l.flatMap s3)]] (.tup []) [.lp 185 [(6, .loc 1 0), (7, .loc 2 0), (18, .loc 3 0), (24, .loc 4 0), (26, .loc 5 0)] #[147] grrA grrB .ready none, .flat 4 [.bool false], .mix 29 [cvD w h (dpR ts)], .mix 32 [.slf 3 (rgS w h (rgF w h ts 0 p)).length ((rgS w h (rgF w h ts 0 p)).flatMap s3)], .flat 44 (c4 (getC w ts p.x p.y)), .flat 3 [.int .i64 (((ptsL l)).length : Int)], .mix 32 [.slf 3 l.length (l.flatMap s3)]] := by
  by_cases hc : chkS l
  · (try rw [ptsL_ok hc]); exact gr_all_ok w h ts hv hg p hp l hl hu hl0 hc
  · (try rw [ptsL_no hc]); exact gr_all_no w h ts hv hg p hp l hl hu hc
theorem rgW_bool (w h : Int) (ts : List TL) (tol : Int) (p : P2) : ((refE w h [tol] [p] == 0) || (((rgW w h ts tol p).length : Int) == 0)) = true := by
  by_cases h0 : refE w h [tol] [p] = 0
  · rw [h0]; rfl
  · rw [rgW_no h0]; simp
end Go.Proofs.YtfnhckildfbikaaGreat
namespace Go.Proofs.YtfnhckildfbikaaGreat
set_option maxRecDepth 4000
set_option linter.unusedVariables false
set_option linter.unusedSimpArgs false
open Go.RowKit
attribute [local irreducible] crT crU pcV rgF rgS gtP zFD refE rgW
theorem ar27 : arE Tryz.prog 27 = some (2, 1) := by kernel_rfl
set_option maxRecDepth 4000 in
set_option maxHeartbeats 1000000 in
theorem grows_d (w h : Int) (ts : List TL) (hg : tsRng ts) (p : P2) (x y : Int) : DFun Tryz.prog 3 [shD w h ts, .val (.agg #[.int .i64 p.x, .int .i64 p.y]), .val (.agg #[.int .i64 x, .int .i64 y])] [] (.val (.bool true)) [] := by
  refine zan (N := 185) 0 (by kernel_rfl) Tryz.func3 rfl rfl rfl (by simp only [fr0, Nat.zero_add, Nat.reduceAdd]; exact rfl) rfl fun s0 hs0 => ?_
  refine zaf ?_
  refine zah 4 (by simp only [holes, List.cons_append, List.nil_append]; exact rfl) ?_
  refine zac ?_
  refine zaj rfl rfl rfl (op_boxam 0 rfl (ev1 rfl) rfl) (by simp only [upd, zaa, za]; exact rfl) ?_
  refine zaj rfl rfl rfl (op_boxa 1 rfl (ev1 rfl) rfl) (by simp only [upd, zaa, za]; exact rfl) ?_
  refine zaj rfl rfl rfl (op_boxa 2 rfl (ev1 rfl) rfl) (by simp only [upd, zaa, za]; exact rfl) ?_
  refine zaj rfl rfl rfl (op_alloc 3 rfl zr4 rfl) (by simp only [upd, zaa, za]; exact rfl) ?_
  refine zae ?_
  refine zaf ?_
  refine zaf ?_
  refine zac ?_
  refine zab rfl rfl rfl (zai [] [] [] rfl (ev1 rfl) en rfl rfl (wakes_d) rfl rfl rfl rfl rfl rfl) ?_
  refine zab rfl rfl rfl ((op_not rfl (ev1 rfl)).cast (d' := .val (.bool false)) (by kernel_rfl)) ?_
  refine zae ?_
  refine dwp_if_f rfl (rfl) ?_
  refine zal ?_
  refine zaf ?_
  by_cases hr : rightB w h (ts.take 17) = true
  · have hc := rightB_ok hr
    have hle := hc.le
    refine zah 2 (by simp only [holes, List.cons_append, List.nil_append]; exact rfl) ?_
    refine zac ?_
    refine zab rfl rfl rfl (op_ldmw rfl tb24 (ev1 rfl) rfl rfl) ?_
    refine zab rfl rfl rfl (zai [] [] [] rfl (ev1 rfl) (ec (ev1 rfl) en) rfl rfl (lof_y w h ts hc) rfl rfl rfl rfl rfl rfl) ?_
    refine zab rfl rfl rfl (zad (.inl rfl) (ev1 rfl)) ?_
    refine zab rfl rfl rfl (op_ext rfl (ev1 rfl) rfl) ?_
    refine zab rfl rfl rfl (op_ext rfl (ev1 rfl) rfl) ?_
    refine zab rfl rfl rfl (op_ext rfl (ev1 rfl) rfl) ?_
    refine zaj rfl rfl rfl (op_alloc 4 rfl zr29 rfl) (by simp only [upd, zaa, za]; exact rfl) ?_
    refine zaj rfl rfl rfl (op_alloc 5 rfl zr24 rfl) (by simp only [upd, zaa, za]; exact rfl) ?_
    refine walk_s rfl rfl (op_stfm rfl tb29 (ev1 rfl) (ev1 rfl) (fun s v h => by cases h <;> exact ⟨rfl, rfl⟩) rfl (by decide)) (by simp only [upd, zaa, za]; exact rfl) ?_
    refine walk_s rfl rfl (op_stam rfl tb24 (ev1 rfl) (ev1 rfl) rfl rfl rfl rfl) (by simp only [upd, zaa, za]; exact rfl) ?_
    refine zab rfl rfl rfl (zad (.inr rfl) (ev1 rfl)) ?_
    refine zae ?_
    refine zaf ?_
    refine zaf ?_
    refine zac ?_
    refine zab rfl rfl rfl (zad (.inl rfl) (ev1 rfl)) ?_
    refine zab rfl rfl rfl ((op_not rfl (ev1 rfl)).cast (d' := .val (.bool false)) (by kernel_rfl)) ?_
    refine zae ?_
    refine dwp_if_f rfl (rfl) ?_
    refine zal ?_
    refine zaf ?_
    refine dwp_draw [([], []), ([2], []), ([], []), ([2], []), ([], []), ([], []), ([2], []), ([], []), ([2], []), ([], []), ([], []), ([], [])] mixed (by kernel_rfl) ?_
    refine zag rfl rfl (op_ixl rfl ar27 (ev1 rfl) (ev1 rfl) (fun _ => by omega)) ?_
    refine zag rfl rfl (op_ldo rfl tb3 (ev1 rfl) rfl rfl) ?_
    refine zag rfl rfl (op_ixl rfl ar27 (ev1 rfl) (ev1 rfl) (fun _ => by omega)) ?_
    refine zag rfl rfl (op_ldo rfl tb3 (ev1 rfl) rfl rfl) ?_
    refine zag rfl rfl (op_min rfl (ev1 rfl) (ev1 rfl)) ?_
    refine zag rfl rfl (op_ixl rfl ar27 (ev1 rfl) (ev1 rfl) (fun _ => by omega)) ?_
    refine zag rfl rfl (op_ldo rfl tb3 (ev1 rfl) rfl rfl) ?_
    refine zag rfl rfl (op_ixl rfl ar27 (ev1 rfl) (ev1 rfl) (fun _ => by omega)) ?_
    refine zag rfl rfl (op_ldo rfl tb3 (ev1 rfl) rfl rfl) ?_
    refine zag rfl rfl (op_max rfl (ev1 rfl) (ev1 rfl)) ?_
    refine zag rfl rfl (zad (.inr rfl) (ev1 rfl)) ?_
    refine zag rfl rfl (zad (.inr rfl) (ev1 rfl)) ?_
    refine lex_nil ?_
    refine zaf ?_
    refine zac ?_
    refine zab rfl rfl rfl (op_ldm rfl tb29 (ev1 rfl) rfl rfl) ?_
    refine zab rfl rfl rfl (op_ldw rfl tb26 (ev1 rfl) rfl rfl) ?_
    refine zab rfl rfl rfl (zad (.inl rfl) (ev1 rfl)) ?_
    refine zab rfl rfl rfl (zai [] [] [] rfl (ev1 rfl) (ec (ev1 rfl) (ec (ev1 rfl) (ec (ev1 rfl) en))) rfl rfl (region_w w h _ (ts.take 17) (dpR_ok _) hc (take_rng hg 17) p (min x y)) rfl rfl rfl rfl rfl rfl) ?_
    refine zab rfl rfl rfl (zad (.inl rfl) (ev1 rfl)) ?_
    refine zab rfl rfl rfl (op_ext rfl (ev1 rfl) rfl) ?_
    refine zab rfl rfl rfl (op_ext rfl (ev1 rfl) rfl) ?_
    refine zab rfl rfl rfl (zad (.inr rfl) (ev1 rfl)) ?_
    refine zab rfl rfl rfl (zad (.inr rfl) (ev1 rfl)) ?_
    refine zae ?_
    refine zaf ?_
    refine zac ?_
    refine zab rfl rfl rfl (op_ldm rfl tb29 (ev1 rfl) rfl rfl) ?_
    refine zab rfl rfl rfl (op_ldw rfl tb26 (ev1 rfl) rfl rfl) ?_
    refine zab rfl rfl rfl (zad (.inl rfl) (ev1 rfl)) ?_
    refine zab rfl rfl rfl (zai [] [] [] rfl (ev1 rfl) (ec (ev1 rfl) (ec (ev1 rfl) (ec (ev1 rfl) en))) rfl rfl (region_w w h _ (ts.take 17) (dpR_ok _) hc (take_rng hg 17) p (max x y)) rfl rfl rfl rfl rfl rfl) ?_
    refine zab rfl rfl rfl (zad (.inl rfl) (ev1 rfl)) ?_
    refine zab rfl rfl rfl (op_ext rfl (ev1 rfl) rfl) ?_
    refine zab rfl rfl rfl (op_ext rfl (ev1 rfl) rfl) ?_
    refine zab rfl rfl rfl (zad (.inr rfl) (ev1 rfl)) ?_
    refine zab rfl rfl rfl (zad (.inr rfl) (ev1 rfl)) ?_
    refine zae ?_
    refine zaf ?_
    refine zac ?_
    refine zab rfl rfl rfl (op_ldm rfl tb29 (ev1 rfl) rfl rfl) ?_
    refine zab rfl rfl rfl (op_ldw rfl tb26 (ev1 rfl) rfl rfl) ?_
    refine zab rfl rfl rfl (zai [] [] [] rfl (ev1 rfl) (ec (ev1 rfl) (ec (ev1 rfl) (ec (ev1 rfl) en))) rfl rfl (region_w w h _ (ts.take 17) (dpR_ok _) hc (take_rng hg 17) p 1020) rfl rfl rfl rfl rfl rfl) ?_
    refine zab rfl rfl rfl (zad (.inl rfl) (ev1 rfl)) ?_
    refine zab rfl rfl rfl (op_ext rfl (ev1 rfl) rfl) ?_
    refine zab rfl rfl rfl (op_ext rfl (ev1 rfl) rfl) ?_
    refine zab rfl rfl rfl (zad (.inr rfl) (ev1 rfl)) ?_
    refine zab rfl rfl rfl (zad (.inr rfl) (ev1 rfl)) ?_
    refine zae ?_
    refine zaf ?_
    refine zah 1 (by simp only [holes, List.cons_append, List.nil_append]; exact rfl) ?_
    refine zac ?_
    refine zab rfl rfl rfl (op_ldm rfl tb29 (ev1 rfl) rfl rfl) ?_
    refine zab rfl rfl rfl (op_ldw rfl tb26 (ev1 rfl) rfl rfl) ?_
    refine zab rfl rfl rfl (zai [] [] [] rfl (ev1 rfl) (ec (ev1 rfl) (ec (ev1 rfl) (ec (ev1 rfl) en))) rfl rfl (region_w w h _ (ts.take 17) (dpR_ok _) hc (take_rng hg 17) p 0) rfl rfl rfl rfl rfl rfl) ?_
    refine zab rfl rfl rfl (zad (.inl rfl) (ev1 rfl)) ?_
    refine zab rfl rfl rfl (op_ext rfl (ev1 rfl) rfl) ?_
    refine zab rfl rfl rfl (op_ext rfl (ev1 rfl) rfl) ?_
    refine zaj rfl rfl rfl (op_alloc 6 rfl zr32 rfl) (by simp only [upd, zaa, za]; exact rfl) ?_
    refine walk_s rfl rfl (op_stfm rfl tb32 (ev1 rfl) (ev1 rfl) (fun s v h => by cases h <;> exact ⟨rfl, rfl⟩) rfl (by decide)) (by simp only [upd, zaa, za]; exact rfl) ?_
    refine zab rfl rfl rfl (zad (.inr rfl) (ev1 rfl)) ?_
    refine zae ?_
    refine zaf ?_
    refine zaf ?_
    refine zac ?_
    refine zab rfl rfl rfl (zad (.inl rfl) (ev1 rfl)) ?_
    refine zab rfl rfl rfl (op_neq rfl (ev1 rfl) (ev1 rfl)) ?_
    refine zab rfl rfl rfl (zad (.inl rfl) (ev1 rfl)) ?_
    refine walk_gr (gd_f rfl rfl rfl) rfl rfl rfl (zad (.inl rfl) (ev1 rfl)) ?_
    refine walk_gr (gd_f rfl rfl rfl) rfl rfl rfl (op_neq rfl (ev2 rfl) (ev1 rfl)) ?_
    refine zab rfl rfl rfl (op_or rfl (ev1 rfl) (ev3 rfl id)) ?_
    refine zae ?_
    refine dwp_cond rfl (fun c3 => ?_) (fun c3 => ?_)
    · refine zaf ?_
      refine zac ?_
      refine zab rfl rfl rfl (zad (.inl rfl) (ev1 rfl)) ?_
      refine zab rfl rfl rfl (op_eql rfl (ev1 rfl) (ev1 rfl)) ?_
      refine zab rfl rfl rfl (zad (.inl rfl) (ev1 rfl)) ?_
      refine walk_gr (gd_f rfl rfl rfl) rfl rfl rfl (zad (.inl rfl) (ev1 rfl)) ?_
      refine walk_gr (gd_f rfl rfl rfl) rfl rfl rfl (op_len rfl sl32 (ev2 rfl)) ?_
      refine walk_gr (gd_f rfl rfl rfl) rfl rfl rfl (op_eql rfl (ev2 rfl) (ev1 rfl)) ?_
      refine zab rfl rfl rfl (op_or rfl (ev1 rfl) (ev3 rfl id)) ?_
      refine zab rfl rfl rfl (zad (.inl rfl) (ev1 rfl)) ?_
      refine walk_gr (gd_t rfl rfl rfl) rfl rfl rfl (zad (.inl rfl) (ev1 rfl)) ?_
      refine walk_gr (gd_t rfl rfl rfl) rfl rfl rfl (op_eql rfl (ev2 rfl) (ev1 rfl)) ?_
      refine walk_gr (gd_t rfl rfl rfl) rfl rfl rfl (zad (.inl rfl) (ev2 rfl)) ?_
      refine walk_gr (gd_ff rfl rfl rfl) rfl rfl rfl (zad (.inl rfl) (ev1 rfl)) ?_
      refine walk_gr (gd_ff rfl rfl rfl) rfl rfl rfl (op_len rfl sl32 (ev2 rfl)) ?_
      refine walk_gr (gd_ff rfl rfl rfl) rfl rfl rfl (op_eql rfl (ev2 rfl) (ev1 rfl)) ?_
      refine walk_gr (gd_t rfl rfl rfl) rfl rfl rfl (op_or rfl (ev2 rfl) (ev2 rfl)) ?_
      refine zab rfl rfl rfl ((op_and rfl (ev1 rfl) (ev3 rfl id)).cast (d' := .val (.bool true)) (by rw [rgW_bool, rgW_bool]; rfl)) ?_
      refine walk_s rfl rfl (op_stwb rfl tb4 (ev1 rfl) (ev1 rfl) rfl) (by simp only [upd, zaa, za]; exact rfl) ?_
      refine zae ?_
      refine dwp_ret ?_
      refine kend0 (rs1 rfl (rv_1 tb4 rfl rfl rfl)) rfl ?_
      rfl
    · have h12 : refE w h [(min x y)] [p] = 0 ∧ refE w h [(max x y)] [p] = 0 := by simpa using c3
      obtain ⟨h1, h2⟩ := h12
      obtain ⟨_, hp⟩ := refE_ok h1
      have h3 : refE w h [1020] [p] = 0 := refE_k1 (by decide) hp
      have h4 : refE w h [0] [p] = 0 := refE_k1 (by decide) hp
      have hps : onS w h p.x p.y = true := hp
      have w1 := rgW_ok (ts := (ts.take 17)) h1
      have w2 := rgW_ok (ts := (ts.take 17)) h2
      have w3 := rgW_ok (ts := (ts.take 17)) h3
      have w4 := rgW_ok (ts := (ts.take 17)) h4
      obtain ⟨u1, u2⟩ := uni_sub (rgS_chk hc.may _) (rgS_chk hc.may _) (mono_reg hc.may (ts := (ts.take 17)) (show (min x y) ≤ (max x y) by omega) hp)
      have f1 := rg_few2 hc.may (rgF w h (ts.take 17) (min x y) p)
      have f2 := rg_few2 hc.may (rgF w h (ts.take 17) (max x y) p)
      have f3 := rg_few2 hc.may (rgF w h (ts.take 17) 1020 p)
      have f4 := rg_few2 hc.may (rgF w h (ts.take 17) 0 p)
      have hce := cnt_every hc.may (take_rng hg 17) hp
      have hb := mayS_b hc.may
      have hm1 : 0 ≤ w * 8 * (h * 8) := Int.mul_nonneg (by omega) (by omega)
      have hm2 : w * 8 * (h * 8) ≤ 32 * 32 := Int.mul_le_mul (by omega) (by omega) (by omega) (by omega)
      have hu : ∀ q ∈ ptsS (rgS w h (rgF w h (ts.take 17) 0 p)), onP w h q = true ∧ (rgF w h (ts.take 17) 0 p).has q = true := fun q hq => (rgS_pts hc.may _ q).1 hq
      have hpp : (rgF w h (ts.take 17) 0 p).has p = true := has_pos.2 (by rw [(rgF_fin hc.may hp).one]; omega)
      refine zal ?_
      refine zaf ?_
      refine dwp_wk 17 rfl (Wk.of_eq (d' := .val (.int .i64 0)) (by rw [h3])) ?_
      refine dwp_wk 19 rfl (Wk.of_eq (d' := .val (.int .i64 0)) (by rw [h4])) ?_
      refine dwp_wk 12 rfl (Wk.of_eq (d' := .slf 3 (rgS w h (rgF w h (ts.take 17) (min x y) p)).length ((rgS w h (rgF w h (ts.take 17) (min x y) p)).flatMap s3)) (by rw [w1])) ?_
      refine dwp_wk 14 rfl (Wk.of_eq (d' := .slf 3 (rgS w h (rgF w h (ts.take 17) (max x y) p)).length ((rgS w h (rgF w h (ts.take 17) (max x y) p)).flatMap s3)) (by rw [w2])) ?_
      refine dwp_wk 16 rfl (Wk.of_eq (d' := .slf 3 (rgS w h (rgF w h (ts.take 17) 1020 p)).length ((rgS w h (rgF w h (ts.take 17) 1020 p)).flatMap s3)) (by rw [w3])) ?_
      refine dwp_reb 6 (reb_eq (k' := .mix 32 [.slf 3 (rgS w h (rgF w h (ts.take 17) 0 p)).length ((rgS w h (rgF w h (ts.take 17) 0 p)).flatMap s3)]) (by rw [w4]; rfl)) rfl rfl (by simp only [List.cons_append, List.nil_append, zaa, za, List.map]; exact rfl) ?_
      refine zac ?_
      refine zab rfl rfl rfl (op_ldm rfl tb29 (ev1 rfl) rfl rfl) ?_
      refine zab rfl rfl rfl (zai [] [] [] rfl (ev1 rfl) (ec (ev1 rfl) en) rfl rfl (size_d w h _ (ts.take 17) (dpR_ok _) hc) rfl rfl rfl rfl rfl rfl) ?_
      refine zab rfl rfl rfl (zad (.inl rfl) (ev1 rfl)) ?_
      refine zab rfl rfl rfl (op_ext rfl (ev1 rfl) rfl) ?_
      refine zab rfl rfl rfl (op_ext rfl (ev1 rfl) rfl) ?_
      refine zab rfl rfl rfl (zad (.inr rfl) (ev1 rfl)) ?_
      refine zab rfl rfl rfl (zad (.inr rfl) (ev1 rfl)) ?_
      refine zae ?_
      refine zaf ?_
      refine zac ?_
      refine zab rfl rfl rfl (zad (.inl rfl) (ev1 rfl)) ?_
      refine zab rfl rfl rfl (zad (.inl rfl) (ev1 rfl)) ?_
      refine zab rfl rfl rfl (op_bsm (ps := [(0, .tmp 106), (1, .tmp 107)]) rfl sl85 zr32 rfl (ec (ev1 rfl) (ec (ev1 rfl) en)) rfl (by decide)) ?_
      refine zab rfl rfl rfl (zai [] [] [] rfl (ev1 rfl) (ec (ev1 rfl) en) rfl rfl (union_d [(rgS w h (rgF w h (ts.take 17) (min x y) p)), (rgS w h (rgF w h (ts.take 17) (max x y) p))] (by simp; omega)) rfl rfl rfl rfl rfl rfl) ?_
      refine zab rfl rfl rfl (zad (.inl rfl) (ev1 rfl)) ?_
      refine zab rfl rfl rfl ((op_ext rfl (ev1 rfl) rfl).cast (d' := .slf 3 (rgS w h (rgF w h (ts.take 17) (max x y) p)).length ((rgS w h (rgF w h (ts.take 17) (max x y) p)).flatMap s3)) (by rw [u1])) ?_
      refine zab rfl rfl rfl ((op_ext rfl (ev1 rfl) rfl).cast (d' := .val (.int .i64 0)) (by rw [u2])) ?_
      refine zab rfl rfl rfl (zad (.inr rfl) (ev1 rfl)) ?_
      refine zab rfl rfl rfl (zad (.inr rfl) (ev1 rfl)) ?_
      refine zae ?_
      refine zaf ?_
      refine zaf ?_
      refine zac ?_
      refine zab rfl rfl rfl (zad (.inl rfl) (ev1 rfl)) ?_
      refine zab rfl rfl rfl ((op_neq rfl (ev1 rfl) (ev1 rfl)).cast (d' := .val (.bool false)) (by kernel_rfl)) ?_
      refine zab rfl rfl rfl (zad (.inl rfl) (ev1 rfl)) ?_
      refine walk_k (gd_f (b := false) rfl rfl rfl) rfl rfl rfl (zad (.inl rfl) (ev1 rfl)) (by simp only [upd, zaa, za]; exact rfl) ?_
      refine walk_k (gd_f (b := false) rfl rfl rfl) rfl rfl rfl ((op_neq rfl (ev2 rfl) (ev1 rfl)).cast (d' := .val (.bool false)) (by kernel_rfl)) (by simp only [upd, zaa, za]; exact rfl) ?_
      refine zab rfl rfl rfl ((op_or rfl (ev1 rfl) (ev3 rfl (fun _ => rfl))).cast (d' := .val (.bool false)) (by rfl)) ?_
      refine zab rfl rfl rfl (zad (.inl rfl) (ev1 rfl)) ?_
      refine walk_k (gd_f (b := false) rfl rfl rfl) rfl rfl rfl (zad (.inl rfl) (ev1 rfl)) (by simp only [upd, zaa, za]; exact rfl) ?_
      refine walk_k (gd_f (b := false) rfl rfl rfl) rfl rfl rfl ((op_neq rfl (ev2 rfl) (ev1 rfl)).cast (d' := .val (.bool false)) (by kernel_rfl)) (by simp only [upd, zaa, za]; exact rfl) ?_
      refine zab rfl rfl rfl ((op_or rfl (ev1 rfl) (ev3 rfl (fun _ => rfl))).cast (d' := .val (.bool false)) (by rfl)) ?_
      refine zab rfl rfl rfl (zad (.inl rfl) (ev1 rfl)) ?_
      refine walk_k (gd_f (b := false) rfl rfl rfl) rfl rfl rfl (zad (.inl rfl) (ev1 rfl)) (by simp only [upd, zaa, za]; exact rfl) ?_
      refine walk_k (gd_f (b := false) rfl rfl rfl) rfl rfl rfl (zad (.inl rfl) (ev1 rfl)) (by simp only [upd, zaa, za]; exact rfl) ?_
      refine walk_k (gd_f (b := false) rfl rfl rfl) rfl rfl rfl ((zai [] [] [] rfl (ev1 rfl) (ec (ev2 rfl) (ec (ev2 rfl) en)) rfl rfl (equalS (rgS w h (rgF w h (ts.take 17) (max x y) p)) (rgS w h (rgF w h (ts.take 17) (max x y) p))) rfl rfl rfl rfl rfl rfl).cast (d' := .val (.bool true)) (by rw [decide_eq_true rfl])) (by simp only [upd, zaa, za]; exact rfl) ?_
      refine walk_k (gd_f (b := false) rfl rfl rfl) rfl rfl rfl ((op_not rfl (ev2 rfl)).cast (d' := .val (.bool false)) (by kernel_rfl)) (by simp only [upd, zaa, za]; exact rfl) ?_
      refine zab rfl rfl rfl ((op_or rfl (ev1 rfl) (ev3 rfl (fun _ => rfl))).cast (d' := .val (.bool false)) (by rfl)) ?_
      refine zab rfl rfl rfl (zad (.inl rfl) (ev1 rfl)) ?_
      refine walk_k (gd_f (b := false) rfl rfl rfl) rfl rfl rfl (zad (.inl rfl) (ev1 rfl)) (by simp only [upd, zaa, za]; exact rfl) ?_
      refine walk_k (gd_f (b := false) rfl rfl rfl) rfl rfl rfl (zai [] [] [] rfl (ev1 rfl) (ec (ev2 rfl) en) rfl rfl (count_d (rgS w h (rgF w h (ts.take 17) 1020 p)) (by omega)) rfl rfl rfl rfl rfl rfl) (by simp only [upd, zaa, za]; exact rfl) ?_
      refine walk_k (gd_f (b := false) rfl rfl rfl) rfl rfl rfl (zad (.inl rfl) (ev1 rfl)) (by simp only [upd, zaa, za]; exact rfl) ?_
      refine walk_k (gd_f (b := false) rfl rfl rfl) rfl rfl rfl (zad (.inl rfl) (ev1 rfl)) (by simp only [upd, zaa, za]; exact rfl) ?_
      refine walk_k (gd_f (b := false) rfl rfl rfl) rfl rfl rfl (op_mul' rfl (ev2 rfl) (ev2 rfl) (fun _ => IntWalk.i64_in _ (by omega))) (by simp only [upd, zaa, za]; exact rfl) ?_
      refine walk_k (gd_f (b := false) rfl rfl rfl) rfl rfl rfl ((op_neq rfl (ev2 rfl) (ev2 rfl)).cast (d' := .val (.bool false)) (by rw [hce]; simp)) (by simp only [upd, zaa, za]; exact rfl) ?_
      refine zab rfl rfl rfl ((op_or rfl (ev1 rfl) (ev3 rfl (fun _ => rfl))).cast (d' := .val (.bool false)) (by rfl)) ?_
      refine zae ?_
      refine dwp_if_f rfl (rfl) ?_
      refine zal ?_
      refine zaf ?_
      refine zah 1 (by simp only [holes, List.cons_append, List.nil_append]; exact rfl) ?_
      refine zac ?_
      refine zab rfl rfl rfl (op_ldm rfl tb29 (ev1 rfl) rfl rfl) ?_
      refine zab rfl rfl rfl (op_fa rfl fo26_0 (ev1 rfl)) ?_
      refine zab rfl rfl rfl (op_ldo rfl tb3 (ev1 rfl) rfl rfl) ?_
      refine zab rfl rfl rfl (op_fa rfl fo26_1 (ev1 rfl)) ?_
      refine zab rfl rfl rfl (op_ldo rfl tb3 (ev1 rfl) rfl rfl) ?_
      refine zab rfl rfl rfl (zai [] [] [] rfl (ev1 rfl) (ec (ev1 rfl) (ec (ev1 rfl) (ec (ev1 rfl) en))) rfl rfl (at_d w h _ (ts.take 17) (dpR_ok _) hc p.x p.y) rfl rfl rfl rfl rfl rfl) ?_
      refine zab rfl rfl rfl (zad (.inl rfl) (ev1 rfl)) ?_
      refine zab rfl rfl rfl ((op_ext rfl (ev1 rfl) rfl).cast (d' := .val (.agg (c4 (getC w (ts.take 17) p.x p.y)).toArray)) (by rw [if_pos hps])) ?_
      refine zab rfl rfl rfl (op_ext rfl (ev1 rfl) rfl) ?_
      refine zaj rfl rfl rfl (op_alloc 7 rfl zr44 rfl) (by simp only [upd, zaa, za]; exact rfl) ?_
      refine walk_s rfl rfl (op_stwa rfl tb44 (ev1 rfl) (ev1 rfl) rfl rfl rfl rfl) (by simp only [upd, zaa, za]; exact rfl) ?_
      refine zab rfl rfl rfl (zad (.inr rfl) (ev1 rfl)) ?_
      refine zae ?_
      refine zaf ?_
      refine zah 1 (by simp only [holes, List.cons_append, List.nil_append]; exact rfl) ?_
      refine zac ?_
      refine zaj rfl rfl rfl (op_alloc 8 rfl zr3 rfl) (by simp only [upd, zaa, za]; exact rfl) ?_
      refine walk_s rfl rfl (op_stwi rfl tb3 (ev1 rfl) (ev1 rfl) rfl) (by simp only [upd, zaa, za]; exact rfl) ?_
      refine zae ?_
      refine zaf ?_
      refine zaf ?_
      refine zah 1 (by simp only [holes, List.cons_append, List.nil_append]; exact rfl) ?_
      refine zac ?_
      refine zab rfl rfl rfl (op_ldm rfl tb32 (ev1 rfl) rfl rfl) ?_
      refine zaj rfl rfl rfl (zai [] [] [9] rfl (ev1 rfl) (ec (ev1 rfl) en) rfl rfl (all_d (rgS w h (rgF w h (ts.take 17) 0 p)) (by omega)) rfl rfl rfl rfl rfl rfl) (by simp only [upd, zaa, za]; exact rfl) ?_
      refine zae ?_
      refine zak ?_
      refine dwp_hole ?_
      simp only [List.cons_append, List.nil_append]
      refine dwp_rf (FL := [(6, _), (7, _), (18, _), (24, _), (26, _)]) (st := .ready) (pe := none) [10, 3, 4, 6, 7, 8, 9] [] [] 10 rfl rfl (ev1 rfl) rfl (subF_lk ⟨rfl, rfl, rfl, rfl, rfl, trivial⟩) rfl rfl rfl (gr_all w h (ts.take 17) hc (take_rng hg 17) p hp (rgS w h (rgF w h (ts.take 17) 0 p)) (by omega) hu (by omega)) rfl rfl rfl rfl rfl rfl rfl (by simp) (fun e => ?_) (fun c e => ?_)
      · simp only [upd, zaa, za]
        refine zaf ?_
        refine zac ?_
        refine zab rfl rfl rfl (op_ldm rfl tb32 (ev1 rfl) rfl rfl) ?_
        refine zab rfl rfl rfl (op_ldw rfl tb26 (ev1 rfl) rfl rfl) ?_
        refine zab rfl rfl rfl ((zai [] [] [] rfl (ev1 rfl) (ec (ev1 rfl) (ec (ev1 rfl) en)) rfl rfl (has_d (rgS w h (rgF w h (ts.take 17) 0 p)) p) rfl rfl rfl rfl rfl rfl).cast (d' := .val (.bool true)) (by rw [rgS_has hc.may, hp, hpp]; rfl)) ?_
        refine walk_s rfl rfl (op_stwb rfl tb4 (ev1 rfl) (ev1 rfl) rfl) (by simp only [upd, zaa, za]; exact rfl) ?_
        refine zae ?_
        refine dwp_ret ?_
        refine kend0 (rs1 rfl (rv_1 tb4 rfl rfl rfl)) rfl ?_
        rfl
      · cases e
  · refine zah 2 (by simp only [holes, List.cons_append, List.nil_append]; exact rfl) ?_
    refine zac ?_
    refine zab rfl rfl rfl (op_ldmw rfl tb24 (ev1 rfl) rfl rfl) ?_
    refine zab rfl rfl rfl (zai [] [] [] rfl (ev1 rfl) (ec (ev1 rfl) en) rfl rfl (lof_n w h ts (by simpa using hr)) rfl rfl rfl rfl rfl rfl) ?_
    refine zab rfl rfl rfl (zad (.inl rfl) (ev1 rfl)) ?_
    refine zab rfl rfl rfl (op_ext rfl (ev1 rfl) rfl) ?_
    refine zab rfl rfl rfl (op_ext rfl (ev1 rfl) rfl) ?_
    refine zab rfl rfl rfl (op_ext rfl (ev1 rfl) rfl) ?_
    refine zaj rfl rfl rfl (op_alloc 4 rfl zr29 rfl) (by simp only [upd, zaa, za]; exact rfl) ?_
    refine zaj rfl rfl rfl (op_alloc 5 rfl zr24 rfl) (by simp only [upd, zaa, za]; exact rfl) ?_
    refine walk_s rfl rfl (op_st rfl tb29 (ev1 rfl) (ev1 rfl) rfl rfl rfl rfl (by decide) rfl) (by simp only [upd, zaa, za]; exact rfl) ?_
    refine walk_s rfl rfl (op_stam rfl tb24 (ev1 rfl) (ev1 rfl) rfl rfl rfl rfl) (by simp only [upd, zaa, za]; exact rfl) ?_
    refine zab rfl rfl rfl (zad (.inr rfl) (ev1 rfl)) ?_
    refine zae ?_
    refine zaf ?_
    refine zaf ?_
    refine zac ?_
    refine zab rfl rfl rfl (zad (.inl rfl) (ev1 rfl)) ?_
    refine zab rfl rfl rfl ((op_not rfl (ev1 rfl)).cast (d' := .val (.bool true)) (by kernel_rfl)) ?_
    refine zae ?_
    refine dwp_if_t rfl (rfl) ?_
    refine zaf ?_
    refine zac ?_
    refine walk_s rfl rfl (op_stwb rfl tb4 (ev1 rfl) (ev1 rfl) rfl) (by simp only [upd, zaa, za]; exact rfl) ?_
    refine zae ?_
    refine dwp_ret ?_
    refine kend0 (rs1 rfl (rv_1 tb4 rfl rfl rfl)) rfl ?_
    rfl
end Go.Proofs.YtfnhckildfbikaaGreat
namespace Go.Proofs.YtfnhckildfbikaaGreat
set_option maxRecDepth 4000
set_option linter.unusedVariables false
set_option linter.unusedSimpArgs false
open Go.RowKit
open Go.ChangeShapes Go.WideShapes Go.ChangeAt Go.Joins Go.Deep
theorem fits_p2 (cs : List Value) (h : fitsP [.int .i64, .int .i64] cs) : ∃ p : P2, p.rng ∧ cs = p2 p := by
  obtain ⟨x0, r, rfl, h0, g1⟩ := fitsP_cons h
  obtain ⟨x1, r, rfl, h1, g2⟩ := fitsP_cons g1
  obtain rfl := fitsP_nil g2
  obtain ⟨x, wx, rfl⟩ := fits_prim_i64 h0
  obtain ⟨y, wy, rfl⟩ := fits_prim_i64 h1
  exact ⟨⟨x, y⟩, ⟨wx, wy⟩, rfl⟩
end Go.Proofs.YtfnhckildfbikaaGreat
