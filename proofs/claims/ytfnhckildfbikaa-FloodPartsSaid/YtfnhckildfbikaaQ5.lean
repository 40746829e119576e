/- searches; neighbours, and what is near; a search goes on from a place; searches by breadth; searches by breadth, from a place; regions; what is refused; numbers are few; parts, and rims; regions, filled, and steps; parts; how many parts; rims. No condition. -/
import Derived.Test.YtfnhckildfbikaaQ4
import Derived.Test.YtfnhckildfbikaaRows
namespace Go.Proofs.Ytfnhckildfbikaa
set_option maxRecDepth 4000
set_option linter.unusedVariables false
set_option linter.unusedSimpArgs false
open Go.RowKit
attribute [local irreducible] zFD srL goF bfsF
theorem ar132 : arE Try.prog 132 = some (1024, 1) := by kernel_rfl
theorem fl134 : fdL Try.prog 134 = some [(0, 1), (1, 1024), (1025, 1)] := by kernel_rfl
theorem fo134_1 : fdO Try.prog 134 1 = some 1 := by kernel_rfl
theorem zr134 : zrC Try.prog 134 = some (zSV) := by kernel_rfl
set_option maxRecDepth 4000 in
set_option maxHeartbeats 1000000 in
theorem searchOf_d (w h : Int) (ds : List D) : DFun Try.prog 50 [cvD w h ds] [] (.loc 0 0) [.mix 134 (srL (cvD w h ds) (zFD).l (.farr 1 (0))), .fam (fmQ (0) (([] : List P2)))] := by
  refine zan (N := 6) 0 (by kernel_rfl) Try.func50 rfl rfl rfl (by simp only [fr0, Nat.zero_add, Nat.reduceAdd]; exact rfl) rfl fun s0 hs0 => ?_
  refine zaf ?_
  refine zad ?_
  refine zab rfl rfl rfl (zac (.inr rfl) (ev1 rfl)) ?_
  refine zae ?_
  refine zaf ?_
  refine zai 1 (by simp only [holes, List.cons_append, List.nil_append]; exact rfl) ?_
  refine zad ?_
  refine zab rfl rfl rfl (zac (.inl rfl) (ev1 rfl)) ?_
  refine zab rfl rfl rfl (op_bldD (ps := [(0, .tmp 3)]) rfl fl134 zr134 (ec (ev1 rfl) en) rfl (by rw [zSV_len]; rfl) (sr_new _)) ?_
  refine zaj rfl rfl rfl (op_boxam 0 rfl (ev1 rfl) rfl) (by simp only [upd, zaa, za]; exact rfl) ?_
  refine zab rfl rfl rfl (zac (.inr rfl) (ev1 rfl)) ?_
  refine zae ?_
  refine dwp_adoptS (m := 1) 0 34 2 rfl rfl (by simp only [List.cons_append, List.nil_append, zaa, za, List.length_cons, List.length_nil, Nat.zero_add, Nat.reduceAdd]; exact rfl) ?_
  refine dwp_hole ?_
  refine dwp_fam 2 rfl (by simp only [List.cons_append, List.nil_append, zaa, za, List.length_cons, List.length_nil, Nat.zero_add, Nat.reduceAdd]; exact rfl) ?_
  refine dwp_absS (f := 2) 0 rfl rfl rfl rfl rfl (by simp only [List.cons_append, List.nil_append, zaa, za, List.length_cons, List.length_nil, Nat.zero_add, Nat.reduceAdd]; exact rfl) ?_
  refine zao ?_
  refine kend [0, 2] (rs1 rfl (rv_t rfl)) rfl rfl ?_ ⟨zap rfl rfl rfl, rfl, trivial⟩
  rfl
set_option maxRecDepth 4000 in
set_option maxHeartbeats 1000000 in
theorem meet_d (w h : Int) (ds : List D) (f : FD) (k : Nat) (q : List P2) (p : P2) (n : Nat) (hp : inF32 p) (hn : n ≤ 5000) : DFun Try.prog 57 [.loc 0 0, .val (.agg #[.int .i64 p.x, .int .i64 p.y]), .val (.int .i64 (n : Int))] [.mix 134 (srL (cvD w h ds) (f).l (.farr 1 (k))), .fam (fmQ (k) (q))] (.tup []) [.mix 134 (srL (cvD w h ds) ((f.put p (n + 1))).l (.farr 1 (k))), .fam (fmQ (k) (q))] := by
  have hp2 := hp
  unfold inF32 at hp2
  refine zan (N := 18) 2 (by kernel_rfl) Try.func57 rfl rfl rfl (by simp only [fr0, Nat.zero_add, Nat.reduceAdd]; exact rfl) rfl fun s0 hs0 => ?_
  refine zaf ?_
  refine zai 1 (by simp only [holes, List.cons_append, List.nil_append]; exact rfl) ?_
  refine zad ?_
  refine zaj rfl rfl rfl (op_boxa 2 rfl (ev1 rfl) rfl) (by simp only [upd, zaa, za]; exact rfl) ?_
  refine zae ?_
  refine dwp_draw [([], []), ([], []), ([2], []), ([], []), ([], []), ([2], []), ([], []), ([], []), ([], []), ([], []), ([], []), ([], []), ([0], [0])] mixed (by kernel_rfl) ?_
  refine zag rfl rfl (zac (.inl rfl) (ev1 rfl)) ?_
  refine zag rfl rfl (op_fa rfl fo34_1 (ev1 rfl)) ?_
  refine zag rfl rfl (zam rfl tb3 (ev1 rfl) rfl rfl) ?_
  refine zag rfl rfl (op_mul' rfl (ev1 rfl) (ev1 rfl) (fun _ => IntWalk.i64_in _ (by omega))) ?_
  refine zag rfl rfl (op_fa rfl fo34_0 (ev1 rfl)) ?_
  refine zag rfl rfl (zam rfl tb3 (ev1 rfl) rfl rfl) ?_
  refine zag rfl rfl (op_add' rfl (ev1 rfl) (ev1 rfl) (fun _ => IntWalk.i64_in _ (by omega))) ?_
  refine zag rfl rfl (zac (.inl rfl) (ev1 rfl)) ?_
  refine zag rfl rfl ((op_add' rfl (ev1 rfl) (ev1 rfl) (fun _ => IntWalk.i64_in _ (by omega))).cast (d' := .val (.int .i64 ((n + 1 : Nat) : Int))) (by rfl)) ?_
  refine zag rfl rfl (op_nc rfl (ev1 rfl) (fun s v h => by cases h; exact ⟨_, rfl⟩)) ?_
  refine zag rfl rfl (op_fa rfl fo134_1 (ev1 rfl)) ?_
  refine zag rfl rfl (op_ixl rfl ar132 (ev1 rfl) (ev1 rfl) (fun _ => by omega)) ?_
  refine lex_s rfl rfl (op_stmq rfl tb3 (ev1 rfl) (ev1 rfl) (fun s v h => by cases h <;> exact ⟨rfl, rfl⟩) rfl (srF_lt hp) (srF_set hp)) rfl (by simp only [upd, zaa, za]; exact rfl) ?_
  refine lex_nil ?_
  refine kend [0, 1] (res_none rfl) rfl rfl ?_ ⟨zap rfl rfl rfl, rfl, trivial⟩
  rfl
set_option maxRecDepth 4000 in
set_option maxHeartbeats 1000000 in
theorem has_s (w h : Int) (ds : List D) (f : FD) (k : Nat) (q : List P2) (p : P2) (hp : inF32 p) : DFun Try.prog 38 [.loc 0 0, .val (.agg #[.int .i64 p.x, .int .i64 p.y])] [.mix 134 (srL (cvD w h ds) (f).l (.farr 1 (k))), .fam (fmQ (k) (q))] (.val (.bool (f.has p))) [.mix 134 (srL (cvD w h ds) (f).l (.farr 1 (k))), .fam (fmQ (k) (q))] := by
  have hp2 := hp
  unfold inF32 at hp2
  refine zan (N := 17) 2 (by kernel_rfl) Try.func38 rfl rfl rfl (by simp only [fr0, Nat.zero_add, Nat.reduceAdd]; exact rfl) rfl fun s0 hs0 => ?_
  refine zaf ?_
  refine zai 1 (by simp only [holes, List.cons_append, List.nil_append]; exact rfl) ?_
  refine zad ?_
  refine zaj rfl rfl rfl (op_boxa 2 rfl (ev1 rfl) rfl) (by simp only [upd, zaa, za]; exact rfl) ?_
  refine zab rfl rfl rfl (zac (.inr rfl) (ev1 rfl)) ?_
  refine zae ?_
  refine zaf ?_
  refine dwp_draw [([], []), ([], []), ([2], []), ([], []), ([], []), ([2], []), ([], []), ([], []), ([], []), ([], []), ([0], []), ([], []), ([], [])] mixed (by kernel_rfl) ?_
  refine zag rfl rfl (zac (.inl rfl) (ev1 rfl)) ?_
  refine zag rfl rfl (op_fa rfl fo34_1 (ev1 rfl)) ?_
  refine zag rfl rfl (zam rfl tb3 (ev1 rfl) rfl rfl) ?_
  refine zag rfl rfl (op_mul' rfl (ev1 rfl) (ev1 rfl) (fun _ => IntWalk.i64_in _ (by omega))) ?_
  refine zag rfl rfl (op_fa rfl fo34_0 (ev1 rfl)) ?_
  refine zag rfl rfl (zam rfl tb3 (ev1 rfl) rfl rfl) ?_
  refine zag rfl rfl (op_add' rfl (ev1 rfl) (ev1 rfl) (fun _ => IntWalk.i64_in _ (by omega))) ?_
  refine zag rfl rfl (op_nc rfl (ev1 rfl) (fun s v h => by cases h; exact ⟨_, rfl⟩)) ?_
  refine zag rfl rfl (op_fa rfl fo134_1 (ev1 rfl)) ?_
  refine zag rfl rfl (op_ixl rfl ar132 (ev1 rfl) (ev1 rfl) (fun _ => by omega)) ?_
  refine zag rfl rfl (op_ldm rfl tb3 (ev1 rfl) rfl (srF_at hp)) ?_
  refine zag rfl rfl (op_gtr rfl (ev1 rfl) (ev1 rfl)) ?_
  refine zag rfl rfl (zac (.inr rfl) (ev1 rfl)) ?_
  refine lex_nil ?_
  refine zao ?_
  refine kend [0, 1] (rs1 rfl (rv_t rfl)) rfl rfl ?_ ⟨zap rfl rfl rfl, rfl, trivial⟩
  rw [has_int]
set_option maxRecDepth 4000 in
set_option maxHeartbeats 1000000 in
theorem steps_s (w h : Int) (ds : List D) (f : FD) (k : Nat) (q : List P2) (p : P2) (hp : inF32 p) (hb : f.at p ≤ 5000) : DFun Try.prog 62 [.loc 0 0, .val (.agg #[.int .i64 p.x, .int .i64 p.y])] [.mix 134 (srL (cvD w h ds) (f).l (.farr 1 (k))), .fam (fmQ (k) (q))] (.val (.int .i64 (((f.at p : Nat) : Int) - 1))) [.mix 134 (srL (cvD w h ds) (f).l (.farr 1 (k))), .fam (fmQ (k) (q))] := by
  have hp2 := hp
  unfold inF32 at hp2
  refine zan (N := 17) 2 (by kernel_rfl) Try.func62 rfl rfl rfl (by simp only [fr0, Nat.zero_add, Nat.reduceAdd]; exact rfl) rfl fun s0 hs0 => ?_
  refine zaf ?_
  refine zai 1 (by simp only [holes, List.cons_append, List.nil_append]; exact rfl) ?_
  refine zad ?_
  refine zaj rfl rfl rfl (op_boxa 2 rfl (ev1 rfl) rfl) (by simp only [upd, zaa, za]; exact rfl) ?_
  refine zab rfl rfl rfl (zac (.inr rfl) (ev1 rfl)) ?_
  refine zae ?_
  refine zaf ?_
  refine dwp_draw [([], []), ([], []), ([2], []), ([], []), ([], []), ([2], []), ([], []), ([], []), ([], []), ([], []), ([0], []), ([], []), ([], [])] mixed (by kernel_rfl) ?_
  refine zag rfl rfl (zac (.inl rfl) (ev1 rfl)) ?_
  refine zag rfl rfl (op_fa rfl fo34_1 (ev1 rfl)) ?_
  refine zag rfl rfl (zam rfl tb3 (ev1 rfl) rfl rfl) ?_
  refine zag rfl rfl (op_mul' rfl (ev1 rfl) (ev1 rfl) (fun _ => IntWalk.i64_in _ (by omega))) ?_
  refine zag rfl rfl (op_fa rfl fo34_0 (ev1 rfl)) ?_
  refine zag rfl rfl (zam rfl tb3 (ev1 rfl) rfl rfl) ?_
  refine zag rfl rfl (op_add' rfl (ev1 rfl) (ev1 rfl) (fun _ => IntWalk.i64_in _ (by omega))) ?_
  refine zag rfl rfl (op_nc rfl (ev1 rfl) (fun s v h => by cases h; exact ⟨_, rfl⟩)) ?_
  refine zag rfl rfl (op_fa rfl fo134_1 (ev1 rfl)) ?_
  refine zag rfl rfl (op_ixl rfl ar132 (ev1 rfl) (ev1 rfl) (fun _ => by omega)) ?_
  refine zag rfl rfl (op_ldm rfl tb3 (ev1 rfl) rfl (srF_at hp)) ?_
  refine zag rfl rfl (op_sub' rfl (ev1 rfl) (ev1 rfl) (fun _ => IntWalk.i64_in _ (by omega))) ?_
  refine zag rfl rfl (zac (.inr rfl) (ev1 rfl)) ?_
  refine lex_nil ?_
  refine zao ?_
  refine kend [0, 1] (rs1 rfl (rv_t rfl)) rfl rfl ?_ ⟨zap rfl rfl rfl, rfl, trivial⟩
  rfl
end Go.Proofs.Ytfnhckildfbikaa
namespace Go.Proofs.Ytfnhckildfbikaa
set_option maxRecDepth 4000
set_option linter.unusedVariables false
set_option linter.unusedSimpArgs false
open Go.RowKit
attribute [local irreducible] zFD srL goF bfsF
theorem ar76 : arE Try.prog 76 = some (4, 2) := by kernel_rfl
theorem tb29 : tyB Try.prog 29 = some (false, 1) := by kernel_rfl
theorem tb76 : tyB Try.prog 76 = some (true, 8) := by kernel_rfl
theorem zr76 : zrC Try.prog 76 = some [.int .i64 0, .int .i64 0, .int .i64 0, .int .i64 0, .int .i64 0, .int .i64 0, .int .i64 0, .int .i64 0] := by kernel_rfl
theorem adj_len (p : P2) : (adjL p).length = 4 := rfl
theorem adj_in {p q : P2} (hp : inF32 p) (h : q ∈ adjL p) : (-1 ≤ q.x ∧ q.x ≤ 32) ∧ -1 ≤ q.y ∧ q.y ≤ 32 := by
  rw [adj_iff] at h
  unfold inF32 at hp
  omega
def goK (On near : P2 → Bool) (f : FD) (p : P2) (i : Nat) : FD × List P2 := (((adjL p).take i).filter On).foldl (visF near (f.at p + 1)) (f, [])
theorem goK_zero (On near : P2 → Bool) (f : FD) (p : P2) : goK On near f p 0 = (f, []) := rfl
theorem goK_end (On near : P2 → Bool) (f : FD) (p : P2) : goK On near f p 4 = goF On near f p := by unfold goK goF; rfl
theorem goK_yes {On near : P2 → Bool} {f : FD} {p : P2} {i : Nat} (hi : i < (adjL p).length) (ho : On (adjL p)[i] = true) : goK On near f p (i + 1) = visF near (f.at p + 1) (goK On near f p i) (adjL p)[i] := by
  unfold goK
  rw [List.take_succ_eq_append_getElem hi, List.filter_append, List.foldl_append]
  simp [ho]
theorem goK_no {On near : P2 → Bool} {f : FD} {p : P2} {i : Nat} (hi : i < (adjL p).length) (ho : On (adjL p)[i] = false) : goK On near f p (i + 1) = goK On near f p i := by
  unfold goK
  rw [List.take_succ_eq_append_getElem hi, List.filter_append, List.foldl_append]
  simp [ho]
theorem vis_yes {near : P2 → Bool} {v : Nat} {s : FD × List P2} {q : P2} (h1 : s.1.has q = false) (h2 : near q = true) : visF near v s q = (s.1.put q v, s.2 ++ [q]) := by
  unfold FD.has at h1
  exact if_pos ⟨by simpa using h1, h2⟩
theorem vis_no1 {near : P2 → Bool} {v : Nat} {s : FD × List P2} {q : P2} (h1 : s.1.has q = true) : visF near v s q = s := by
  unfold FD.has at h1
  exact if_neg fun h => by simp at h1; omega
theorem vis_no2 {near : P2 → Bool} {v : Nat} {s : FD × List P2} {q : P2} (h2 : near q = false) : visF near v s q = s := if_neg fun h => by rw [h2] at h; exact absurd h.2 (by decide)
theorem goK_old {On near : P2 → Bool} (hOn : ∀ p, On p = true → inF32 p) {f : FD} {p n : P2} {i : Nat} (hn : On n = true) (h0 : 0 < f.at n) : (goK On near f p i).1.at n = f.at n := by
  have h := (vis_all (near := near) hOn (((adjL p).take i).filter On) (f.at p + 1) f [] ((adj_nodup p).sublist (List.filter_sublist.trans (List.take_sublist ..))) (fun q hq => (List.mem_filter.1 hq).2) (by omega)).1 n hn
  unfold goK
  rw [h, if_neg (by omega)]
theorem goK_len {On near : P2 → Bool} (f : FD) (p : P2) : ∀ i, (goK On near f p i).2.length ≤ i := by
  have key : ∀ (L : List P2) (v : Nat) (s : FD × List P2), (L.foldl (visF near v) s).2.length ≤ s.2.length + L.length := by
    intro L v
    induction L with
    | nil => intro s; simp
    | cons a L ih =>
      intro s
      rw [List.foldl_cons, List.length_cons]
      refine Nat.le_trans (ih _) ?_
      unfold visF
      split
      · simp only [List.length_append, List.length_cons, List.length_nil]; omega
      · omega
  intro i
  unfold goK
  refine Nat.le_trans (key _ _ _) ?_
  have h1 := List.length_filter_le On ((adjL p).take i)
  have h2 := List.length_take_le i (adjL p)
  simp only [List.length_nil]
  omega
def nearP (w : Int) (ts : List TL) (tol : Int) (c : C4) (q : P2) : Bool := nearC tol c (getC w ts q.x q.y)
set_option maxRecDepth 4000 in
set_option maxHeartbeats 1000000 in
theorem nbs_d (w h : Int) (ds : List D) (f : FD) (k : Nat) (q : List P2) (p : P2) (hp : inF32 p) : DFun Try.prog 85 [.loc 0 0, .val (.agg #[.int .i64 p.x, .int .i64 p.y])] [.mix 134 (srL (cvD w h ds) (f).l (.farr 1 (k))), .fam (fmQ (k) (q))] (.fn (.func 98) [] [.loc 2 0, .loc 3 0]) [.mix 134 (srL (cvD w h ds) (f).l (.farr 1 (k))), .fam (fmQ (k) (q)), .flat 76 ((adjL p).flatMap p2), .mix 84 [.loc 0 0]] := by
  have hp2 := hp
  unfold inF32 at hp2
  refine zan (N := 32) 2 (by kernel_rfl) Try.func85 rfl rfl rfl (by simp only [fr0, Nat.zero_add, Nat.reduceAdd]; exact rfl) rfl fun s0 hs0 => ?_
  refine zaf ?_
  refine zai 2 (by simp only [holes, List.cons_append, List.nil_append]; exact rfl) ?_
  refine zad ?_
  refine zaj rfl rfl rfl (op_boxm 2 rfl (ev1 rfl) (fun s v h => by cases h <;> rfl) rfl) (by simp only [upd, zaa, za]; exact rfl) ?_
  refine zaj rfl rfl rfl (op_boxa 3 rfl (ev1 rfl) rfl) (by simp only [upd, zaa, za]; exact rfl) ?_
  refine zab rfl rfl rfl (zac (.inr rfl) (ev1 rfl)) ?_
  refine zae ?_
  refine zaf ?_
  refine zai 1 (by simp only [holes, List.cons_append, List.nil_append]; exact rfl) ?_
  refine zad ?_
  refine zab rfl rfl rfl (op_fa rfl fo34_0 (ev1 rfl)) ?_
  refine zab rfl rfl rfl (zam rfl tb3 (ev1 rfl) rfl rfl) ?_
  refine zab rfl rfl rfl (op_sub' rfl (ev1 rfl) (ev1 rfl) (fun _ => IntWalk.i64_in _ (by omega))) ?_
  refine zab rfl rfl rfl (op_fa rfl fo34_1 (ev1 rfl)) ?_
  refine zab rfl rfl rfl (zam rfl tb3 (ev1 rfl) rfl rfl) ?_
  refine zab rfl rfl rfl (op_build (ps := [(0, .tmp 8), (1, .tmp 10)]) rfl fl34 zr34 (vc (ev1 rfl) (vc (ev1 rfl) vn)) rfl rfl) ?_
  refine zab rfl rfl rfl (op_fa rfl fo34_0 (ev1 rfl)) ?_
  refine zab rfl rfl rfl (zam rfl tb3 (ev1 rfl) rfl rfl) ?_
  refine zab rfl rfl rfl (op_add' rfl (ev1 rfl) (ev1 rfl) (fun _ => IntWalk.i64_in _ (by omega))) ?_
  refine zab rfl rfl rfl (op_fa rfl fo34_1 (ev1 rfl)) ?_
  refine zab rfl rfl rfl (zam rfl tb3 (ev1 rfl) rfl rfl) ?_
  refine zab rfl rfl rfl (op_build (ps := [(0, .tmp 14), (1, .tmp 16)]) rfl fl34 zr34 (vc (ev1 rfl) (vc (ev1 rfl) vn)) rfl rfl) ?_
  refine zab rfl rfl rfl (op_fa rfl fo34_0 (ev1 rfl)) ?_
  refine zab rfl rfl rfl (zam rfl tb3 (ev1 rfl) rfl rfl) ?_
  refine zab rfl rfl rfl (op_fa rfl fo34_1 (ev1 rfl)) ?_
  refine zab rfl rfl rfl (zam rfl tb3 (ev1 rfl) rfl rfl) ?_
  refine zab rfl rfl rfl (op_sub' rfl (ev1 rfl) (ev1 rfl) (fun _ => IntWalk.i64_in _ (by omega))) ?_
  refine zab rfl rfl rfl (op_build (ps := [(0, .tmp 19), (1, .tmp 22)]) rfl fl34 zr34 (vc (ev1 rfl) (vc (ev1 rfl) vn)) rfl rfl) ?_
  refine zab rfl rfl rfl (op_fa rfl fo34_0 (ev1 rfl)) ?_
  refine zab rfl rfl rfl (zam rfl tb3 (ev1 rfl) rfl rfl) ?_
  refine zab rfl rfl rfl (op_fa rfl fo34_1 (ev1 rfl)) ?_
  refine zab rfl rfl rfl (zam rfl tb3 (ev1 rfl) rfl rfl) ?_
  refine zab rfl rfl rfl (op_add' rfl (ev1 rfl) (ev1 rfl) (fun _ => IntWalk.i64_in _ (by omega))) ?_
  refine zab rfl rfl rfl (op_build (ps := [(0, .tmp 25), (1, .tmp 28)]) rfl fl34 zr34 (vc (ev1 rfl) (vc (ev1 rfl) vn)) rfl rfl) ?_
  refine zab rfl rfl rfl ((op_bldaD (ps := [(0, .tmp 11), (1, .tmp 17), (2, .tmp 23), (3, .tmp 29)]) rfl ar76 zr76 (ec (ev1 rfl) (ec (ev1 rfl) (ec (ev1 rfl) (ec (ev1 rfl) en)))) rfl rfl rfl rfl).wk (by exact Wk.aggv ((adjL p).flatMap p2) : Wk _ (.val (.agg ((adjL p).flatMap p2).toArray)))) ?_
  refine zaj rfl rfl rfl (op_alloc 4 rfl zr76 rfl) (by simp only [upd, zaa, za]; exact rfl) ?_
  refine walk_s rfl rfl (op_stwa rfl tb76 (ev1 rfl) (ev1 rfl) rfl rfl rfl rfl) (by simp only [upd, zaa, za]; exact rfl) ?_
  refine zae ?_
  refine zaf ?_
  refine zad ?_
  refine zab rfl rfl rfl (op_mkf rfl en (ec (ev1 rfl) (ec (ev1 rfl) en))) ?_
  refine zab rfl rfl rfl (zac (.inr rfl) (ev1 rfl)) ?_
  refine zae ?_
  refine zao ?_
  refine kend [0, 1, 4, 2] (rs1 rfl (rv_t rfl)) rfl rfl ?_ ⟨zap rfl rfl rfl, rfl, rfl, rfl, trivial⟩
  rfl
set_option maxRecDepth 4000 in
set_option maxHeartbeats 1000000 in
theorem like1_v (w h : Int) (ds : List D) (ts : List TL) (hr : RowOk ds ts) (hc : CvOk w h ts) (hg : tsRng ts) (p : P2) (c : C4) (hcr : c.rng) (tol : Int) (ht : 0 ≤ tol) (ho : onS w h p.x p.y = true) : DFun Try.prog 78 [.val (.agg #[.int .i64 p.x, .int .i64 p.y]), .dpm [cvD w h ds], .dpf (c4 c), .dpf [.int .i64 tol]] [] (.val (.bool (nearP w ts tol c p))) [] := by
  refine zan (N := 21) 0 (by kernel_rfl) Try.func78 rfl rfl rfl (by simp only [fr0, Nat.zero_add, Nat.reduceAdd]; exact rfl) rfl fun s0 hs0 => ?_
  refine zaf ?_
  refine zai 1 (by simp only [holes, List.cons_append, List.nil_append]; exact rfl) ?_
  refine zad ?_
  refine zaj rfl rfl rfl (op_boxa 0 rfl (ev1 rfl) rfl) (by simp only [upd, zaa, za]; exact rfl) ?_
  refine zab rfl rfl rfl (zac (.inr rfl) (ev1 rfl)) ?_
  refine zae ?_
  refine zaf ?_
  refine zai 1 (by simp only [holes, List.cons_append, List.nil_append]; exact rfl) ?_
  refine zad ?_
  refine zab rfl rfl rfl (op_lddm rfl tb29 (ev1 rfl) rfl) ?_
  refine zab rfl rfl rfl (op_fa rfl fo34_0 (ev1 rfl)) ?_
  refine zab rfl rfl rfl (zam rfl tb3 (ev1 rfl) rfl rfl) ?_
  refine zab rfl rfl rfl (op_fa rfl fo34_1 (ev1 rfl)) ?_
  refine zab rfl rfl rfl (zam rfl tb3 (ev1 rfl) rfl rfl) ?_
  refine zab rfl rfl rfl (zah [] [] [] rfl (ev1 rfl) (ec (ev1 rfl) (ec (ev1 rfl) (ec (ev1 rfl) en))) rfl rfl (at_d w h ds ts hr hc p.x p.y) rfl rfl rfl rfl rfl rfl) ?_
  refine zab rfl rfl rfl (zac (.inl rfl) (ev1 rfl)) ?_
  refine zab rfl rfl rfl ((op_ext rfl (ev1 rfl) rfl).cast (d' := .val (.agg (c4 (getC w ts p.x p.y)).toArray)) (by rw [if_pos ho])) ?_
  refine zab rfl rfl rfl (op_ext rfl (ev1 rfl) rfl) ?_
  refine zaj rfl rfl rfl (op_alloc 1 rfl zr27 rfl) (by simp only [upd, zaa, za]; exact rfl) ?_
  refine walk_s rfl rfl (op_stwa rfl tb27 (ev1 rfl) (ev1 rfl) rfl rfl rfl rfl) (by simp only [upd, zaa, za]; exact rfl) ?_
  refine zab rfl rfl rfl (zac (.inr rfl) (ev1 rfl)) ?_
  refine zae ?_
  refine zaf ?_
  refine zad ?_
  refine zab rfl rfl rfl (op_ldwd rfl tb27 (ev1 rfl) rfl) ?_
  refine zab rfl rfl rfl (op_ldw rfl tb27 (ev1 rfl) rfl rfl) ?_
  refine zab rfl rfl rfl (op_ldod rfl tb3 (ev1 rfl) rfl) ?_
  refine zab rfl rfl rfl (zah [] [] [] rfl (ev1 rfl) (ec (ev1 rfl) (ec (ev1 rfl) (ec (ev1 rfl) en))) rfl rfl (near_d c (getC w ts p.x p.y) hcr (getC_rng hg _ _ _) tol ht) rfl rfl rfl rfl rfl rfl) ?_
  refine zab rfl rfl rfl (zac (.inr rfl) (ev1 rfl)) ?_
  refine zae ?_
  refine zao ?_
  refine kend0 (rs1 rfl (rv_t rfl)) rfl ?_
  rfl
set_option maxRecDepth 4000 in
set_option maxHeartbeats 1000000 in
theorem like_d (w h : Int) (ds : List D) (ts : List TL) (hr : RowOk ds ts) (hc : CvOk w h ts) (hg : tsRng ts) (p : P2) (tol : Int) (ho : onS w h p.x p.y = true) : DFun Try.prog 53 [cvD w h ds, .val (.agg #[.int .i64 p.x, .int .i64 p.y]), .val (.int .i64 tol)] [] (.fn (.func 78) [] [.loc 0 0, .loc 1 0, .loc 2 0]) [.mix 29 [cvD w h ds], .flat 27 (c4 (getC w ts p.x p.y)), .flat 3 [.int .i64 tol]] := by
  refine zan (N := 19) 0 (by kernel_rfl) Try.func53 rfl rfl rfl (by simp only [fr0, Nat.zero_add, Nat.reduceAdd]; exact rfl) rfl fun s0 hs0 => ?_
  refine zaf ?_
  refine zai 3 (by simp only [holes, List.cons_append, List.nil_append]; exact rfl) ?_
  refine zad ?_
  refine zaj rfl rfl rfl (op_boxm 0 rfl (ev1 rfl) (fun s v h => by cases h <;> rfl) rfl) (by simp only [upd, zaa, za]; exact rfl) ?_
  refine zaj rfl rfl rfl (op_boxa 1 rfl (ev1 rfl) rfl) (by simp only [upd, zaa, za]; exact rfl) ?_
  refine zaj rfl rfl rfl (op_boxi 2 rfl (ev1 rfl) rfl) (by simp only [upd, zaa, za]; exact rfl) ?_
  refine zab rfl rfl rfl (zac (.inr rfl) (ev1 rfl)) ?_
  refine zae ?_
  refine zaf ?_
  refine zai 1 (by simp only [holes, List.cons_append, List.nil_append]; exact rfl) ?_
  refine zad ?_
  refine zab rfl rfl rfl (op_ldm rfl tb29 (ev1 rfl) rfl rfl) ?_
  refine zab rfl rfl rfl (op_fa rfl fo34_0 (ev1 rfl)) ?_
  refine zab rfl rfl rfl (zam rfl tb3 (ev1 rfl) rfl rfl) ?_
  refine zab rfl rfl rfl (op_fa rfl fo34_1 (ev1 rfl)) ?_
  refine zab rfl rfl rfl (zam rfl tb3 (ev1 rfl) rfl rfl) ?_
  refine zab rfl rfl rfl (zah [] [] [] rfl (ev1 rfl) (ec (ev1 rfl) (ec (ev1 rfl) (ec (ev1 rfl) en))) rfl rfl (at_d w h ds ts hr hc p.x p.y) rfl rfl rfl rfl rfl rfl) ?_
  refine zab rfl rfl rfl (zac (.inl rfl) (ev1 rfl)) ?_
  refine zab rfl rfl rfl ((op_ext rfl (ev1 rfl) rfl).cast (d' := .val (.agg (c4 (getC w ts p.x p.y)).toArray)) (by rw [if_pos ho])) ?_
  refine zab rfl rfl rfl (op_ext rfl (ev1 rfl) rfl) ?_
  refine zaj rfl rfl rfl (op_alloc 3 rfl zr27 rfl) (by simp only [upd, zaa, za]; exact rfl) ?_
  refine walk_s rfl rfl (op_stwa rfl tb27 (ev1 rfl) (ev1 rfl) rfl rfl rfl rfl) (by simp only [upd, zaa, za]; exact rfl) ?_
  refine zab rfl rfl rfl (zac (.inr rfl) (ev1 rfl)) ?_
  refine zae ?_
  refine zaf ?_
  refine zad ?_
  refine zab rfl rfl rfl (op_mkf rfl en (ec (ev1 rfl) (ec (ev1 rfl) (ec (ev1 rfl) en)))) ?_
  refine zab rfl rfl rfl (zac (.inr rfl) (ev1 rfl)) ?_
  refine zae ?_
  refine zao ?_
  refine kend [0, 3, 2] (rs1 rfl (rv_t rfl)) rfl rfl ?_ ⟨rfl, rfl, rfl, trivial⟩
  rfl
end Go.Proofs.Ytfnhckildfbikaa
namespace Go.Proofs.Ytfnhckildfbikaa
set_option maxRecDepth 4000
set_option linter.unusedVariables false
set_option linter.unusedSimpArgs false
open Go.RowKit
attribute [local irreducible] zFD srL goF bfsF
theorem fo134_2 : fdO Try.prog 134 2 = some 1025 := by kernel_rfl
theorem tb64 : tyB Try.prog 64 = some (false, 1) := by kernel_rfl
theorem tb84 : tyB Try.prog 84 = some (false, 1) := by kernel_rfl
theorem tb87 : tyB Try.prog 87 = some (false, 1) := by kernel_rfl
noncomputable def gonA : Code := rfA (pth [1, 1, 0] (bodyOf Try.f77))
noncomputable def gonB : Code := rfB (pth [1, 1, 0] (bodyOf Try.f77))
set_option maxRecDepth 4000 in
set_option maxHeartbeats 1000000 in
theorem goRound_y (w h : Int) (ds : List D) (ts : List TL) (hr : RowOk ds ts) (hc : CvOk w h ts) (hg : tsRng ts) (p : P2) (hp : onS w h p.x p.y = true) (c : C4) (hcr : c.rng) (tol : Int) (ht : 0 ≤ tol) (f : FD) (k : Nat) (q : List P2) (hq : q.length ≤ 5000) (hf : 0 < f.at p ∧ f.at p ≤ 4000) (n : P2) (hn : onS w h n.x n.y = true) (h1 : f.has n = false) (h2 : nearP w ts tol c n = true) : DRound Try.prog 0 [.val (.agg #[.int .i64 n.x, .int .i64 n.y])] [.lp 37 [(3, .loc 1 0), (4, .loc 2 0), (5, .loc 3 0)] #[10] gonA gonB .ready none, .mix 84 [.loc 4 0], .flat 34 [.int .i64 p.x, .int .i64 p.y], .mix 87 [.fn (.func 78) [] [.loc 6 0, .loc 7 0, .loc 8 0]], .mix 134 (srL (cvD w h ds) (f).l (.farr 5 (k))), .fam (fmQ (k) (q)), .mix 29 [cvD w h ds], .flat 27 (c4 c), .flat 3 [.int .i64 tol]] true [.lp 37 [(3, .loc 1 0), (4, .loc 2 0), (5, .loc 3 0)] #[10] gonA gonB .ready none, .mix 84 [.loc 4 0], .flat 34 [.int .i64 p.x, .int .i64 p.y], .mix 87 [.fn (.func 78) [] [.loc 6 0, .loc 7 0, .loc 8 0]], .mix 134 (srL (cvD w h ds) ((f.put n (f.at p + 1))).l (.farr 5 ((k + 1)))), .fam (fmQ ((k + 1)) ((q ++ [n]))), .mix 29 [cvD w h ds], .flat 27 (c4 c), .flat 3 [.int .i64 tol]] := by
  have hpi := onP_in hc.may p hp
  have hni := onP_in hc.may n hn
  refine dround_go 9 rfl rfl (by simp) rfl rfl fun s0 hs0 => ?_
  refine zai 1 (by simp only [holes, List.cons_append, List.nil_append]; exact rfl) ?_
  refine zad ?_
  refine zaj rfl rfl rfl (op_alloc 9 rfl zr34 rfl) (by simp only [upd, zaa, za]; exact rfl) ?_
  refine walk_s rfl rfl (op_stwa rfl tb34 (ev1 rfl) (ev1 rfl) rfl rfl rfl rfl) (by simp only [upd, zaa, za]; exact rfl) ?_
  refine zae ?_
  refine ⟨rfl, ?_⟩
  simp only [zaa, za]
  refine zal ?_
  refine zaf ?_
  refine zad ?_
  refine zab rfl rfl rfl (op_ldm rfl tb84 (ev1 rfl) rfl rfl) ?_
  refine zab rfl rfl rfl (op_ldw rfl tb34 (ev1 rfl) rfl rfl) ?_
  refine zaj rfl rfl rfl (zah [4, 5] [] [] rfl (ev1 rfl) (ec (ev1 rfl) (ec (ev1 rfl) en)) rfl (by exact mfits _ _ ⟨zap rfl rfl rfl, rfl, trivial⟩) (has_s w h ds f k q n hni) rfl rfl rfl (by exact (wrc (sb_srx rfl rfl) (wrc rfl rfl))) rfl rfl) (by simp only [upd, zaa, za]; exact rfl) ?_
  refine zab rfl rfl rfl (op_not rfl (ev1 rfl)) ?_
  refine zab rfl rfl rfl (zac (.inl rfl) (ev1 rfl)) ?_
  refine walk_gr (gd_t rfl rfl rfl) rfl rfl rfl (op_ldm rfl tb87 (ev1 rfl) rfl rfl) ?_
  refine walk_gr (gd_t rfl rfl rfl) rfl rfl rfl (op_ldw rfl tb34 (ev1 rfl) rfl rfl) ?_
  refine walk_gr (gd_t rfl rfl rfl) rfl rfl rfl (zah [] [6, 7, 8] [] rfl (ev2 rfl) (ec (ev2 rfl) en) rfl rfl (like1_v w h ds ts hr hc hg n c hcr tol ht hn) rfl rfl rfl rfl rfl rfl) ?_
  refine zab rfl rfl rfl (op_and rfl (ev1 rfl) (ev3 rfl id)) ?_
  refine zae ?_
  refine dwp_if_t rfl (by rw [h1, h2]; rfl) ?_
  refine zaf ?_
  refine dwp_draw [([1], []), ([9], []), ([1], []), ([2], []), ([4, 5], [4, 5]), ([], []), ([4, 5], [4, 5])] mixed (by kernel_rfl) ?_
  refine zag rfl rfl (op_ldm rfl tb84 (ev1 rfl) rfl rfl) ?_
  refine zag rfl rfl (op_ldw rfl tb34 (ev1 rfl) rfl rfl) ?_
  refine zag rfl rfl (op_ldm rfl tb84 (ev1 rfl) rfl rfl) ?_
  refine zag rfl rfl (op_ldw rfl tb34 (ev1 rfl) rfl rfl) ?_
  refine lex_w rfl rfl (zah [4, 5] [] [] rfl (ev1 rfl) (ec (ev1 rfl) (ec (ev1 rfl) en)) rfl (by exact mfits _ _ ⟨zap rfl rfl rfl, rfl, trivial⟩) (steps_s w h ds f k q p hpi (by omega)) rfl rfl rfl (by exact (wrc (sb_srx rfl rfl) (wrc rfl rfl))) rfl rfl) rfl (by simp only [upd, zaa, za]; exact rfl) ?_
  refine zag rfl rfl ((op_add' rfl (ev1 rfl) (ev1 rfl) (fun _ => IntWalk.i64_in _ (by omega))).cast (d' := .val (.int .i64 (f.at p : Int))) (by rw [D.val.injEq, Value.int.injEq]; exact ⟨rfl, by omega⟩)) ?_
  refine lex_w rfl rfl (zah [4, 5] [] [] rfl (ev1 rfl) (ec (ev1 rfl) (ec (ev1 rfl) (ec (ev1 rfl) en))) rfl (by exact mfits _ _ ⟨zap rfl rfl rfl, rfl, trivial⟩) (meet_d w h ds f k q n (f.at p) hni (by omega)) rfl rfl rfl (by exact (wrc (sb_srx rfl rfl) (wrc rfl rfl))) rfl rfl) rfl (by simp only [upd, zaa, za]; exact rfl) ?_
  refine lex_nil ?_
  refine zai 2 (by simp only [holes, List.cons_append, List.nil_append]; exact rfl) ?_
  refine dwp_draw [([1], []), ([1], []), ([], []), ([], []), ([4], []), ([9], []), ([], []), ([5, 10, 11], [5, 10, 11]), ([], []), ([], []), ([4], [4])] mixed (by kernel_rfl) ?_
  refine zag rfl rfl (op_ldm rfl tb84 (ev1 rfl) rfl rfl) ?_
  refine zag rfl rfl (op_ldm rfl tb84 (ev1 rfl) rfl rfl) ?_
  refine zag rfl rfl (op_nc rfl (ev1 rfl) (fun s v h => by cases h; exact ⟨_, rfl⟩)) ?_
  refine zag rfl rfl (op_fa rfl fo134_2 (ev1 rfl)) ?_
  refine zag rfl rfl (op_ldm rfl tb64 (ev1 rfl) rfl (srL_q (by rw [FD.h]))) ?_
  refine zag rfl rfl (op_ldw rfl tb34 (ev1 rfl) rfl rfl) ?_
  refine zag rfl rfl (op_bs (ps := [(0, .tmp 32)]) rfl sl64 zr34 rfl (vc (ev1 rfl) vn) rfl (by decide) (by decide)) ?_
  refine lex_w rfl rfl ((op_appFu (j1 := 10) (j2 := 11) rfl rfl sl64 zr34 rfl (ev1 rfl) (ev1 rfl) rfl (fmQ_at _ _) rfl rfl rfl (by decide) (fun _ => rfl) (fun _ => ⟨by omega, by omega⟩))) rfl (by simp only [upd, zaa, za]; exact rfl) ?_
  refine zag rfl rfl (op_nc rfl (ev1 rfl) (fun s v h => by cases h; exact ⟨_, rfl⟩)) ?_
  refine zag rfl rfl (op_fa rfl fo134_2 (ev1 rfl)) ?_
  refine lex_s rfl rfl (op_stmq rfl tb64 (ev1 rfl) (ev1 rfl) (fun s v h => by cases h <;> exact ⟨rfl, rfl⟩) rfl (srF_qlt) (srL_setq (by rw [FD.h]))) rfl (by simp only [upd, zaa, za]; exact rfl) ?_
  refine lex_nil ?_
  refine ⟨by first | rfl | assumption | simp_all, rfl, [0, 1, 2, 3, 4, 5, 6, 7, 8], rfl, ⟨rfl, rfl, rfl, rfl, zap rfl rfl (by rw [fmQ_len]; rfl), congrArg (fun B => some (Blk.fam B)) (fmQ_add k q n), rfl, rfl, rfl, trivial⟩⟩
set_option maxRecDepth 4000 in
set_option maxHeartbeats 1000000 in
theorem goRound_n (w h : Int) (ds : List D) (ts : List TL) (hr : RowOk ds ts) (hc : CvOk w h ts) (hg : tsRng ts) (p : P2) (hp : onS w h p.x p.y = true) (c : C4) (hcr : c.rng) (tol : Int) (ht : 0 ≤ tol) (f : FD) (k : Nat) (q : List P2) (hq : q.length ≤ 5000) (hf : 0 < f.at p ∧ f.at p ≤ 4000) (n : P2) (hn : onS w h n.x n.y = true) (h1 : f.has n = true ∨ nearP w ts tol c n = false) : DRound Try.prog 0 [.val (.agg #[.int .i64 n.x, .int .i64 n.y])] [.lp 37 [(3, .loc 1 0), (4, .loc 2 0), (5, .loc 3 0)] #[10] gonA gonB .ready none, .mix 84 [.loc 4 0], .flat 34 [.int .i64 p.x, .int .i64 p.y], .mix 87 [.fn (.func 78) [] [.loc 6 0, .loc 7 0, .loc 8 0]], .mix 134 (srL (cvD w h ds) (f).l (.farr 5 (k))), .fam (fmQ (k) (q)), .mix 29 [cvD w h ds], .flat 27 (c4 c), .flat 3 [.int .i64 tol]] true [.lp 37 [(3, .loc 1 0), (4, .loc 2 0), (5, .loc 3 0)] #[10] gonA gonB .ready none, .mix 84 [.loc 4 0], .flat 34 [.int .i64 p.x, .int .i64 p.y], .mix 87 [.fn (.func 78) [] [.loc 6 0, .loc 7 0, .loc 8 0]], .mix 134 (srL (cvD w h ds) (f).l (.farr 5 (k))), .fam (fmQ (k) (q)), .mix 29 [cvD w h ds], .flat 27 (c4 c), .flat 3 [.int .i64 tol]] := by
  have hpi := onP_in hc.may p hp
  have hni := onP_in hc.may n hn
  refine dround_go 9 rfl rfl (by simp) rfl rfl fun s0 hs0 => ?_
  refine zai 1 (by simp only [holes, List.cons_append, List.nil_append]; exact rfl) ?_
  refine zad ?_
  refine zaj rfl rfl rfl (op_alloc 9 rfl zr34 rfl) (by simp only [upd, zaa, za]; exact rfl) ?_
  refine walk_s rfl rfl (op_stwa rfl tb34 (ev1 rfl) (ev1 rfl) rfl rfl rfl rfl) (by simp only [upd, zaa, za]; exact rfl) ?_
  refine zae ?_
  refine ⟨rfl, ?_⟩
  simp only [zaa, za]
  refine zal ?_
  refine zaf ?_
  refine zad ?_
  refine zab rfl rfl rfl (op_ldm rfl tb84 (ev1 rfl) rfl rfl) ?_
  refine zab rfl rfl rfl (op_ldw rfl tb34 (ev1 rfl) rfl rfl) ?_
  refine zaj rfl rfl rfl (zah [4, 5] [] [] rfl (ev1 rfl) (ec (ev1 rfl) (ec (ev1 rfl) en)) rfl (by exact mfits _ _ ⟨zap rfl rfl rfl, rfl, trivial⟩) (has_s w h ds f k q n hni) rfl rfl rfl (by exact (wrc (sb_srx rfl rfl) (wrc rfl rfl))) rfl rfl) (by simp only [upd, zaa, za]; exact rfl) ?_
  refine zab rfl rfl rfl (op_not rfl (ev1 rfl)) ?_
  refine zab rfl rfl rfl (zac (.inl rfl) (ev1 rfl)) ?_
  refine walk_gr (gd_t rfl rfl rfl) rfl rfl rfl (op_ldm rfl tb87 (ev1 rfl) rfl rfl) ?_
  refine walk_gr (gd_t rfl rfl rfl) rfl rfl rfl (op_ldw rfl tb34 (ev1 rfl) rfl rfl) ?_
  refine walk_gr (gd_t rfl rfl rfl) rfl rfl rfl (zah [] [6, 7, 8] [] rfl (ev2 rfl) (ec (ev2 rfl) en) rfl rfl (like1_v w h ds ts hr hc hg n c hcr tol ht hn) rfl rfl rfl rfl rfl rfl) ?_
  refine zab rfl rfl rfl (op_and rfl (ev1 rfl) (ev3 rfl id)) ?_
  refine zae ?_
  refine dwp_if_f rfl (by rcases h1 with h1 | h1 <;> rw [h1] <;> simp) ?_
  refine zak ?_
  refine ⟨by first | rfl | assumption | simp_all, rfl, [0, 1, 2, 3, 4, 5, 6, 7, 8], rfl, ⟨rfl, rfl, rfl, rfl, zap rfl rfl rfl, rfl, rfl, rfl, rfl, trivial⟩⟩
theorem goRound (w h : Int) (ds : List D) (ts : List TL) (hr : RowOk ds ts) (hc : CvOk w h ts) (hg : tsRng ts) (p : P2) (hp : onS w h p.x p.y = true) (c : C4) (hcr : c.rng) (tol : Int) (ht : 0 ≤ tol) (f : FD) (k : Nat) (q : List P2) (hq : q.length ≤ 5000) (hf : 0 < f.at p ∧ f.at p ≤ 4000) (n : P2) (hn : onS w h n.x n.y = true) : DRound Try.prog 0 [.val (.agg #[.int .i64 n.x, .int .i64 n.y])] [.lp 37 [(3, .loc 1 0), (4, .loc 2 0), (5, .loc 3 0)] #[10] gonA gonB .ready none, .mix 84 [.loc 4 0], .flat 34 [.int .i64 p.x, .int .i64 p.y], .mix 87 [.fn (.func 78) [] [.loc 6 0, .loc 7 0, .loc 8 0]], .mix 134 (srL (cvD w h ds) (f).l (.farr 5 (k))), .fam (fmQ (k) (q)), .mix 29 [cvD w h ds], .flat 27 (c4 c), .flat 3 [.int .i64 tol]] true [.lp 37 [(3, .loc 1 0), (4, .loc 2 0), (5, .loc 3 0)] #[10] gonA gonB .ready none, .mix 84 [.loc 4 0], .flat 34 [.int .i64 p.x, .int .i64 p.y], .mix 87 [.fn (.func 78) [] [.loc 6 0, .loc 7 0, .loc 8 0]], .mix 134 (srL (cvD w h ds) ((visF (nearP w ts tol c) (f.at p + 1) (f, q) n).1).l (.farr 5 (k + (visF (nearP w ts tol c) (f.at p + 1) (f, q) n).2.length - q.length))), .fam (fmQ (k + (visF (nearP w ts tol c) (f.at p + 1) (f, q) n).2.length - q.length) ((visF (nearP w ts tol c) (f.at p + 1) (f, q) n).2)), .mix 29 [cvD w h ds], .flat 27 (c4 c), .flat 3 [.int .i64 tol]] := by
  by_cases h1 : f.has n = true
  · rw [vis_no1 (s := (f, q)) h1, show k + q.length - q.length = k by omega]; exact goRound_n w h ds ts hr hc hg p hp c hcr tol ht f k q hq hf n hn (.inl h1)
  · by_cases h2 : nearP w ts tol c n = true
    · rw [vis_yes (s := (f, q)) (by simpa using h1) h2, show k + (q ++ [n]).length - q.length = k + 1 by rw [List.length_append]; simp; omega]; exact goRound_y w h ds ts hr hc hg p hp c hcr tol ht f k q hq hf n hn (by simpa using h1) h2
    · rw [vis_no2 (s := (f, q)) (by simpa using h2), show k + q.length - q.length = k by omega]; exact goRound_n w h ds ts hr hc hg p hp c hcr tol ht f k q hq hf n hn (.inr (by simpa using h2))
end Go.Proofs.Ytfnhckildfbikaa
namespace Go.Proofs.Ytfnhckildfbikaa
set_option maxRecDepth 4000
set_option linter.unusedVariables false
set_option linter.unusedSimpArgs false
open Go.RowKit
attribute [local irreducible] zFD srL goF bfsF
theorem av76 : arV Try.prog 76 = some (4, 2) := by kernel_rfl
theorem fo134_0 : fdO Try.prog 134 0 = some 0 := by kernel_rfl
theorem vis_fst {near : P2 → Bool} {v : Nat} (f : FD) (q q' : List P2) (n : P2) : (visF near v (f, q ++ q') n).1 = (visF near v (f, q') n).1 := by
  unfold visF
  split <;> rfl
theorem vis_app {near : P2 → Bool} {v : Nat} (f : FD) (q q' : List P2) (n : P2) : (visF near v (f, q ++ q') n).2 = q ++ (visF near v (f, q') n).2 := by
  unfold visF
  split
  · exact List.append_assoc ..
  · rfl
theorem vis_cnt {near : P2 → Bool} {v : Nat} (f : FD) (k : Nat) (q q' : List P2) (n : P2) : k + q'.length + (visF near v (f, q ++ q') n).2.length - (q ++ q').length = k + (visF near v (f, q') n).2.length := by
  rw [vis_app, List.length_append, List.length_append]
  omega
def spK (On near : P2 → Bool) : Nat → Nat → FD → List P2 → Nat
  | 0, K, _, _ => K
  | _ + 1, K, _, [] => K
  | n + 1, K, f, p :: r => spK On near n (K + 1 + (goF On near f p).2.length) (goF On near f p).1 (r ++ (goF On near f p).2)
theorem spK_nil (On near : P2 → Bool) (n K : Nat) (f : FD) : spK On near n K f [] = K := by cases n <;> rfl
structure SpI (On near : P2 → Bool) (T : FD) (KT : Nat) (x : FD × List P2 × Nat) : Prop where
  res : bfsF On near (zrF x.1 + x.2.1.length) x.1 x.2.1 = T
  cnt : spK On near (zrF x.1 + x.2.1.length) x.2.2 x.1 x.2.1 = KT
  mem : ∀ q ∈ x.2.1, On q = true ∧ 0 < x.1.at q ∧ x.1.at q + (zrF x.1 + x.2.1.length) ≤ 1026
def spF (On near : P2 → Bool) (f : FD) (p : P2) : FD := bfsF On near (zrF (f.put p 1) + 1) (f.put p 1) [p]
def spN (On near : P2 → Bool) (K : Nat) (f : FD) (p : P2) : Nat := spK On near (zrF (f.put p 1) + 1) (K + 1) (f.put p 1) [p]
theorem SpI.start {On near : P2 → Bool} (hOn : ∀ p, On p = true → inF32 p) (K : Nat) {f : FD} {p : P2} (hp : On p = true) (h0 : f.at p = 0) : SpI On near (spF On near f p) (spN On near K f p) (f.put p 1, [p], K + 1) := by
  refine ⟨rfl, rfl, fun q hq => ?_⟩
  obtain rfl := List.mem_singleton.1 hq
  have h1 : (f.put q 1).at q = 1 := by rw [FD.put_at (hOn _ hp) (hOn _ hp), if_pos rfl]
  have h2 := zrF_put (v := 1) (hOn _ hp) h0 (by omega)
  have h3 := zrF_le f
  refine ⟨hp, by show 0 < (f.put q 1).at q; omega, ?_⟩
  show (f.put q 1).at q + (zrF (f.put q 1) + 1) ≤ 1026
  omega
theorem SpI.step {On near : P2 → Bool} (hOn : ∀ p, On p = true → inF32 p) {T : FD} {KT K : Nat} {f : FD} {p : P2} {r : List P2} (h : SpI On near T KT (f, p :: r, K)) :
    SpI On near T KT ((goF On near f p).1, r ++ (goF On near f p).2, K + 1 + (goF On near f p).2.length) ∧ zrF (goF On near f p).1 + (r ++ (goF On near f p).2).length < zrF f + (p :: r).length := by
  have hz := goF_zr (near := near) hOn f p
  have hm : zrF (goF On near f p).1 + (r ++ (goF On near f p).2).length + 1 = zrF f + (p :: r).length := by rw [List.length_append, List.length_cons]; omega
  obtain ⟨hop, hpp, hpb⟩ := h.mem p (List.mem_cons_self ..)
  have hpb : f.at p + (zrF f + (p :: r).length) ≤ 1026 := hpb
  refine ⟨⟨?_, ?_, fun q hq => ?_⟩, by omega⟩
  · have := h.res
    rw [← bfs_step hOn]
    exact this
  · have := h.cnt
    show spK On near (zrF (goF On near f p).1 + (r ++ (goF On near f p).2).length) _ _ _ = KT
    rw [← this]
    show _ = spK On near (zrF f + (p :: r).length) K f (p :: r)
    rw [← hm, spK]
  · show On q = true ∧ 0 < (goF On near f p).1.at q ∧ (goF On near f p).1.at q + (zrF (goF On near f p).1 + (r ++ (goF On near f p).2).length) ≤ 1026
    rcases List.mem_append.1 hq with hq | hq
    · obtain ⟨g1, g2, g3⟩ := h.mem q (List.mem_cons_of_mem _ hq)
      have g3 : f.at q + (zrF f + (p :: r).length) ≤ 1026 := g3
      have g2 : 0 < f.at q := g2
      rw [goF_at hOn g1, if_neg (by omega)]
      exact ⟨g1, g2, by omega⟩
    · rw [goF_new hOn, List.mem_filter, nb_iff] at hq
      obtain ⟨⟨g1, g2⟩, g3⟩ := hq
      simp only [Bool.and_eq_true, decide_eq_true_eq] at g3
      rw [goF_at hOn g2, if_pos ⟨nb_iff.2 ⟨g1, g2⟩, g3⟩]
      exact ⟨g2, by omega, by omega⟩
theorem SpI.done {On near : P2 → Bool} {T : FD} {KT K : Nat} {f : FD} (h : SpI On near T KT (f, [], K)) : f = T ∧ K = KT :=
  ⟨(bfs_nil ..).symm.trans h.res, (spK_nil ..).symm.trans h.cnt⟩
theorem SpI.bd {On near : P2 → Bool} {T : FD} {KT K : Nat} {f : FD} {p : P2} {r : List P2} (h : SpI On near T KT (f, p :: r, K)) : On p = true ∧ (0 < f.at p ∧ f.at p ≤ 4000) ∧ r.length ≤ 4000 := by
  obtain ⟨h1, h2, h3⟩ := h.mem p (List.mem_cons_self ..)
  have h3 : f.at p + (zrF f + (p :: r).length) ≤ 1026 := h3
  have h2 : 0 < f.at p := h2
  rw [List.length_cons] at h3
  exact ⟨h1, ⟨h2, by omega⟩, by omega⟩
theorem que_head {G : List Value} {pp : Nat} (hG : G.length = pp * 2) (p : P2) (r : List P2) : ((G ++ (p :: r).flatMap p2).drop ((pp + 0) * 2)).take 2 = p2 p := by
  rw [Nat.add_zero, ← hG, List.drop_left]
  rfl
theorem que_tail {G : List Value} {pp : Nat} (hG : G.length = pp * 2) (p : P2) (r : List P2) : (G ++ (p :: r).flatMap p2).drop ((pp + 1) * 2) = r.flatMap p2 := by
  rw [Nat.add_mul, ← hG, Nat.one_mul, ← List.drop_drop, List.drop_left]
  rfl
theorem goRoundK (w h : Int) (ds : List D) (ts : List TL) (hr : RowOk ds ts) (hc : CvOk w h ts) (hg : tsRng ts) (p : P2) (hp : onS w h p.x p.y = true) (c : C4) (hcr : c.rng) (tol : Int) (ht : 0 ≤ tol) (f : FD) (k : Nat) (q : List P2) (hq : q.length ≤ 4000) (hf : 0 < f.at p ∧ f.at p ≤ 4000) (i : Nat) (hi : i < (adjL p).length) (hoo : onP w h (adjL p)[i] = true) : DRound Try.prog 0 [.val (.agg (p2 (adjL p)[i]).toArray)] [.lp 37 [(3, .loc 1 0), (4, .loc 2 0), (5, .loc 3 0)] #[10] gonA gonB .ready none, .mix 84 [.loc 4 0], .flat 34 [.int .i64 p.x, .int .i64 p.y], .mix 87 [.fn (.func 78) [] [.loc 6 0, .loc 7 0, .loc 8 0]], .mix 134 (srL (cvD w h ds) ((goK (onP w h) (nearP w ts tol c) f p i).1).l (.farr 5 (k + (goK (onP w h) (nearP w ts tol c) f p i).2.length))), .fam (fmQ (k + (goK (onP w h) (nearP w ts tol c) f p i).2.length) (q ++ (goK (onP w h) (nearP w ts tol c) f p i).2)), .mix 29 [cvD w h ds], .flat 27 (c4 c), .flat 3 [.int .i64 tol]] true [.lp 37 [(3, .loc 1 0), (4, .loc 2 0), (5, .loc 3 0)] #[10] gonA gonB .ready none, .mix 84 [.loc 4 0], .flat 34 [.int .i64 p.x, .int .i64 p.y], .mix 87 [.fn (.func 78) [] [.loc 6 0, .loc 7 0, .loc 8 0]], .mix 134 (srL (cvD w h ds) ((goK (onP w h) (nearP w ts tol c) f p (i + 1)).1).l (.farr 5 (k + (goK (onP w h) (nearP w ts tol c) f p (i + 1)).2.length))), .fam (fmQ (k + (goK (onP w h) (nearP w ts tol c) f p (i + 1)).2.length) (q ++ (goK (onP w h) (nearP w ts tol c) f p (i + 1)).2)), .mix 29 [cvD w h ds], .flat 27 (c4 c), .flat 3 [.int .i64 tol]] := by
  have hal := adj_len p
  have hold := goK_old (On := onP w h) (onP_in hc.may) (near := nearP w ts tol c) (f := f) (p := p) (i := i) hp hf.1
  have hgl := goK_len (On := onP w h) (near := nearP w ts tol c) f p i
  have hh := goRound w h ds ts hr hc hg p hp c hcr tol ht (goK (onP w h) (nearP w ts tol c) f p i).1 (k + (goK (onP w h) (nearP w ts tol c) f p i).2.length) (q ++ (goK (onP w h) (nearP w ts tol c) f p i).2) (by rw [List.length_append]; omega) (by rw [hold]; exact hf) _ hoo
  rw [hold, vis_cnt, vis_app, vis_fst] at hh
  rw [goK_yes hi hoo]
  exact hh
set_option maxRecDepth 4000 in
set_option maxHeartbeats 1000000 in
theorem nbs_go (w h : Int) (ds : List D) (ts : List TL) (hr : RowOk ds ts) (hc : CvOk w h ts) (hg : tsRng ts) (p : P2) (hp : onS w h p.x p.y = true) (c : C4) (hcr : c.rng) (tol : Int) (ht : 0 ≤ tol) (f : FD) (k : Nat) (q : List P2) (hq : q.length ≤ 4000) (hf : 0 < f.at p ∧ f.at p ≤ 4000) : DFun Try.prog 98 [.yld 0, .loc 9 0, .loc 10 0] [.lp 37 [(3, .loc 1 0), (4, .loc 2 0), (5, .loc 3 0)] #[10] gonA gonB .ready none, .mix 84 [.loc 4 0], .flat 34 [.int .i64 p.x, .int .i64 p.y], .mix 87 [.fn (.func 78) [] [.loc 6 0, .loc 7 0, .loc 8 0]], .mix 134 (srL (cvD w h ds) (f).l (.farr 5 (k))), .fam (fmQ (k) (q)), .mix 29 [cvD w h ds], .flat 27 (c4 c), .flat 3 [.int .i64 tol], .flat 76 ((adjL p).flatMap p2), .mix 84 [.loc 4 0]] (.tup []) [.lp 37 [(3, .loc 1 0), (4, .loc 2 0), (5, .loc 3 0)] #[10] gonA gonB .ready none, .mix 84 [.loc 4 0], .flat 34 [.int .i64 p.x, .int .i64 p.y], .mix 87 [.fn (.func 78) [] [.loc 6 0, .loc 7 0, .loc 8 0]], .mix 134 (srL (cvD w h ds) ((goK (onP w h) (nearP w ts tol c) f p 4).1).l (.farr 5 (k + (goK (onP w h) (nearP w ts tol c) f p 4).2.length))), .fam (fmQ (k + (goK (onP w h) (nearP w ts tol c) f p 4).2.length) (q ++ (goK (onP w h) (nearP w ts tol c) f p 4).2)), .mix 29 [cvD w h ds], .flat 27 (c4 c), .flat 3 [.int .i64 tol], .flat 76 ((adjL p).flatMap p2), .mix 84 [.loc 4 0]] := by
  have hpi := onP_in hc.may p hp
  have hal := adj_len p
  refine zan (N := 32) 11 (by kernel_rfl) Try.func98 rfl rfl rfl (by simp only [fr0, Nat.zero_add, Nat.reduceAdd]; exact rfl) rfl fun s0 hs0 => ?_
  refine zaf ?_
  refine zad ?_
  refine zab rfl rfl rfl (op_ldw rfl tb76 (ev1 rfl) rfl rfl) ?_
  refine zab rfl rfl rfl (zac (.inl rfl) (ev1 rfl)) ?_
  refine zae ?_
  refine zal ?_
  refine dwp_loopS ⟨hs0, rfl⟩ (α := Nat) (fun i => [(9, .val (.int .i64 (i : Int)))]) [(0, _), (2, _), (8, _)] (fun i => [(4, .mix 134 (srL (cvD w h ds) ((goK (onP w h) (nearP w ts tol c) f p i).1).l (.farr 5 (k + (goK (onP w h) (nearP w ts tol c) f p i).2.length)))), (5, .fam (fmQ (k + (goK (onP w h) (nearP w ts tol c) f p i).2.length) (q ++ (goK (onP w h) (nearP w ts tol c) f p i).2)))]) [_, _, _, _, .hole, .hole, _, _, _, _, _] (fun i => i ≤ 4) (fun i => 4 - i) 0 [0, 1, 2, 3, 4, 5, 6, 7, 8, 9, 10] (Nat.zero_le _) rfl ⟨rfl, rfl, rfl, trivial⟩ ⟨rfl, trivial⟩ ⟨rfl, rfl, rfl, rfl, zap rfl rfl rfl, by rw [goK_zero, List.append_nil]; rfl, rfl, rfl, rfl, rfl, rfl, trivial⟩ ?_
  intro i hx
  simp only [upd, zaa, za, List.cons_append, List.nil_append]
  have hi0 := hx
  refine zaf ?_
  refine zad ?_
  refine zab rfl rfl rfl (op_lss rfl (ev1 rfl) (ev1 rfl)) ?_
  refine zae ?_
  refine zaf ?_
  refine dwp_cond rfl (fun c1 => ?_) (fun c1 => ?_)
  · try simp only [decide_eq_true_eq, decide_eq_false_iff_not, beq_iff_eq, bne_iff_ne, beq_eq_false_iff_ne, bne_eq_false_iff_eq, Bool.not_eq_true', Bool.not_eq_false', Bool.and_eq_true, Bool.or_eq_true, Bool.or_eq_false_iff, ne_eq, Decidable.not_not, Int.not_lt, Int.not_le] at c1
    refine zak ?_
    refine zaf ?_
    refine zal ?_
    refine zaf ?_
    have hi : i < (adjL p).length := by omega
    have had := adj_in hpi (List.getElem_mem hi)
    refine zai 1 (by simp only [holes, List.cons_append, List.nil_append]; exact rfl) ?_
    refine zad ?_
    refine zab rfl rfl rfl ((op_ixv (j := i) (zP2) rfl av76 (ev1 rfl) (ev1 rfl) (fun _ => rfl) (fun _ => by omega) (adj_len _) (fun _ => rfl)).wk (Wk.of_eq (d' := .val (.agg (p2 (adjL p)[i]).toArray)) (by rw [gD_at hi]))) ?_
    refine zaj rfl rfl rfl (op_alloc 11 rfl zr34 rfl) (by simp only [upd, zaa, za]; exact rfl) ?_
    refine walk_s rfl rfl (op_stwa rfl tb34 (ev1 rfl) (ev1 rfl) rfl rfl rfl rfl) (by simp only [upd, zaa, za]; exact rfl) ?_
    refine zae ?_
    refine zaf ?_
    refine zai 1 (by simp only [holes, List.cons_append, List.nil_append]; exact rfl) ?_
    refine dwp_draw [([10], []), ([], []), ([], []), ([4], []), ([], []), ([11], []), ([], []), ([11], []), ([], []), ([], []), ([], []), ([], []), ([12], [12]), ([12], [12]), ([], [])] mixed (by kernel_rfl) ?_
    refine zag rfl rfl (op_ldm rfl tb84 (ev1 rfl) rfl rfl) ?_
    refine zag rfl rfl (op_nc rfl (ev1 rfl) (fun s v h => by cases h; exact ⟨_, rfl⟩)) ?_
    refine zag rfl rfl (op_fa rfl fo134_0 (ev1 rfl)) ?_
    refine zag rfl rfl (op_ldm rfl tb29 (ev1 rfl) rfl (srL_0 rfl)) ?_
    refine zag rfl rfl (op_fa rfl fo34_0 (ev1 rfl)) ?_
    refine zag rfl rfl (zam rfl tb3 (ev1 rfl) rfl rfl) ?_
    refine zag rfl rfl (op_fa rfl fo34_1 (ev1 rfl)) ?_
    refine zag rfl rfl (zam rfl tb3 (ev1 rfl) rfl rfl) ?_
    refine zag rfl rfl (zah [] [] [] rfl (ev1 rfl) (ec (ev1 rfl) (ec (ev1 rfl) (ec (ev1 rfl) en))) rfl rfl (at_d w h ds ts hr hc (adjL p)[i].x (adjL p)[i].y) rfl rfl rfl rfl rfl rfl) ?_
    refine zag rfl rfl (zac (.inl rfl) (ev1 rfl)) ?_
    refine zag rfl rfl (op_ext rfl (ev1 rfl) rfl) ?_
    refine zag rfl rfl (op_ext rfl (ev1 rfl) rfl) ?_
    refine lex_w rfl rfl (op_alloc 12 rfl zr27 rfl) rfl (by simp only [upd, zaa, za]; exact rfl) ?_
    refine lex_s rfl rfl (op_stwa rfl tb27 (ev1 rfl) (ev1 rfl) rfl rfl rfl rfl) rfl (by simp only [upd, zaa, za]; exact rfl) ?_
    refine zag rfl rfl (zac (.inr rfl) (ev1 rfl)) ?_
    refine lex_nil ?_
    refine zaf ?_
    by_cases hoo : onP w h (adjL p)[i] = true
    · refine zad ?_
      refine zab rfl rfl rfl (zac (.inl rfl) (ev1 rfl)) ?_
      refine zab rfl rfl rfl ((zac (.inl rfl) (ev1 rfl)).cast (d' := .val (.bool true)) (by rw [show onS w h (adjL p)[i].x (adjL p)[i].y = true from hoo])) ?_
      refine walk_k (gd_t (b := true) rfl rfl rfl) rfl rfl rfl (zac (.inl rfl) (ev1 rfl)) (by simp only [upd, zaa, za]; exact rfl) ?_
      refine walk_k (gd_t (b := true) rfl rfl rfl) rfl rfl rfl (op_ldw rfl tb34 (ev1 rfl) rfl rfl) (by simp only [upd, zaa, za]; exact rfl) ?_
      refine walk_k (gd_t (b := true) rfl rfl rfl) rfl rfl rfl (op_y (i := 0) [0, 1, 2, 3, 4, 5, 6, 7, 8] [] [] rfl (ev2 rfl) (ec (ev2 rfl) en) rfl rfl (by exact mfits _ _ ⟨rfl, rfl, rfl, rfl, zap rfl rfl rfl, rfl, rfl, rfl, rfl, trivial⟩) (goRoundK w h ds ts hr hc hg p hp c hcr tol ht f k q hq hf i hi hoo) rfl rfl rfl (by exact (wrc rfl (wrc rfl (wrc rfl (wrc rfl (wrc (sb_srx rfl rfl) (wrc rfl (wrc rfl (wrc rfl (wrc rfl rfl)))))))))) rfl) (by simp only [upd, zaa, za]; exact rfl) ?_
      refine walk_k (gd_t (b := true) rfl rfl rfl) rfl rfl rfl ((op_not rfl (ev2 rfl)).cast (d' := .val (.bool false)) (by kernel_rfl)) (by simp only [upd, zaa, za]; exact rfl) ?_
      refine zab rfl rfl rfl ((op_and rfl (ev1 rfl) (ev3 rfl (fun _ => rfl))).cast (d' := .val (.bool false)) (by rfl)) ?_
      refine zae ?_
      refine dwp_if_f rfl (rfl) ?_
      refine zak ?_
      refine zad ?_
      refine zab rfl rfl rfl (op_add' rfl (ev1 rfl) (ev1 rfl) (fun _ => IntWalk.i64_in _ (by omega))) ?_
      refine zab rfl rfl rfl (zac (.inl rfl) (ev1 rfl)) ?_
      refine zae ?_
      refine ⟨i + 1, [0, 1, 2, 3, 4, 5, 6, 7, 8, 9, 10], by omega, by simp only []; omega, rfl, ⟨rfl, rfl, rfl, rfl, trivial⟩, ⟨rfl, rfl, rfl, rfl, zap rfl rfl rfl, rfl, rfl, rfl, rfl, rfl, rfl, trivial⟩⟩
    · have hoo : onP w h (adjL p)[i] = false := by simpa using hoo
      refine zad ?_
      refine zab rfl rfl rfl (zac (.inl rfl) (ev1 rfl)) ?_
      refine zab rfl rfl rfl ((zac (.inl rfl) (ev1 rfl)).cast (d' := .val (.bool false)) (by rw [show onS w h (adjL p)[i].x (adjL p)[i].y = false from hoo])) ?_
      refine walk_gr (gd_t (b := false) rfl rfl rfl) rfl rfl rfl (dop_never (d := .junk)) ?_
      refine walk_gr (gd_t (b := false) rfl rfl rfl) rfl rfl rfl (dop_never (d := .junk)) ?_
      refine walk_gr (gd_t (b := false) rfl rfl rfl) rfl rfl rfl (dop_never (d := .val (.bool false))) ?_
      refine walk_gr (gd_t (b := false) rfl rfl rfl) rfl rfl rfl (dop_never (d := .val (.bool false))) ?_
      refine zab rfl rfl rfl ((op_and rfl (ev1 rfl) (ev3 rfl id)).cast (d' := .val (.bool false)) (by rfl)) ?_
      refine zae ?_
      refine dwp_if_f rfl (rfl) ?_
      refine zak ?_
      refine zad ?_
      refine zab rfl rfl rfl (op_add' rfl (ev1 rfl) (ev1 rfl) (fun _ => IntWalk.i64_in _ (by omega))) ?_
      refine zab rfl rfl rfl (zac (.inl rfl) (ev1 rfl)) ?_
      refine zae ?_
      refine ⟨i + 1, [0, 1, 2, 3, 4, 5, 6, 7, 8, 9, 10], by omega, by simp only []; omega, rfl, ⟨rfl, rfl, rfl, rfl, trivial⟩, ⟨rfl, rfl, rfl, rfl, zap (by rw [goK_no hi hoo]) rfl (by rw [goK_no hi hoo]; rfl), by rw [goK_no hi hoo]; rfl, rfl, rfl, rfl, rfl, rfl, trivial⟩⟩
  · try simp only [decide_eq_true_eq, decide_eq_false_iff_not, beq_iff_eq, bne_iff_ne, beq_eq_false_iff_ne, bne_eq_false_iff_eq, Bool.not_eq_true', Bool.not_eq_false', Bool.and_eq_true, Bool.or_eq_true, Bool.or_eq_false_iff, ne_eq, Decidable.not_not, Int.not_lt, Int.not_le] at c1
    refine dwp_exit ?_
    obtain rfl : i = 4 := by omega
    refine kend [0, 1, 2, 3, 4, 5, 6, 7, 8, 9, 10] (res_none rfl) rfl rfl ?_ ⟨rfl, rfl, rfl, rfl, zap rfl rfl rfl, rfl, rfl, rfl, rfl, rfl, rfl, trivial⟩
    rfl
end Go.Proofs.Ytfnhckildfbikaa
namespace Go.Proofs.Ytfnhckildfbikaa
set_option maxRecDepth 4000
set_option linter.unusedVariables false
set_option linter.unusedSimpArgs false
open Go.RowKit
attribute [local irreducible] zFD srL goF bfsF
set_option maxRecDepth 4000 in
set_option maxHeartbeats 1000000 in
theorem goOn_k (w h : Int) (ds : List D) (ts : List TL) (hr : RowOk ds ts) (hc : CvOk w h ts) (hg : tsRng ts) (p : P2) (hp : onS w h p.x p.y = true) (c : C4) (hcr : c.rng) (tol : Int) (ht : 0 ≤ tol) (f : FD) (k : Nat) (q : List P2) (hq : q.length ≤ 4000) (hf : 0 < f.at p ∧ f.at p ≤ 4000) : DFun Try.prog 77 [.loc 0 0, .val (.agg #[.int .i64 p.x, .int .i64 p.y]), .fn (.func 78) [] [.loc 2 0, .loc 3 0, .loc 4 0]] [.mix 134 (srL (cvD w h ds) (f).l (.farr 1 (k))), .fam (fmQ (k) (q)), .mix 29 [cvD w h ds], .flat 27 (c4 c), .flat 3 [.int .i64 tol]] (.tup []) [.mix 134 (srL (cvD w h ds) ((goK (onP w h) (nearP w ts tol c) f p 4).1).l (.farr 1 (k + (goK (onP w h) (nearP w ts tol c) f p 4).2.length))), .fam (fmQ (k + (goK (onP w h) (nearP w ts tol c) f p 4).2.length) (q ++ (goK (onP w h) (nearP w ts tol c) f p 4).2)), .mix 29 [cvD w h ds], .flat 27 (c4 c), .flat 3 [.int .i64 tol]] := by
  have hpi := onP_in hc.may p hp
  refine zan (N := 37) 5 (by kernel_rfl) Try.func77 rfl rfl rfl (by simp only [fr0, Nat.zero_add, Nat.reduceAdd]; exact rfl) rfl fun s0 hs0 => ?_
  refine zaf ?_
  refine zai 3 (by simp only [holes, List.cons_append, List.nil_append]; exact rfl) ?_
  refine zad ?_
  refine zaj rfl rfl rfl (op_boxm 5 rfl (ev1 rfl) (fun s v h => by cases h <;> rfl) rfl) (by simp only [upd, zaa, za]; exact rfl) ?_
  refine zaj rfl rfl rfl (op_boxa 6 rfl (ev1 rfl) rfl) (by simp only [upd, zaa, za]; exact rfl) ?_
  refine zaj rfl rfl rfl (op_boxm 7 rfl (ev1 rfl) (fun s v h => by cases h <;> rfl) rfl) (by simp only [upd, zaa, za]; exact rfl) ?_
  refine zae ?_
  refine zaf ?_
  refine zai 2 (by simp only [holes, List.cons_append, List.nil_append]; exact rfl) ?_
  refine zad ?_
  refine zab rfl rfl rfl (op_ldm rfl tb84 (ev1 rfl) rfl rfl) ?_
  refine zab rfl rfl rfl (op_ldw rfl tb34 (ev1 rfl) rfl rfl) ?_
  refine zaj rfl rfl rfl (zah [0, 1] [] [8, 9] rfl (ev1 rfl) (ec (ev1 rfl) (ec (ev1 rfl) en)) rfl (by exact mfits _ _ ⟨zap rfl rfl rfl, rfl, trivial⟩) (nbs_d w h ds f k q p hpi) rfl rfl rfl (by exact (wrc (sb_srx rfl rfl) (wrc rfl (wrc rfl (wrc rfl rfl))))) rfl rfl) (by simp only [upd, zaa, za]; exact rfl) ?_
  refine zae ?_
  refine zal ?_
  refine dwp_hole ?_
  simp only [List.cons_append, List.nil_append]
  refine dwp_rf (FL := [(3, _), (4, _), (5, _)]) (st := .ready) (pe := none) [10, 5, 6, 7, 0, 1, 2, 3, 4, 8, 9] [] [] 10 rfl rfl (ev1 rfl) rfl (subF_lk ⟨rfl, rfl, rfl, trivial⟩) rfl rfl (by exact mfits _ _ ⟨rfl, rfl, rfl, rfl, zap rfl rfl rfl, rfl, rfl, rfl, rfl, rfl, rfl, trivial⟩) (nbs_go w h ds ts hr hc hg p hp c hcr tol ht f k q hq hf) rfl rfl rfl (by exact (wrc rfl (wrc rfl (wrc rfl (wrc rfl (wrc (sb_srx rfl rfl) (wrc rfl (wrc rfl (wrc rfl (wrc rfl (wrc rfl (wrc rfl rfl)))))))))))) rfl rfl rfl (by simp) (fun e => ?_) (fun c e => ?_)
  · simp only [upd, zaa, za]
    refine kend [0, 1, 2, 3, 4] (res_none rfl) rfl rfl ?_ ⟨zap rfl rfl rfl, rfl, rfl, rfl, rfl, trivial⟩
    rfl
  · cases e
theorem goOn_d (w h : Int) (ds : List D) (ts : List TL) (hr : RowOk ds ts) (hc : CvOk w h ts) (hg : tsRng ts) (p : P2) (hp : onS w h p.x p.y = true) (c : C4) (hcr : c.rng) (tol : Int) (ht : 0 ≤ tol) (f : FD) (k : Nat) (q : List P2) (hq : q.length ≤ 4000) (hf : 0 < f.at p ∧ f.at p ≤ 4000) : DFun Try.prog 77 [.loc 0 0, .val (.agg #[.int .i64 p.x, .int .i64 p.y]), .fn (.func 78) [] [.loc 2 0, .loc 3 0, .loc 4 0]] [.mix 134 (srL (cvD w h ds) (f).l (.farr 1 (k))), .fam (fmQ (k) (q)), .mix 29 [cvD w h ds], .flat 27 (c4 c), .flat 3 [.int .i64 tol]] (.tup []) [.mix 134 (srL (cvD w h ds) ((goF (onP w h) (nearP w ts tol c) f p).1).l (.farr 1 (k + (goF (onP w h) (nearP w ts tol c) f p).2.length))), .fam (fmQ (k + (goF (onP w h) (nearP w ts tol c) f p).2.length) (q ++ (goF (onP w h) (nearP w ts tol c) f p).2)), .mix 29 [cvD w h ds], .flat 27 (c4 c), .flat 3 [.int .i64 tol]] := by
  have hh := goOn_k w h ds ts hr hc hg p hp c hcr tol ht f k q hq hf
  rw [goK_end] at hh
  exact hh
set_option maxRecDepth 4000 in
set_option maxHeartbeats 1000000 in
theorem spread_d (w h : Int) (ds : List D) (ts : List TL) (hr : RowOk ds ts) (hc : CvOk w h ts) (hg : tsRng ts) (p : P2) (hp : onS w h p.x p.y = true) (c : C4) (hcr : c.rng) (tol : Int) (ht : 0 ≤ tol) (f : FD) (k : Nat) (h0 : f.at p = 0) : DFun Try.prog 52 [.loc 0 0, .val (.agg #[.int .i64 p.x, .int .i64 p.y]), .fn (.func 78) [] [.loc 2 0, .loc 3 0, .loc 4 0]] [.mix 134 (srL (cvD w h ds) (f).l (.farr 1 (k))), .fam (fmQ (k) (([] : List P2))), .mix 29 [cvD w h ds], .flat 27 (c4 c), .flat 3 [.int .i64 tol]] (.tup []) [.mix 134 (srL (cvD w h ds) ((spF (onP w h) (nearP w ts tol c) f p)).l (.farr 1 ((spN (onP w h) (nearP w ts tol c) k f p)))), .fam (fmQ ((spN (onP w h) (nearP w ts tol c) k f p)) (([] : List P2))), .mix 29 [cvD w h ds], .flat 27 (c4 c), .flat 3 [.int .i64 tol]] := by
  have hpi := onP_in hc.may p hp
  have hS := SpI.start (near := nearP w ts tol c) (onP_in hc.may) k hp h0
  refine zan (N := 57) 5 (by kernel_rfl) Try.func52 rfl rfl rfl (by simp only [fr0, Nat.zero_add, Nat.reduceAdd]; exact rfl) rfl fun s0 hs0 => ?_
  refine zaf ?_
  refine zai 1 (by simp only [holes, List.cons_append, List.nil_append]; exact rfl) ?_
  refine zad ?_
  refine zaj rfl rfl rfl (op_boxa 5 rfl (ev1 rfl) rfl) (by simp only [upd, zaa, za]; exact rfl) ?_
  refine zae ?_
  refine dwp_jumps (α := FD × List P2 × Nat) 0 rfl (fun x => [] ++ [(0, .loc 0 0), (2, .fn (.func 78) [] [.loc 2 0, .loc 3 0, .loc 4 0]), (6, .fn (.func 77) [.loc 0 0] [])]) (fun x => upd [.hole, .hole, .mix 29 [cvD w h ds], .flat 27 (c4 c), .flat 3 [.int .i64 tol]] [(0, .mix 134 (srL (cvD w h ds) (x.1).l (.farr 1 (x.2.2)))), (1, .fam (fmQ (x.2.2) (x.2.1)))]) (fun x => SpI (onP w h) (nearP w ts tol c) (spF (onP w h) (nearP w ts tol c) f p) (spN (onP w h) (nearP w ts tol c) k f p) x) (fun x => zrF x.1 + x.2.1.length) ?_ (fun x hx => ?_)
  · refine zaf ?_
    refine zad ?_
    refine zab rfl rfl rfl (zac (.inl rfl) (ev1 rfl)) ?_
    refine zab rfl rfl rfl (op_mkf rfl (ec (ev1 rfl) en) en) ?_
    refine zab rfl rfl rfl (zac (.inr rfl) (ev1 rfl)) ?_
    refine zae ?_
    refine zaf ?_
    refine zad ?_
    refine zab rfl rfl rfl (zac (.inl rfl) (ev1 rfl)) ?_
    refine zab rfl rfl rfl (op_ldw rfl tb34 (ev1 rfl) rfl rfl) ?_
    refine zaj rfl rfl rfl (zah [0, 1] [] [] rfl (ev1 rfl) (ec (ev1 rfl) (ec (ev1 rfl) (ec (ev1 rfl) en))) rfl (by exact mfits _ _ ⟨zap rfl rfl rfl, rfl, trivial⟩) (meet_d w h ds f k [] p 0 hpi (by omega)) rfl rfl rfl (by exact (wrc (sb_srx rfl rfl) (wrc rfl rfl))) rfl rfl) (by simp only [upd, zaa, za]; exact rfl) ?_
    refine zae ?_
    refine zaf ?_
    refine zai 2 (by simp only [holes, List.cons_append, List.nil_append]; exact rfl) ?_
    refine dwp_draw [([], []), ([], []), ([], []), ([], []), ([0], []), ([5], []), ([], []), ([1, 6, 7], [1, 6, 7]), ([], []), ([], []), ([0], [0])] mixed (by kernel_rfl) ?_
    refine zag rfl rfl (zac (.inl rfl) (ev1 rfl)) ?_
    refine zag rfl rfl (zac (.inl rfl) (ev1 rfl)) ?_
    refine zag rfl rfl (op_nc rfl (ev1 rfl) (fun s v h => by cases h; exact ⟨_, rfl⟩)) ?_
    refine zag rfl rfl (op_fa rfl fo134_2 (ev1 rfl)) ?_
    refine zag rfl rfl (op_ldm rfl tb64 (ev1 rfl) rfl (srL_q (by rw [FD.h]))) ?_
    refine zag rfl rfl (op_ldw rfl tb34 (ev1 rfl) rfl rfl) ?_
    refine zag rfl rfl (op_bs (ps := [(0, .tmp 18)]) rfl sl64 zr34 rfl (vc (ev1 rfl) vn) rfl (by decide) (by decide)) ?_
    refine lex_w rfl rfl ((op_appFu (j1 := 6) (j2 := 7) rfl rfl sl64 zr34 rfl (ev1 rfl) (ev1 rfl) rfl (fmQ_at _ _) rfl rfl rfl (by decide) (fun _ => rfl) (fun _ => ⟨by decide, by decide⟩))) rfl (by simp only [upd, zaa, za]; exact rfl) ?_
    refine zag rfl rfl (op_nc rfl (ev1 rfl) (fun s v h => by cases h; exact ⟨_, rfl⟩)) ?_
    refine zag rfl rfl (op_fa rfl fo134_2 (ev1 rfl)) ?_
    refine lex_s rfl rfl (op_stmq rfl tb64 (ev1 rfl) (ev1 rfl) (fun s v h => by cases h <;> exact ⟨rfl, rfl⟩) rfl (srF_qlt) (srL_setq (by rw [FD.h]))) rfl (by simp only [upd, zaa, za]; exact rfl) ?_
    refine lex_nil ?_
    refine zaf ?_
    refine dwp_label ?_
    refine zaf ?_
    refine dwp_eqB 1 (congrArg Blk.fam (fmQ_add k [] p)) rfl (by simp only [List.cons_append, List.nil_append, zaa, za]; exact rfl) ?_
    refine dwp_eqB 0 (congrArg (fun z => Blk.mix 134 (srL (cvD w h ds) (f.put p (0 + 1)).l (.farr 1 z))) (fmQ_len k [])) rfl (by simp only [List.cons_append, List.nil_append, zaa, za]; exact rfl) ?_
    have hb := hS.bd
    refine zad ?_
    refine zab rfl rfl rfl (zac (.inl rfl) (ev1 rfl)) ?_
    refine zab rfl rfl rfl (op_nc rfl (ev1 rfl) (fun s v h => by cases h; exact ⟨_, rfl⟩)) ?_
    refine zab rfl rfl rfl (op_fa rfl fo134_2 (ev1 rfl)) ?_
    refine zab rfl rfl rfl (op_ldm rfl tb64 (ev1 rfl) rfl (srL_q (by rw [FD.h]))) ?_
    refine zab rfl rfl rfl (op_lenFu rfl sl64 (ev1 rfl) rfl (fmQ_at _ _)) ?_
    refine zab rfl rfl rfl (op_gtr rfl (ev1 rfl) (ev1 rfl)) ?_
    refine zae ?_
    refine dwp_if_t rfl (rfl) ?_
    refine zaf ?_
    refine dwp_relS (j := 8) 0 rfl rfl (fmQ_at _ _) rfl (fmQ_set _ _) (by simp only [List.cons_append, List.nil_append, zaa, za]; exact rfl) ?_
    refine dwp_openS (j := 9) 0 rfl rfl rfl fun pp rr G hG => ?_
    simp only [List.cons_append, List.nil_append, zaa, za]
    refine zai 1 (by simp only [holes, List.cons_append, List.nil_append]; exact rfl) ?_
    refine zad ?_
    refine zab rfl rfl rfl (zac (.inl rfl) (ev1 rfl)) ?_
    refine zab rfl rfl rfl (op_nc rfl (ev1 rfl) (fun s v h => by cases h; exact ⟨_, rfl⟩)) ?_
    refine zab rfl rfl rfl (op_fa rfl fo134_2 (ev1 rfl)) ?_
    refine zab rfl rfl rfl (op_ldm rfl tb64 (ev1 rfl) rfl (srL_q (by rw [FD.h]))) ?_
    refine zab rfl rfl rfl (op_ixp (0) rfl sl64 (ev1 rfl) (ev1 rfl) (fun _ => rfl) (fun _ => by simp)) ?_
    refine zab rfl rfl rfl (op_ldra rfl tb34 (ev1 rfl) rfl (que_head hG p []) rfl) ?_
    refine zaj rfl rfl rfl (op_alloc 10 rfl zr34 rfl) (by simp only [upd, zaa, za]; exact rfl) ?_
    refine walk_s rfl rfl (op_stwa rfl tb34 (ev1 rfl) (ev1 rfl) rfl rfl rfl rfl) (by simp only [upd, zaa, za]; exact rfl) ?_
    refine zae ?_
    refine zaf ?_
    refine dwp_draw [([], []), ([], []), ([], []), ([], []), ([0], []), ([], []), ([], []), ([], []), ([0], []), ([], []), ([], []), ([], []), ([], []), ([0], []), ([], []), ([], []), ([], []), ([], []), ([0], [0])] mixed (by kernel_rfl) ?_
    refine zag rfl rfl (zac (.inl rfl) (ev1 rfl)) ?_
    refine zag rfl rfl (zac (.inl rfl) (ev1 rfl)) ?_
    refine zag rfl rfl (op_nc rfl (ev1 rfl) (fun s v h => by cases h; exact ⟨_, rfl⟩)) ?_
    refine zag rfl rfl (op_fa rfl fo134_2 (ev1 rfl)) ?_
    refine zag rfl rfl (op_ldm rfl tb64 (ev1 rfl) rfl (srL_q (by rw [FD.h]))) ?_
    refine zag rfl rfl (zac (.inl rfl) (ev1 rfl)) ?_
    refine zag rfl rfl (op_nc rfl (ev1 rfl) (fun s v h => by cases h; exact ⟨_, rfl⟩)) ?_
    refine zag rfl rfl (op_fa rfl fo134_2 (ev1 rfl)) ?_
    refine zag rfl rfl (op_ldm rfl tb64 (ev1 rfl) rfl (srL_q (by rw [FD.h]))) ?_
    refine zag rfl rfl (op_lenp rfl sl64 (ev1 rfl)) ?_
    refine zag rfl rfl (zac (.inl rfl) (ev1 rfl)) ?_
    refine zag rfl rfl (op_nc rfl (ev1 rfl) (fun s v h => by cases h; exact ⟨_, rfl⟩)) ?_
    refine zag rfl rfl (op_fa rfl fo134_2 (ev1 rfl)) ?_
    refine zag rfl rfl (op_ldm rfl tb64 (ev1 rfl) rfl (srL_q (by rw [FD.h]))) ?_
    refine zag rfl rfl (op_capp rfl sl64 (ev1 rfl)) ?_
    refine zag rfl rfl (op_slp3 1 rfl sl64 (ev1 rfl) (ev1 rfl) (ev1 rfl) (ev1 rfl) (fun _ => rfl) (fun _ => rfl) (fun _ => rfl) (fun _ => by simp)) ?_
    refine zag rfl rfl (op_nc rfl (ev1 rfl) (fun s v h => by cases h; exact ⟨_, rfl⟩)) ?_
    refine zag rfl rfl (op_fa rfl fo134_2 (ev1 rfl)) ?_
    refine lex_s rfl rfl (op_stmq rfl tb64 (ev1 rfl) (ev1 rfl) (fun s v h => by cases h <;> exact ⟨rfl, rfl⟩) rfl (srF_qlt) (srL_setq (by rw [FD.h]))) rfl (by simp only [upd, zaa, za]; exact rfl) ?_
    refine lex_nil ?_
    refine zaf ?_
    refine dwp_closeS (j := 11) 0 rfl rfl (que_tail hG p []) rfl (by simp only [List.cons_append, List.nil_append, zaa, za]; exact rfl) ?_
    refine dwp_absS (f := 1) (q := k + 1 + 1) 0 rfl rfl rfl (by simp) (fmQ_new (k + 1 + 1) []) (by simp only [List.cons_append, List.nil_append, zaa, za]; exact rfl) ?_
    refine zad ?_
    refine zab rfl rfl rfl (zac (.inl rfl) (ev1 rfl)) ?_
    refine zab rfl rfl rfl (op_ldw rfl tb34 (ev1 rfl) rfl rfl) ?_
    refine zab rfl rfl rfl (zac (.inl rfl) (ev1 rfl)) ?_
    refine zaj rfl rfl rfl (zah [0, 1, 2, 3, 4] [] [] rfl (ev1 rfl) (ec (ev1 rfl) (ec (ev1 rfl) en)) rfl (by exact mfits _ _ ⟨zap rfl rfl rfl, rfl, rfl, rfl, rfl, trivial⟩) (goOn_d w h ds ts hr hc hg p hb.1 c hcr tol ht (f.put p 1) (k + 1 + 1) [] hb.2.2 hb.2.1) rfl rfl rfl (by exact (wrc (sb_srx rfl rfl) (wrc rfl (wrc rfl (wrc rfl (wrc rfl rfl)))))) rfl rfl) (by simp only [upd, zaa, za]; exact rfl) ?_
    refine zae ?_
    refine dwp_goto ⟨rfl, ((goF (onP w h) (nearP w ts tol c) (f.put p 1) p).1, [] ++ (goF (onP w h) (nearP w ts tol c) (f.put p 1) p).2, k + 1 + 1 + (goF (onP w h) (nearP w ts tol c) (f.put p 1) p).2.length), (hS.step (onP_in hc.may)).1, fun a w hi => inv_ren (σ := [0, 1, 2, 3, 4]) hi ⟨hs0, rfl⟩ rfl ⟨rfl, rfl, rfl, trivial⟩ ⟨zap rfl rfl rfl, rfl, rfl, rfl, rfl, trivial⟩⟩
  · simp only [upd, zaa, za, List.cons_append, List.nil_append]
    obtain ⟨f1, q1, k1⟩ := x
    have hI := hx
    clear hx
    refine zaf ?_
    refine zak ?_
    refine zaf ?_
    refine zad ?_
    refine zab rfl rfl rfl (zac (.inl rfl) (ev1 rfl)) ?_
    refine zab rfl rfl rfl (op_nc rfl (ev1 rfl) (fun s v h => by cases h; exact ⟨_, rfl⟩)) ?_
    refine zab rfl rfl rfl (op_fa rfl fo134_2 (ev1 rfl)) ?_
    refine zab rfl rfl rfl (op_ldm rfl tb64 (ev1 rfl) rfl (srL_q (by rw [FD.h]))) ?_
    refine zab rfl rfl rfl (op_lenFu rfl sl64 (ev1 rfl) rfl (fmQ_at _ _)) ?_
    refine zab rfl rfl rfl (op_gtr rfl (ev1 rfl) (ev1 rfl)) ?_
    refine zae ?_
    refine dwp_cond rfl (fun c1 => ?_) (fun c1 => ?_)
    · have c2 : (0 : Int) < (q1.length : Int) := of_decide_eq_true c1
      obtain ⟨p1, r, rfl⟩ : ∃ p1 r, q1 = p1 :: r := by
        cases q1 with
        | nil => simp at c2
        | cons a b => exact ⟨a, b, rfl⟩
      have hst := hI.step (onP_in hc.may)
      have hb := hI.bd
      refine zaf ?_
      refine dwp_relS (j := 5) 0 rfl rfl (fmQ_at _ _) rfl (fmQ_set _ _) (by simp only [List.cons_append, List.nil_append, zaa, za]; exact rfl) ?_
      refine dwp_openS (j := 6) 0 rfl rfl rfl fun pp rr G hG => ?_
      simp only [List.cons_append, List.nil_append, zaa, za]
      refine zai 1 (by simp only [holes, List.cons_append, List.nil_append]; exact rfl) ?_
      refine zad ?_
      refine zab rfl rfl rfl (zac (.inl rfl) (ev1 rfl)) ?_
      refine zab rfl rfl rfl (op_nc rfl (ev1 rfl) (fun s v h => by cases h; exact ⟨_, rfl⟩)) ?_
      refine zab rfl rfl rfl (op_fa rfl fo134_2 (ev1 rfl)) ?_
      refine zab rfl rfl rfl (op_ldm rfl tb64 (ev1 rfl) rfl (srL_q (by rw [FD.h]))) ?_
      refine zab rfl rfl rfl (op_ixp (0) rfl sl64 (ev1 rfl) (ev1 rfl) (fun _ => rfl) (fun _ => by simp)) ?_
      refine zab rfl rfl rfl (op_ldra rfl tb34 (ev1 rfl) rfl (que_head hG p1 r) rfl) ?_
      refine zaj rfl rfl rfl (op_alloc 7 rfl zr34 rfl) (by simp only [upd, zaa, za]; exact rfl) ?_
      refine walk_s rfl rfl (op_stwa rfl tb34 (ev1 rfl) (ev1 rfl) rfl rfl rfl rfl) (by simp only [upd, zaa, za]; exact rfl) ?_
      refine zae ?_
      refine zaf ?_
      refine dwp_draw [([], []), ([], []), ([], []), ([], []), ([0], []), ([], []), ([], []), ([], []), ([0], []), ([], []), ([], []), ([], []), ([], []), ([0], []), ([], []), ([], []), ([], []), ([], []), ([0], [0])] mixed (by kernel_rfl) ?_
      refine zag rfl rfl (zac (.inl rfl) (ev1 rfl)) ?_
      refine zag rfl rfl (zac (.inl rfl) (ev1 rfl)) ?_
      refine zag rfl rfl (op_nc rfl (ev1 rfl) (fun s v h => by cases h; exact ⟨_, rfl⟩)) ?_
      refine zag rfl rfl (op_fa rfl fo134_2 (ev1 rfl)) ?_
      refine zag rfl rfl (op_ldm rfl tb64 (ev1 rfl) rfl (srL_q (by rw [FD.h]))) ?_
      refine zag rfl rfl (zac (.inl rfl) (ev1 rfl)) ?_
      refine zag rfl rfl (op_nc rfl (ev1 rfl) (fun s v h => by cases h; exact ⟨_, rfl⟩)) ?_
      refine zag rfl rfl (op_fa rfl fo134_2 (ev1 rfl)) ?_
      refine zag rfl rfl (op_ldm rfl tb64 (ev1 rfl) rfl (srL_q (by rw [FD.h]))) ?_
      refine zag rfl rfl (op_lenp rfl sl64 (ev1 rfl)) ?_
      refine zag rfl rfl (zac (.inl rfl) (ev1 rfl)) ?_
      refine zag rfl rfl (op_nc rfl (ev1 rfl) (fun s v h => by cases h; exact ⟨_, rfl⟩)) ?_
      refine zag rfl rfl (op_fa rfl fo134_2 (ev1 rfl)) ?_
      refine zag rfl rfl (op_ldm rfl tb64 (ev1 rfl) rfl (srL_q (by rw [FD.h]))) ?_
      refine zag rfl rfl (op_capp rfl sl64 (ev1 rfl)) ?_
      refine zag rfl rfl (op_slp3 1 rfl sl64 (ev1 rfl) (ev1 rfl) (ev1 rfl) (ev1 rfl) (fun _ => rfl) (fun _ => rfl) (fun _ => rfl) (fun _ => by simp)) ?_
      refine zag rfl rfl (op_nc rfl (ev1 rfl) (fun s v h => by cases h; exact ⟨_, rfl⟩)) ?_
      refine zag rfl rfl (op_fa rfl fo134_2 (ev1 rfl)) ?_
      refine lex_s rfl rfl (op_stmq rfl tb64 (ev1 rfl) (ev1 rfl) (fun s v h => by cases h <;> exact ⟨rfl, rfl⟩) rfl (srF_qlt) (srL_setq (by rw [FD.h]))) rfl (by simp only [upd, zaa, za]; exact rfl) ?_
      refine lex_nil ?_
      refine zaf ?_
      refine dwp_closeS (j := 8) 0 rfl rfl (que_tail hG p1 r) rfl (by simp only [List.cons_append, List.nil_append, zaa, za]; exact rfl) ?_
      refine dwp_absS (f := 1) (q := k1 + 1) 0 rfl rfl rfl (by simp) (fmQ_new (k1 + 1) r) (by simp only [List.cons_append, List.nil_append, zaa, za]; exact rfl) ?_
      refine zad ?_
      refine zab rfl rfl rfl (zac (.inl rfl) (ev1 rfl)) ?_
      refine zab rfl rfl rfl (op_ldw rfl tb34 (ev1 rfl) rfl rfl) ?_
      refine zab rfl rfl rfl (zac (.inl rfl) (ev1 rfl)) ?_
      refine zaj rfl rfl rfl (zah [0, 1, 2, 3, 4] [] [] rfl (ev1 rfl) (ec (ev1 rfl) (ec (ev1 rfl) en)) rfl (by exact mfits _ _ ⟨zap rfl rfl rfl, rfl, rfl, rfl, rfl, trivial⟩) (goOn_d w h ds ts hr hc hg p1 hb.1 c hcr tol ht f1 (k1 + 1) r hb.2.2 hb.2.1) rfl rfl rfl (by exact (wrc (sb_srx rfl rfl) (wrc rfl (wrc rfl (wrc rfl (wrc rfl rfl)))))) rfl rfl) (by simp only [upd, zaa, za]; exact rfl) ?_
      refine zae ?_
      refine dwp_goto ⟨rfl, ((goF (onP w h) (nearP w ts tol c) f1 p1).1, r ++ (goF (onP w h) (nearP w ts tol c) f1 p1).2, k1 + 1 + (goF (onP w h) (nearP w ts tol c) f1 p1).2.length), hst.1, hst.2, fun a w hi => inv_ren (σ := [0, 1, 2, 3, 4]) hi ⟨hs0, rfl⟩ rfl ⟨rfl, rfl, rfl, trivial⟩ ⟨zap rfl rfl rfl, rfl, rfl, rfl, rfl, trivial⟩⟩
    · have c2 : ¬ (0 : Int) < (q1.length : Int) := of_decide_eq_false c1
      obtain rfl : q1 = [] := by
        cases q1 with
        | nil => rfl
        | cons a b => rw [List.length_cons] at c2; omega
      obtain ⟨e1, e2⟩ := hI.done
      subst e1 e2
      refine zak ?_
      refine kend [0, 1, 2, 3, 4] (res_none rfl) rfl rfl ?_ ⟨zap rfl rfl rfl, rfl, rfl, rfl, rfl, trivial⟩
      rfl
end Go.Proofs.Ytfnhckildfbikaa
namespace Go.Proofs.Ytfnhckildfbikaa
set_option maxRecDepth 4000
set_option linter.unusedVariables false
set_option linter.unusedSimpArgs false
open Go.RowKit
attribute [local irreducible] zFD srL goF bfsF
def gtP (B : P2 → Bool) (W n : Nat) : List P2 := (fieldN W n 0 0).filter B
def gtS (B : P2 → Bool) (W n : Nat) : List Sp := runS (gtP B W n)
def atN (x y : Nat) : P2 := ⟨(x : Int), (y : Int)⟩
theorem gt_field {W x y : Nat} (hx : x < W) : fieldN W (y * W + (x + 1)) 0 0 = fieldN W (y * W + x) 0 0 ++ [atN x y] := by
  rw [field_at hx]
  simp [atN]
theorem gtP_no {B : P2 → Bool} {W x y : Nat} (hx : x < W) (h : B (atN x y) = false) : gtP B W (y * W + (x + 1)) = gtP B W (y * W + x) := by
  unfold gtP
  rw [gt_field hx, List.filter_append]
  simp [h]
theorem gtP_yes {B : P2 → Bool} {W x y : Nat} (hx : x < W) (h : B (atN x y) = true) : gtP B W (y * W + (x + 1)) = gtP B W (y * W + x) ++ [atN x y] := by
  unfold gtP
  rw [gt_field hx, List.filter_append]
  simp [h]
theorem gtP_len (B : P2 → Bool) (W n : Nat) : (gtP B W n).length ≤ n := by
  unfold gtP
  refine Nat.le_trans (List.length_filter_le ..) ?_
  rw [fieldN_len]
  exact Nat.le_refl _
theorem gtP_beh {B : P2 → Bool} {W : Nat} (hW : 0 < W) (n : Nat) : (gtP B W n).Pairwise beh := (field_beh hW n 0 0).sublist List.filter_sublist
theorem gtP_mem {B : P2 → Bool} {W H : Nat} (hW : 0 < W) {p : P2} : p ∈ gtP B W (H * W) ↔ ((0 ≤ p.x ∧ p.x < W) ∧ 0 ≤ p.y ∧ p.y < H) ∧ B p = true := by
  unfold gtP
  rw [List.mem_filter, field_mem hW]
  simp
theorem gtS_no {B : P2 → Bool} {W x y : Nat} (hx : x < W) (h : B (atN x y) = false) : gtS B W (y * W + (x + 1)) = gtS B W (y * W + x) := by unfold gtS; rw [gtP_no hx h]
theorem gtS_yes {B : P2 → Bool} {W x y : Nat} (hx : x < W) (h : B (atN x y) = true) : gtS B W (y * W + (x + 1)) = mergeS (gtS B W (y * W + x)) (pt1 (atN x y)) := by unfold gtS; rw [gtP_yes hx h, runS_add]
theorem gtS_len (B : P2 → Bool) (W n : Nat) : (gtS B W n).length ≤ n := by
  unfold gtS runS
  have h1 := merges_len ((gtP B W n).map pt1) []
  have h2 := gtP_len B W n
  simp only [List.length_map, List.length_nil, Nat.zero_add] at h1
  omega
theorem gtS_end {B : P2 → Bool} {W x y : Nat} (hx : x < W) : endS (gtS B W (y * W + x)) (atN x y) := by
  refine endS_run (gtP_beh (by omega) _) fun q hq => ?_
  have := field_before (w := W) (n := y * W + x) (by omega) (X := 0) (Y := 0) q (List.mem_filter.1 hq).1
  rw [ix_mod hx, ix_div hx] at this
  simpa [atN] using this
theorem opn_lastS {l : List Sp} (h : 0 < l.length) (p : P2) : opnS l p = decide ((lastS l).y = p.y ∧ (lastS l).t + 1 = p.x) := by
  rcases list_last l with rfl | ⟨m, a, rfl⟩
  · simp at h
  · rw [opnS_app, lastS_app]
theorem opn_nil (p : P2) : opnS [] p = false := rfl
def fmL (k : Nat) (l : List Sp) : List Mem := List.replicate k .gone ++ [.arr 53 3 l.length (l.flatMap s3)]
theorem fmL_at (k : Nat) (l : List Sp) : (fmL k l)[k]? = some (.arr 53 3 l.length (l.flatMap s3)) := by
  unfold fmL
  rw [List.getElem?_append_right (by simp)]
  simp
theorem fmL_set (k : Nat) (l : List Sp) : (fmL k l).set k .gone = List.replicate (k + 1) .gone := by
  unfold fmL
  rw [List.set_append_right _ _ (by simp), List.length_replicate, Nat.sub_self, List.replicate_succ']
  rfl
theorem fmL_new {k : Nat} {l l2 : List Sp} {n : Nat} {L : List Value} (hn : n = l2.length) (hL : L = l2.flatMap s3) : (fmL k l).set k .gone ++ [.arr 53 3 n L] = fmL (k + 1) l2 := by
  rw [fmL_set, hn, hL]
  rfl
theorem fmL_cnt (k : Nat) (l : List Sp) : ((fmL k l).set k .gone).length = k + 1 := by rw [fmL_set]; simp
set_option maxRecDepth 4000 in
set_option maxHeartbeats 1000000 in
theorem region_o (w h : Int) (ds : List D) (ts : List TL) (hr : RowOk ds ts) (hc : CvOk w h ts) (hg : tsRng ts) (p : P2) (hp : onS w h p.x p.y = true) (tol : Int) (ht : 0 ≤ tol) : DFun Try.prog 35 [cvD w h ds, .val (.agg #[.int .i64 p.x, .int .i64 p.y]), .val (.int .i64 tol)] [] (.loc 0 0) [.mix 134 (srL (cvD w h ds) ((spF (onP w h) (nearP w ts tol (getC w ts p.x p.y)) zFD p)).l (.farr 1 ((spN (onP w h) (nearP w ts tol (getC w ts p.x p.y)) 0 zFD p)))), .fam (fmQ ((spN (onP w h) (nearP w ts tol (getC w ts p.x p.y)) 0 zFD p)) (([] : List P2)))] := by
  refine zan (N := 18) 0 (by kernel_rfl) Try.func35 rfl rfl rfl (by simp only [fr0, Nat.zero_add, Nat.reduceAdd]; exact rfl) rfl fun s0 hs0 => ?_
  refine zaf ?_
  refine zai 1 (by simp only [holes, List.cons_append, List.nil_append]; exact rfl) ?_
  refine zad ?_
  refine zaj rfl rfl rfl (op_boxa 0 rfl (ev1 rfl) rfl) (by simp only [upd, zaa, za]; exact rfl) ?_
  refine zab rfl rfl rfl (zac (.inr rfl) (ev1 rfl)) ?_
  refine zae ?_
  refine zaf ?_
  refine zai 2 (by simp only [holes, List.cons_append, List.nil_append]; exact rfl) ?_
  refine zad ?_
  refine zab rfl rfl rfl (zac (.inl rfl) (ev1 rfl)) ?_
  refine zaj rfl rfl rfl (zah [] [] [1, 2] rfl (ev1 rfl) (ec (ev1 rfl) en) rfl rfl (searchOf_d w h ds) rfl rfl rfl (by exact (wrc (sb_srx rfl rfl) (wrc rfl rfl))) rfl rfl) (by simp only [upd, zaa, za]; exact rfl) ?_
  refine zab rfl rfl rfl (zac (.inr rfl) (ev1 rfl)) ?_
  refine zae ?_
  refine zaf ?_
  refine zai 3 (by simp only [holes, List.cons_append, List.nil_append]; exact rfl) ?_
  refine dwp_draw [([], []), ([0], []), ([], []), ([0], []), ([], []), ([3, 4, 5], [3, 4, 5]), ([1, 2, 3, 4, 5], [1, 2, 3, 4, 5])] mixed (by kernel_rfl) ?_
  refine zag rfl rfl (zac (.inl rfl) (ev1 rfl)) ?_
  refine zag rfl rfl (op_ldw rfl tb34 (ev1 rfl) rfl rfl) ?_
  refine zag rfl rfl (zac (.inl rfl) (ev1 rfl)) ?_
  refine zag rfl rfl (op_ldw rfl tb34 (ev1 rfl) rfl rfl) ?_
  refine zag rfl rfl (zac (.inl rfl) (ev1 rfl)) ?_
  refine lex_w rfl rfl (zah [] [] [3, 4, 5] rfl (ev1 rfl) (ec (ev1 rfl) (ec (ev1 rfl) (ec (ev1 rfl) en))) rfl rfl (like_d w h ds ts hr hc hg p tol hp) rfl rfl rfl rfl rfl rfl) rfl (by simp only [upd, zaa, za]; exact rfl) ?_
  refine lex_w rfl rfl (zah [1, 2, 3, 4, 5] [] [] rfl (ev1 rfl) (ec (ev1 rfl) (ec (ev1 rfl) (ec (ev1 rfl) en))) rfl (by exact mfits _ _ ⟨zap rfl rfl rfl, rfl, rfl, rfl, rfl, trivial⟩) (spread_d w h ds ts hr hc hg p hp (getC w ts p.x p.y) (getC_rng hg _ _ _) tol ht zFD 0 (zFD_at p)) rfl rfl rfl (by exact (wrc (sb_srx rfl rfl) (wrc rfl (wrc rfl (wrc rfl (wrc rfl rfl)))))) rfl rfl) rfl (by simp only [upd, zaa, za]; exact rfl) ?_
  refine lex_nil ?_
  refine zaf ?_
  refine zad ?_
  refine zab rfl rfl rfl (zac (.inl rfl) (ev1 rfl)) ?_
  refine zab rfl rfl rfl (zac (.inr rfl) (ev1 rfl)) ?_
  refine zae ?_
  refine zao ?_
  refine kend [1, 2] (rs1 rfl (rv_t rfl)) rfl rfl ?_ ⟨zap rfl rfl rfl, rfl, trivial⟩
  rfl
set_option maxRecDepth 4000 in
set_option maxHeartbeats 1000000 in
theorem reg1_n (w h : Int) (ds : List D) (f : FD) (k : Nat) (q : List P2) (j : Nat) (l : List Sp) (hl : l.length ≤ 5000) (p : P2) (hp : inF32 p) (hh : f.has p = false) : DFun Try.prog 37 [.farr 3 j, .val (.agg #[.int .i64 p.x, .int .i64 p.y]), .loc 2 0] [.mix 134 (srL (cvD w h ds) (f).l (.farr 1 (k))), .fam (fmQ (k) (q)), .mix 84 [.loc 0 0], .fam (fmL (j) (l))] (.farr 3 j) [.mix 134 (srL (cvD w h ds) (f).l (.farr 1 (k))), .fam (fmQ (k) (q)), .mix 84 [.loc 0 0], .fam (fmL (j) (l))] := by
  have hp2 := hp
  unfold inF32 at hp2
  refine zan (N := 55) 4 (by kernel_rfl) Try.func37 rfl rfl rfl (by simp only [fr0, Nat.zero_add, Nat.reduceAdd]; exact rfl) rfl fun s0 hs0 => ?_
  refine zaf ?_
  refine zai 1 (by simp only [holes, List.cons_append, List.nil_append]; exact rfl) ?_
  refine zad ?_
  refine zaj rfl rfl rfl (op_boxa 4 rfl (ev1 rfl) rfl) (by simp only [upd, zaa, za]; exact rfl) ?_
  refine zab rfl rfl rfl (zac (.inr rfl) (ev1 rfl)) ?_
  refine zae ?_
  refine zaf ?_
  refine zaf ?_
  refine zad ?_
  refine zab rfl rfl rfl (op_ldm rfl tb84 (ev1 rfl) rfl rfl) ?_
  refine zab rfl rfl rfl (op_ldw rfl tb34 (ev1 rfl) rfl rfl) ?_
  refine zaj rfl rfl rfl (zah [0, 1] [] [] rfl (ev1 rfl) (ec (ev1 rfl) (ec (ev1 rfl) en)) rfl (by exact mfits _ _ ⟨zap rfl rfl rfl, rfl, trivial⟩) (has_s w h ds f k q p hp) rfl rfl rfl (by exact (wrc (sb_srx rfl rfl) (wrc rfl rfl))) rfl rfl) (by simp only [upd, zaa, za]; exact rfl) ?_
  refine zab rfl rfl rfl (op_not rfl (ev1 rfl)) ?_
  refine zae ?_
  refine dwp_if_t rfl (by rw [hh]; rfl) ?_
  refine zaf ?_
  refine zad ?_
  refine zab rfl rfl rfl (zac (.inl rfl) (ev1 rfl)) ?_
  refine zab rfl rfl rfl (zac (.inr rfl) (ev1 rfl)) ?_
  refine zae ?_
  refine zao ?_
  refine kend [0, 1, 2, 3] (rs1 rfl (rv_t rfl)) rfl rfl ?_ ⟨zap rfl rfl rfl, rfl, rfl, rfl, trivial⟩
  rfl
set_option maxRecDepth 4000 in
set_option maxHeartbeats 1000000 in
theorem reg1_y (w h : Int) (ds : List D) (f : FD) (k : Nat) (q : List P2) (j : Nat) (l : List Sp) (hl : l.length ≤ 5000) (p : P2) (hp : inF32 p) (he : endS l p) (hh : f.has p = true) : DFun Try.prog 37 [.farr 3 j, .val (.agg #[.int .i64 p.x, .int .i64 p.y]), .loc 2 0] [.mix 134 (srL (cvD w h ds) (f).l (.farr 1 (k))), .fam (fmQ (k) (q)), .mix 84 [.loc 0 0], .fam (fmL (j) (l))] (.farr 3 (j + 1)) [.mix 134 (srL (cvD w h ds) (f).l (.farr 1 (k))), .fam (fmQ (k) (q)), .mix 84 [.loc 0 0], .fam (fmL (j + 1) (mergeS l (pt1 p)))] := by
  have hp2 := hp
  unfold inF32 at hp2
  refine zan (N := 55) 4 (by kernel_rfl) Try.func37 rfl rfl rfl (by simp only [fr0, Nat.zero_add, Nat.reduceAdd]; exact rfl) rfl fun s0 hs0 => ?_
  refine zaf ?_
  refine zai 1 (by simp only [holes, List.cons_append, List.nil_append]; exact rfl) ?_
  refine zad ?_
  refine zaj rfl rfl rfl (op_boxa 4 rfl (ev1 rfl) rfl) (by simp only [upd, zaa, za]; exact rfl) ?_
  refine zab rfl rfl rfl (zac (.inr rfl) (ev1 rfl)) ?_
  refine zae ?_
  refine zaf ?_
  refine zaf ?_
  refine zad ?_
  refine zab rfl rfl rfl (op_ldm rfl tb84 (ev1 rfl) rfl rfl) ?_
  refine zab rfl rfl rfl (op_ldw rfl tb34 (ev1 rfl) rfl rfl) ?_
  refine zaj rfl rfl rfl (zah [0, 1] [] [] rfl (ev1 rfl) (ec (ev1 rfl) (ec (ev1 rfl) en)) rfl (by exact mfits _ _ ⟨zap rfl rfl rfl, rfl, trivial⟩) (has_s w h ds f k q p hp) rfl rfl rfl (by exact (wrc (sb_srx rfl rfl) (wrc rfl rfl))) rfl rfl) (by simp only [upd, zaa, za]; exact rfl) ?_
  refine zab rfl rfl rfl (op_not rfl (ev1 rfl)) ?_
  refine zae ?_
  refine dwp_if_f rfl (by rw [hh]; rfl) ?_
  refine zak ?_
  refine zaf ?_
  refine zaf ?_
  refine dwp_hole ?_
  refine dwp_rel 0 3 (j := 5) rfl rfl (fmL_at _ _) rfl (by simp only [List.cons_append, List.nil_append, zaa, za]; exact rfl) ?_
  refine zad ?_
  refine zab rfl rfl rfl (zac (.inl rfl) (ev1 rfl)) ?_
  refine zab rfl rfl rfl (op_lena rfl sl35 (ev1 rfl) rfl) ?_
  refine zab rfl rfl rfl (op_sub' rfl (ev1 rfl) (ev1 rfl) (fun _ => IntWalk.i64_in _ (by omega))) ?_
  refine zab rfl rfl rfl (zac (.inr rfl) (ev1 rfl)) ?_
  refine zae ?_
  refine zaf ?_
  by_cases h0 : 0 < l.length
  · have hop := opn_lastS h0 p
    refine dwp_draw [([], []), ([], []), ([], []), ([], []), ([], []), ([5], []), ([], []), ([5], []), ([], []), ([4], []), ([], []), ([], []), ([], []), ([], []), ([], []), ([5], []), ([], []), ([5], []), ([], []), ([4], []), ([], []), ([], []), ([], [])] mixed (by kernel_rfl) ?_
    refine zag rfl rfl (zac (.inl rfl) (ev1 rfl)) ?_
    refine zag rfl rfl ((op_geq rfl (ev1 rfl) (ev1 rfl)).cast (d' := .val (.bool true)) (by rw [D.val.injEq, Value.bool.injEq, decide_eq_true_eq]; omega)) ?_
    refine zag rfl rfl (zac (.inl rfl) (ev1 rfl)) ?_
    refine lex_k (gd_t (b := true) rfl rfl rfl) rfl rfl (zac (.inl rfl) (ev1 rfl)) rfl (by simp only [upd, zaa, za]; exact rfl) ?_
    refine lex_k (gd_t (b := true) rfl rfl rfl) rfl rfl (zac (.inl rfl) (ev1 rfl)) rfl (by simp only [upd, zaa, za]; exact rfl) ?_
    refine lex_k (gd_t (b := true) rfl rfl rfl) rfl rfl (op_ixar (j := l.length - 1) rfl sl35 (ev2 rfl) (ev2 rfl) rfl (fun _ => by omega) (fun _ => by omega)) rfl (by simp only [upd, zaa, za]; exact rfl) ?_
    refine lex_k (gd_t (b := true) rfl rfl rfl) rfl rfl (op_faa rfl fo53_0 (ev2 rfl)) rfl (by simp only [upd, zaa, za]; exact rfl) ?_
    refine lex_k (gd_t (b := true) rfl rfl rfl) rfl rfl (op_ldaf (j := l.length - 1) (c := 0) (zSp) rfl tb3 (ev2 rfl) rfl (fun _ => rfl) (fun _ => by omega) (by decide) rfl) rfl (by simp only [upd, zaa, za]; exact rfl) ?_
    refine lex_k (gd_t (b := true) rfl rfl rfl) rfl rfl (op_fa rfl fo34_1 (ev1 rfl)) rfl (by simp only [upd, zaa, za]; exact rfl) ?_
    refine lex_k (gd_t (b := true) rfl rfl rfl) rfl rfl (zam rfl tb3 (ev2 rfl) rfl rfl) rfl (by simp only [upd, zaa, za]; exact rfl) ?_
    refine lex_k (gd_t (b := true) rfl rfl rfl) rfl rfl (op_eql rfl (ev2 rfl) (ev2 rfl)) rfl (by simp only [upd, zaa, za]; exact rfl) ?_
    refine zag rfl rfl (op_and rfl (ev1 rfl) (ev3 rfl (fun _ => rfl))) ?_
    refine zag rfl rfl (zac (.inl rfl) (ev1 rfl)) ?_
    refine lex_gr (gd_t rfl rfl rfl) rfl rfl (zac (.inl rfl) (ev1 rfl)) ?_
    refine lex_gr (gd_t rfl rfl rfl) rfl rfl (zac (.inl rfl) (ev1 rfl)) ?_
    refine lex_gr (gd_t rfl rfl rfl) rfl rfl (op_ixar (j := l.length - 1) rfl sl35 (ev2 rfl) (ev2 rfl) rfl (fun _ => by omega) (fun _ => by omega)) ?_
    refine lex_gr (gd_t rfl rfl rfl) rfl rfl (op_faa rfl fo53_2 (ev2 rfl)) ?_
    refine lex_gr (gd_t rfl rfl rfl) rfl rfl (op_ldaf (j := l.length - 1) (c := 2) (zSp) rfl tb3 (ev2 rfl) rfl (fun _ => rfl) (fun _ => by omega) (by decide) rfl) ?_
    refine lex_gr (gd_t rfl rfl rfl) rfl rfl (op_fa rfl fo34_0 (ev1 rfl)) ?_
    refine lex_gr (gd_t rfl rfl rfl) rfl rfl (zam rfl tb3 (ev2 rfl) rfl rfl) ?_
    refine lex_gr (gd_t rfl rfl rfl) rfl rfl (op_sub' rfl (ev2 rfl) (ev1 rfl) (fun hp => IntWalk.i64_in _ (by first | omega | (simp at hp; omega)))) ?_
    refine lex_gr (gd_t rfl rfl rfl) rfl rfl (op_eql rfl (ev2 rfl) (ev2 rfl)) ?_
    refine zag rfl rfl (op_and rfl (ev1 rfl) (ev3 rfl id)) ?_
    refine lex_nil ?_
    refine dwp_cond rfl (fun c2 => ?_) (fun c2 => ?_)
    · have c3 : opnS l p = true := by
        rw [hop]
        simp at c2 ⊢
        omega
      refine zaf ?_
      refine zad ?_
      refine zab rfl rfl rfl (zac (.inl rfl) (ev1 rfl)) ?_
      refine zab rfl rfl rfl (zac (.inl rfl) (ev1 rfl)) ?_
      refine zab rfl rfl rfl (op_fa rfl fo34_0 (ev1 rfl)) ?_
      refine zab rfl rfl rfl (zam rfl tb3 (ev1 rfl) rfl rfl) ?_
      refine zab rfl rfl rfl (op_ixar (j := l.length - 1) rfl sl35 (ev1 rfl) (ev1 rfl) rfl (fun _ => by omega) (fun _ => by omega)) ?_
      refine zab rfl rfl rfl (op_faa rfl fo53_2 (ev1 rfl)) ?_
      refine walk_s rfl rfl (op_staf (j := l.length - 1) (c := 2) (zSp) (⟨(lastS l).y, (lastS l).f, p.x⟩) rfl tb3 (ev1 rfl) (ev1 rfl) rfl rfl rfl rfl (fun _ => rfl) (fun _ => by omega) (Nat.le_of_ble_eq_true rfl) rfl) (by simp only [upd, zaa, za]; exact rfl) ?_
      refine zae ?_
      refine zaf ?_
      refine zad ?_
      refine zab rfl rfl rfl (zac (.inl rfl) (ev1 rfl)) ?_
      refine zab rfl rfl rfl (zac (.inr rfl) (ev1 rfl)) ?_
      refine zae ?_
      refine dwp_abs 5 3 rfl rfl rfl (by simp only [List.cons_append, List.nil_append, zaa, za]; exact rfl) ?_
      refine zao ?_
      refine kend [0, 1, 2, 3] (rs1 rfl (rv_t rfl)) rfl rfl ?_ ⟨zap rfl rfl rfl, rfl, rfl, congrArg (fun B => some (Blk.fam B)) (fmL_new (by rw [← row_set2 c3, List.length_set]) (by rw [row_set2 c3])), trivial⟩
      rw [fmL_cnt]
    · have c3 : opnS l p = false := by
        rw [hop]
        simp at c2 ⊢
        intro h; have := c2 h; omega
      refine zak ?_
      refine zaf ?_
      refine zai 1 (by simp only [holes, List.cons_append, List.nil_append]; exact rfl) ?_
      refine zad ?_
      refine zab rfl rfl rfl (zac (.inl rfl) (ev1 rfl)) ?_
      refine zab rfl rfl rfl (op_fa rfl fo34_1 (ev1 rfl)) ?_
      refine zab rfl rfl rfl (zam rfl tb3 (ev1 rfl) rfl rfl) ?_
      refine zab rfl rfl rfl (op_fa rfl fo34_0 (ev1 rfl)) ?_
      refine zab rfl rfl rfl (zam rfl tb3 (ev1 rfl) rfl rfl) ?_
      refine zab rfl rfl rfl (op_fa rfl fo34_0 (ev1 rfl)) ?_
      refine zab rfl rfl rfl (zam rfl tb3 (ev1 rfl) rfl rfl) ?_
      refine zab rfl rfl rfl (op_build (ps := [(0, .tmp 47), (1, .tmp 49), (2, .tmp 51)]) rfl fl53 zr53 (vc (ev1 rfl) (vc (ev1 rfl) (vc (ev1 rfl) vn))) rfl rfl) ?_
      refine zab rfl rfl rfl (op_bs (ps := [(0, .tmp 52)]) rfl sl35 zr53 rfl (vc (ev1 rfl) vn) rfl (by decide) (by decide)) ?_
      refine zaj rfl rfl rfl (op_app (j := 6) rfl sl35 zr53 rfl (ev1 rfl) (ev1 rfl) src_slf rfl rfl (fun _ => rfl) (fun _ => ⟨by omega, by omega⟩)) (by simp only [upd, zaa, za]; exact rfl) ?_
      refine zab rfl rfl rfl (zac (.inr rfl) (ev1 rfl)) ?_
      refine zae ?_
      refine dwp_abs 5 3 rfl rfl rfl (by simp only [List.cons_append, List.nil_append, zaa, za]; exact rfl) ?_
      refine zao ?_
      refine kend [0, 1, 2, 3] (rs1 rfl (rv_t rfl)) rfl rfl ?_ ⟨zap rfl rfl rfl, rfl, rfl, congrArg (fun B => some (Blk.fam B)) (fmL_new (by rw [merge_shut he c3, List.length_append]; rfl) (by rw [merge_shut he c3, List.flatMap_append]; rfl)), trivial⟩
      rw [fmL_cnt]
  · obtain rfl : l = [] := List.eq_nil_of_length_eq_zero (by omega)
    have c3 := opn_nil p
    refine dwp_draw [([], []), ([], []), ([], []), ([], []), ([], []), ([], []), ([], []), ([], []), ([], []), ([], []), ([], []), ([], []), ([], []), ([], []), ([], []), ([], []), ([], []), ([], []), ([], []), ([], []), ([], []), ([], []), ([], [])] mixed (by kernel_rfl) ?_
    refine zag rfl rfl (zac (.inl rfl) (ev1 rfl)) ?_
    refine zag rfl rfl ((op_geq rfl (ev1 rfl) (ev1 rfl)).cast (d' := .val (.bool false)) (by rfl)) ?_
    refine zag rfl rfl (zac (.inl rfl) (ev1 rfl)) ?_
    refine lex_gr (gd_t (b := false) rfl rfl rfl) rfl rfl (dop_never (d := .junk)) ?_
    refine lex_gr (gd_t (b := false) rfl rfl rfl) rfl rfl (dop_never (d := .junk)) ?_
    refine lex_gr (gd_t (b := false) rfl rfl rfl) rfl rfl (dop_never (d := .junk)) ?_
    refine lex_gr (gd_t (b := false) rfl rfl rfl) rfl rfl (dop_never (d := .junk)) ?_
    refine lex_gr (gd_t (b := false) rfl rfl rfl) rfl rfl (dop_never (d := .junk)) ?_
    refine lex_gr (gd_t (b := false) rfl rfl rfl) rfl rfl (dop_never (d := .junk)) ?_
    refine lex_gr (gd_t (b := false) rfl rfl rfl) rfl rfl (dop_never (d := .junk)) ?_
    refine lex_gr (gd_t (b := false) rfl rfl rfl) rfl rfl (dop_never (d := .val (.bool false))) ?_
    refine zag rfl rfl ((op_and rfl (ev1 rfl) (ev3 rfl id)).cast (d' := .val (.bool false)) (by rfl)) ?_
    refine zag rfl rfl (zac (.inl rfl) (ev1 rfl)) ?_
    refine lex_gr (gd_t (b := false) rfl rfl rfl) rfl rfl (dop_never (d := .junk)) ?_
    refine lex_gr (gd_t (b := false) rfl rfl rfl) rfl rfl (dop_never (d := .junk)) ?_
    refine lex_gr (gd_t (b := false) rfl rfl rfl) rfl rfl (dop_never (d := .junk)) ?_
    refine lex_gr (gd_t (b := false) rfl rfl rfl) rfl rfl (dop_never (d := .junk)) ?_
    refine lex_gr (gd_t (b := false) rfl rfl rfl) rfl rfl (dop_never (d := .junk)) ?_
    refine lex_gr (gd_t (b := false) rfl rfl rfl) rfl rfl (dop_never (d := .junk)) ?_
    refine lex_gr (gd_t (b := false) rfl rfl rfl) rfl rfl (dop_never (d := .junk)) ?_
    refine lex_gr (gd_t (b := false) rfl rfl rfl) rfl rfl (dop_never (d := .val (.bool false))) ?_
    refine lex_gr (gd_t (b := false) rfl rfl rfl) rfl rfl (dop_never (d := .val (.bool false))) ?_
    refine zag rfl rfl ((op_and rfl (ev1 rfl) (ev3 rfl id)).cast (d' := .val (.bool false)) (by rfl)) ?_
    refine lex_nil ?_
    refine dwp_if_f rfl (rfl) ?_
    refine zak ?_
    refine zaf ?_
    refine zai 1 (by simp only [holes, List.cons_append, List.nil_append]; exact rfl) ?_
    refine zad ?_
    refine zab rfl rfl rfl (zac (.inl rfl) (ev1 rfl)) ?_
    refine zab rfl rfl rfl (op_fa rfl fo34_1 (ev1 rfl)) ?_
    refine zab rfl rfl rfl (zam rfl tb3 (ev1 rfl) rfl rfl) ?_
    refine zab rfl rfl rfl (op_fa rfl fo34_0 (ev1 rfl)) ?_
    refine zab rfl rfl rfl (zam rfl tb3 (ev1 rfl) rfl rfl) ?_
    refine zab rfl rfl rfl (op_fa rfl fo34_0 (ev1 rfl)) ?_
    refine zab rfl rfl rfl (zam rfl tb3 (ev1 rfl) rfl rfl) ?_
    refine zab rfl rfl rfl (op_build (ps := [(0, .tmp 47), (1, .tmp 49), (2, .tmp 51)]) rfl fl53 zr53 (vc (ev1 rfl) (vc (ev1 rfl) (vc (ev1 rfl) vn))) rfl rfl) ?_
    refine zab rfl rfl rfl (op_bs (ps := [(0, .tmp 52)]) rfl sl35 zr53 rfl (vc (ev1 rfl) vn) rfl (by decide) (by decide)) ?_
    refine zaj rfl rfl rfl (op_app (j := 6) rfl sl35 zr53 rfl (ev1 rfl) (ev1 rfl) src_slf rfl rfl (fun _ => rfl) (fun _ => ⟨by omega, by omega⟩)) (by simp only [upd, zaa, za]; exact rfl) ?_
    refine zab rfl rfl rfl (zac (.inr rfl) (ev1 rfl)) ?_
    refine zae ?_
    refine dwp_abs 5 3 rfl rfl rfl (by simp only [List.cons_append, List.nil_append, zaa, za]; exact rfl) ?_
    refine zao ?_
    refine kend [0, 1, 2, 3] (rs1 rfl (rv_t rfl)) rfl rfl ?_ ⟨zap rfl rfl rfl, rfl, rfl, congrArg (fun B => some (Blk.fam B)) (fmL_new (l := []) (l2 := mergeS [] (pt1 p)) rfl rfl), trivial⟩
    rw [fmL_cnt]
set_option maxRecDepth 4000 in
set_option maxHeartbeats 1000000 in
theorem gatS_d (w h : Int) (ds : List D) (ts : List TL) (hr : RowOk ds ts) (hc : CvOk w h ts) (f : FD) (k : Nat) (q : List P2) : DFun Try.prog 36 [.loc 0 0, .fn (.func 37) [] [.loc 2 0]] [.mix 134 (srL (cvD w h ds) (f).l (.farr 1 (k))), .fam (fmQ (k) (q)), .mix 84 [.loc 0 0]] (.slf 3 (gtS f.has (w * 8).toNat ((h * 8).toNat * (w * 8).toNat)).length ((gtS f.has (w * 8).toNat ((h * 8).toNat * (w * 8).toNat)).flatMap s3)) [.mix 134 (srL (cvD w h ds) (f).l (.farr 1 (k))), .fam (fmQ (k) (q)), .mix 84 [.loc 0 0]] := by
  have hb := mayS_b hc.may
  have hW : ((w * 8).toNat : Int) = w * 8 := by omega
  have hH : ((h * 8).toNat : Int) = h * 8 := by omega
  have hWH : (h * 8).toNat * (w * 8).toNat ≤ 32 * 32 := Nat.mul_le_mul (by omega) (by omega)
  refine zan (N := 35) 3 (by kernel_rfl) Try.func36 rfl rfl rfl (by simp only [fr0, Nat.zero_add, Nat.reduceAdd]; exact rfl) rfl fun s0 hs0 => ?_
  refine zaf ?_
  refine zad ?_
  refine zab rfl rfl rfl (zac (.inr rfl) (ev1 rfl)) ?_
  refine zae ?_
  refine zaf ?_
  refine zad ?_
  refine zab rfl rfl rfl (zac (.inr rfl) (ev1 rfl)) ?_
  refine zae ?_
  refine zaf ?_
  refine dwp_adopt (m := 3) 5 53 3 rfl rfl rfl ?_
  refine dwp_hole ?_
  refine dwp_fam 4 rfl (by simp only [List.cons_append, List.nil_append, zaa, za]; exact rfl) ?_
  refine zad ?_
  refine zab rfl rfl rfl (zac (.inl rfl) (ev1 rfl)) ?_
  refine zab rfl rfl rfl (op_nc rfl (ev1 rfl) (fun s v h => by cases h; exact ⟨_, rfl⟩)) ?_
  refine zab rfl rfl rfl (op_fa rfl fo134_0 (ev1 rfl)) ?_
  refine zab rfl rfl rfl (op_ldm rfl tb29 (ev1 rfl) rfl (srL_0 rfl)) ?_
  refine zab rfl rfl rfl (zah [] [] [] rfl (ev1 rfl) (ec (ev1 rfl) en) rfl rfl (size_d w h ds ts hr hc) rfl rfl rfl rfl rfl rfl) ?_
  refine zab rfl rfl rfl (zac (.inl rfl) (ev1 rfl)) ?_
  refine zab rfl rfl rfl (op_ext rfl (ev1 rfl) rfl) ?_
  refine zab rfl rfl rfl (op_ext rfl (ev1 rfl) rfl) ?_
  refine zab rfl rfl rfl (zac (.inr rfl) (ev1 rfl)) ?_
  refine zab rfl rfl rfl (zac (.inr rfl) (ev1 rfl)) ?_
  refine zae ?_
  refine zaf ?_
  refine zaf ?_
  refine dwp_abs 5 4 rfl rfl rfl (by simp only [zaa, za]; exact rfl) ?_
  refine zad ?_
  refine zab rfl rfl rfl (zac (.inl rfl) (ev1 rfl)) ?_
  refine zab rfl rfl rfl (zac (.inl rfl) (ev1 rfl)) ?_
  refine zae ?_
  refine zal ?_
  refine dwp_loopS ⟨hs0, rfl⟩ (α := Nat) (fun y => [(5, .farr 4 (gtP f.has (w * 8).toNat (y * (w * 8).toNat)).length), (19, .val (.int .i64 (y : Int)))]) [(1, _), (6, _), (18, _)] (fun y => [(4, .fam (fmL ((gtP f.has (w * 8).toNat (y * (w * 8).toNat)).length) ((gtS f.has (w * 8).toNat (y * (w * 8).toNat)))))]) [_, _, _, _, .hole] (fun y => y ≤ (h * 8).toNat) (fun y => (h * 8).toNat - y) 0 [0, 1, 2, 3, 4] (Nat.zero_le _) rfl ⟨rfl, rfl, rfl, trivial⟩ ⟨by rw [Nat.zero_mul]; rfl, rfl, trivial⟩ ⟨zap rfl rfl rfl, rfl, rfl, rfl, by rw [Nat.zero_mul]; rfl, trivial⟩ ?_
  intro y hx
  simp only [upd, zaa, za, List.cons_append, List.nil_append]
  have hy0 := hx
  have hyW : y * (w * 8).toNat ≤ (h * 8).toNat * (w * 8).toNat := Nat.mul_le_mul_right _ hy0
  refine zaf ?_
  refine zad ?_
  refine zab rfl rfl rfl (op_lss rfl (ev1 rfl) (ev1 rfl)) ?_
  refine zae ?_
  refine zaf ?_
  refine dwp_cond rfl (fun c1 => ?_) (fun c1 => ?_)
  · try simp only [decide_eq_true_eq, decide_eq_false_iff_not, beq_iff_eq, bne_iff_ne, beq_eq_false_iff_ne, bne_eq_false_iff_eq, Bool.not_eq_true', Bool.not_eq_false', Bool.and_eq_true, Bool.or_eq_true, Bool.or_eq_false_iff, ne_eq, Decidable.not_not, Int.not_lt, Int.not_le] at c1
    refine zak ?_
    refine zaf ?_
    refine zal ?_
    refine zaf ?_
    refine zad ?_
    refine zab rfl rfl rfl (zac (.inl rfl) (ev1 rfl)) ?_
    refine zab rfl rfl rfl (zac (.inr rfl) (ev1 rfl)) ?_
    refine zae ?_
    refine zaf ?_
    refine zad ?_
    refine zab rfl rfl rfl (zac (.inl rfl) (ev1 rfl)) ?_
    refine zab rfl rfl rfl (zac (.inl rfl) (ev1 rfl)) ?_
    refine zae ?_
    refine zal ?_
    refine dwp_loopS ⟨hs0, rfl⟩ (α := Nat) (fun x => [(5, .farr 4 (gtP f.has (w * 8).toNat (y * (w * 8).toNat + x)).length), (23, .val (.int .i64 (x : Int)))]) [(1, _), (6, _), (8, _), (18, _), (19, _), (22, _)] (fun x => [(4, .fam (fmL ((gtP f.has (w * 8).toNat (y * (w * 8).toNat + x)).length) ((gtS f.has (w * 8).toNat (y * (w * 8).toNat + x)))))]) [_, _, _, _, .hole] (fun x => x ≤ (w * 8).toNat) (fun x => (w * 8).toNat - x) 0 [0, 1, 2, 3, 4] (Nat.zero_le _) rfl ⟨rfl, rfl, rfl, rfl, rfl, rfl, trivial⟩ ⟨by rw [Nat.add_zero]; rfl, rfl, trivial⟩ ⟨zap rfl rfl rfl, rfl, rfl, rfl, by rw [Nat.add_zero]; rfl, trivial⟩ ?_
    intro x hx
    simp only [upd, zaa, za, List.cons_append, List.nil_append]
    have hx0 := hx
    have hgl := gtS_len f.has (w * 8).toNat (y * (w * 8).toNat + x)
    have hgp := gtP_len f.has (w * 8).toNat (y * (w * 8).toNat + x)
    refine zaf ?_
    refine zad ?_
    refine zab rfl rfl rfl (op_lss rfl (ev1 rfl) (ev1 rfl)) ?_
    refine zae ?_
    refine zaf ?_
    refine dwp_cond rfl (fun c2 => ?_) (fun c2 => ?_)
    · try simp only [decide_eq_true_eq, decide_eq_false_iff_not, beq_iff_eq, bne_iff_ne, beq_eq_false_iff_ne, bne_eq_false_iff_eq, Bool.not_eq_true', Bool.not_eq_false', Bool.and_eq_true, Bool.or_eq_true, Bool.or_eq_false_iff, ne_eq, Decidable.not_not, Int.not_lt, Int.not_le] at c2
      refine zak ?_
      refine zaf ?_
      refine zal ?_
      refine zaf ?_
      refine zad ?_
      refine zab rfl rfl rfl (zac (.inl rfl) (ev1 rfl)) ?_
      refine zab rfl rfl rfl (zac (.inr rfl) (ev1 rfl)) ?_
      refine zae ?_
      by_cases hh : f.has (atN x y) = true
      · have hxW : x < (w * 8).toNat := by omega
        have hyH : y < (h * 8).toNat := by omega
        have hyW2 : (y + 1) * (w * 8).toNat ≤ (h * 8).toNat * (w * 8).toNat := Nat.mul_le_mul_right _ hyH
        rw [Nat.succ_mul] at hyW2
        have hpi : inF32 (atN x y) := by unfold inF32 atN; simp only; omega
        have hpo : onS w h (atN x y).x (atN x y).y = true := onS_iff.2 ⟨by show (0 : Int) ≤ (x : Int) ∧ (x : Int) < w * 8; omega, by show (0 : Int) ≤ (y : Int) ∧ (y : Int) < h * 8; omega⟩
        refine zad ?_
        refine zab rfl rfl rfl (zac (.inl rfl) (ev1 rfl)) ?_
        refine zab rfl rfl rfl (zac (.inl rfl) (ev1 rfl)) ?_
        refine zab rfl rfl rfl (zac (.inl rfl) (ev1 rfl)) ?_
        refine zab rfl rfl rfl (zac (.inl rfl) (ev1 rfl)) ?_
        refine zab rfl rfl rfl (op_build (ps := [(0, .tmp 28), (1, .tmp 29)]) rfl fl34 zr34 (vc (ev1 rfl) (vc (ev1 rfl) vn)) rfl rfl) ?_
        refine zaj rfl rfl rfl (zah [0, 1, 2, 4] [] [] rfl (ev1 rfl) (ec (ev1 rfl) (ec (ev1 rfl) en)) rfl (by exact mfits _ _ ⟨zap rfl rfl rfl, rfl, rfl, rfl, trivial⟩) (reg1_y w h ds f k q _ _ (by omega) (atN x y) hpi (gtS_end hxW) hh) rfl rfl rfl (by exact (wrc (sb_srx rfl rfl) (wrc rfl (wrc rfl (wrc rfl rfl))))) rfl rfl) (by simp only [upd, zaa, za]; exact rfl) ?_
        refine zab rfl rfl rfl (zac (.inr rfl) (ev1 rfl)) ?_
        refine zae ?_
        refine zad ?_
        refine zab rfl rfl rfl (op_add' rfl (ev1 rfl) (ev1 rfl) (fun _ => IntWalk.i64_in _ (by omega))) ?_
        refine zab rfl rfl rfl (zac (.inl rfl) (ev1 rfl)) ?_
        refine zae ?_
        refine ⟨x + 1, [0, 1, 2, 3, 4], by omega, by simp only []; omega, rfl, ⟨by rw [gtP_yes hxW hh, List.length_append]; rfl, rfl, rfl, rfl, rfl, rfl, rfl, rfl, trivial⟩, ⟨zap rfl rfl rfl, rfl, rfl, rfl, by rw [gtP_yes hxW hh, gtS_yes hxW hh, List.length_append]; rfl, trivial⟩⟩
      · have hh : f.has (atN x y) = false := by simpa using hh
        have hxW : x < (w * 8).toNat := by omega
        have hyH : y < (h * 8).toNat := by omega
        have hyW2 : (y + 1) * (w * 8).toNat ≤ (h * 8).toNat * (w * 8).toNat := Nat.mul_le_mul_right _ hyH
        rw [Nat.succ_mul] at hyW2
        have hpi : inF32 (atN x y) := by unfold inF32 atN; simp only; omega
        have hpo : onS w h (atN x y).x (atN x y).y = true := onS_iff.2 ⟨by show (0 : Int) ≤ (x : Int) ∧ (x : Int) < w * 8; omega, by show (0 : Int) ≤ (y : Int) ∧ (y : Int) < h * 8; omega⟩
        refine zad ?_
        refine zab rfl rfl rfl (zac (.inl rfl) (ev1 rfl)) ?_
        refine zab rfl rfl rfl (zac (.inl rfl) (ev1 rfl)) ?_
        refine zab rfl rfl rfl (zac (.inl rfl) (ev1 rfl)) ?_
        refine zab rfl rfl rfl (zac (.inl rfl) (ev1 rfl)) ?_
        refine zab rfl rfl rfl (op_build (ps := [(0, .tmp 28), (1, .tmp 29)]) rfl fl34 zr34 (vc (ev1 rfl) (vc (ev1 rfl) vn)) rfl rfl) ?_
        refine zaj rfl rfl rfl (zah [0, 1, 2, 4] [] [] rfl (ev1 rfl) (ec (ev1 rfl) (ec (ev1 rfl) en)) rfl (by exact mfits _ _ ⟨zap rfl rfl rfl, rfl, rfl, rfl, trivial⟩) (reg1_n w h ds f k q _ _ (by omega) (atN x y) hpi hh) rfl rfl rfl (by exact (wrc (sb_srx rfl rfl) (wrc rfl (wrc rfl (wrc rfl rfl))))) rfl rfl) (by simp only [upd, zaa, za]; exact rfl) ?_
        refine zab rfl rfl rfl (zac (.inr rfl) (ev1 rfl)) ?_
        refine zae ?_
        refine zad ?_
        refine zab rfl rfl rfl (op_add' rfl (ev1 rfl) (ev1 rfl) (fun _ => IntWalk.i64_in _ (by omega))) ?_
        refine zab rfl rfl rfl (zac (.inl rfl) (ev1 rfl)) ?_
        refine zae ?_
        refine ⟨x + 1, [0, 1, 2, 3, 4], by omega, by simp only []; omega, rfl, ⟨by rw [gtP_no hxW hh]; rfl, rfl, rfl, rfl, rfl, rfl, rfl, rfl, trivial⟩, ⟨zap rfl rfl rfl, rfl, rfl, rfl, by rw [gtP_no hxW hh, gtS_no hxW hh]; rfl, trivial⟩⟩
    · try simp only [decide_eq_true_eq, decide_eq_false_iff_not, beq_iff_eq, bne_iff_ne, beq_eq_false_iff_ne, bne_eq_false_iff_eq, Bool.not_eq_true', Bool.not_eq_false', Bool.and_eq_true, Bool.or_eq_true, Bool.or_eq_false_iff, ne_eq, Decidable.not_not, Int.not_lt, Int.not_le] at c2
      refine dwp_exit ?_
      refine zad ?_
      refine zab rfl rfl rfl (op_add' rfl (ev1 rfl) (ev1 rfl) (fun _ => IntWalk.i64_in _ (by omega))) ?_
      refine zab rfl rfl rfl (zac (.inl rfl) (ev1 rfl)) ?_
      refine zae ?_
      obtain rfl : x = (w * 8).toNat := by omega
      refine ⟨y + 1, [0, 1, 2, 3, 4], by omega, by simp only []; omega, rfl, ⟨by rw [Nat.succ_mul]; rfl, rfl, rfl, rfl, rfl, trivial⟩, ⟨zap rfl rfl rfl, rfl, rfl, rfl, by rw [Nat.succ_mul]; rfl, trivial⟩⟩
  · try simp only [decide_eq_true_eq, decide_eq_false_iff_not, beq_iff_eq, bne_iff_ne, beq_eq_false_iff_ne, bne_eq_false_iff_eq, Bool.not_eq_true', Bool.not_eq_false', Bool.and_eq_true, Bool.or_eq_true, Bool.or_eq_false_iff, ne_eq, Decidable.not_not, Int.not_lt, Int.not_le] at c1
    refine dwp_exit ?_
    refine zaf ?_
    refine zad ?_
    refine zab rfl rfl rfl (zac (.inl rfl) (ev1 rfl)) ?_
    refine zab rfl rfl rfl (zac (.inr rfl) (ev1 rfl)) ?_
    refine zae ?_
    refine dwp_hole ?_
    refine dwp_rel 4 4 (j := 5) rfl rfl (fmL_at _ _) rfl (by simp only [List.cons_append, List.nil_append, zaa, za]; exact rfl) ?_
    refine dwp_giveA 4 rfl rfl (by simp only [List.cons_append, List.nil_append, zaa, za]; exact rfl) ?_
    refine zao ?_
    obtain rfl : y = (h * 8).toNat := by omega
    refine kend [0, 1, 2] (rs1 rfl (rv_t rfl)) rfl rfl ?_ ⟨zap rfl rfl rfl, rfl, rfl, trivial⟩
    rfl
end Go.Proofs.Ytfnhckildfbikaa
namespace Go.Proofs.Ytfnhckildfbikaa
set_option maxRecDepth 4000
set_option linter.unusedVariables false
set_option linter.unusedSimpArgs false
open Go.RowKit
attribute [local irreducible] zFD srL goF bfsF
theorem sl55 : slE Try.prog 55 = some (3, 1, 8) := by kernel_rfl
def iV (z : Int) : List Value := [.int .i64 z]
def badT (t : Int) : Bool := decide (t < 0) || decide (1020 < t)
theorem badT_no {t : Int} (h : badT t = false) : 0 ≤ t ∧ t ≤ 1020 := by unfold badT at h; simp at h; omega
def refE (w h : Int) (tols : List Int) (ps : List P2) : Int := if tols.any badT = true then 2 else if ps.any (fun p => !onP w h p) = true then 4 else 0
set_option maxRecDepth 4000 in
set_option maxHeartbeats 1000000 in
theorem rf1_d (t : Int) : DFun Try.prog 69 [.val (.int .i64 t)] [] (.val (.bool (badT t))) [] := by
  refine zan (N := 9) 0 (by kernel_rfl) Try.func69 rfl rfl rfl (by simp only [fr0, Nat.zero_add, Nat.reduceAdd]; exact rfl) rfl fun s0 hs0 => ?_
  refine zaf ?_
  refine zad ?_
  refine zab rfl rfl rfl (zac (.inr rfl) (ev1 rfl)) ?_
  refine zae ?_
  refine zaf ?_
  refine zad ?_
  refine zab rfl rfl rfl (zac (.inl rfl) (ev1 rfl)) ?_
  refine zab rfl rfl rfl (op_lss rfl (ev1 rfl) (ev1 rfl)) ?_
  refine zab rfl rfl rfl (zac (.inl rfl) (ev1 rfl)) ?_
  refine walk_gr (gd_f rfl rfl rfl) rfl rfl rfl (zac (.inl rfl) (ev1 rfl)) ?_
  refine walk_gr (gd_f rfl rfl rfl) rfl rfl rfl (op_gtr rfl (ev2 rfl) (ev1 rfl)) ?_
  refine zab rfl rfl rfl (op_or rfl (ev1 rfl) (ev3 rfl id)) ?_
  refine zab rfl rfl rfl (zac (.inr rfl) (ev1 rfl)) ?_
  refine zae ?_
  refine zao ?_
  refine kend0 (rs1 rfl (rv_t rfl)) rfl ?_
  rfl
set_option maxRecDepth 4000 in
set_option maxHeartbeats 1000000 in
theorem rf2_d (w h : Int) (ds : List D) (ts : List TL) (hr : RowOk ds ts) (hc : CvOk w h ts) (p : P2) : DFun Try.prog 71 [.val (.agg #[.int .i64 p.x, .int .i64 p.y]), .loc 0 0] [.mix 29 [cvD w h ds]] (.val (.bool (!onP w h p))) [.mix 29 [cvD w h ds]] := by
  refine zan (N := 17) 1 (by kernel_rfl) Try.func71 rfl rfl rfl (by simp only [fr0, Nat.zero_add, Nat.reduceAdd]; exact rfl) rfl fun s0 hs0 => ?_
  refine zaf ?_
  refine zai 1 (by simp only [holes, List.cons_append, List.nil_append]; exact rfl) ?_
  refine zad ?_
  refine zaj rfl rfl rfl (op_boxa 1 rfl (ev1 rfl) rfl) (by simp only [upd, zaa, za]; exact rfl) ?_
  refine zab rfl rfl rfl (zac (.inr rfl) (ev1 rfl)) ?_
  refine zae ?_
  refine zaf ?_
  refine zai 1 (by simp only [holes, List.cons_append, List.nil_append]; exact rfl) ?_
  refine zad ?_
  refine zab rfl rfl rfl (op_ldm rfl tb29 (ev1 rfl) rfl rfl) ?_
  refine zab rfl rfl rfl (op_fa rfl fo34_0 (ev1 rfl)) ?_
  refine zab rfl rfl rfl (zam rfl tb3 (ev1 rfl) rfl rfl) ?_
  refine zab rfl rfl rfl (op_fa rfl fo34_1 (ev1 rfl)) ?_
  refine zab rfl rfl rfl (zam rfl tb3 (ev1 rfl) rfl rfl) ?_
  refine zab rfl rfl rfl (zah [] [] [] rfl (ev1 rfl) (ec (ev1 rfl) (ec (ev1 rfl) (ec (ev1 rfl) en))) rfl rfl (at_d w h ds ts hr hc p.x p.y) rfl rfl rfl rfl rfl rfl) ?_
  refine zab rfl rfl rfl (zac (.inl rfl) (ev1 rfl)) ?_
  refine zab rfl rfl rfl (op_ext rfl (ev1 rfl) rfl) ?_
  refine zab rfl rfl rfl (op_ext rfl (ev1 rfl) rfl) ?_
  refine zaj rfl rfl rfl (op_alloc 2 rfl zr27 rfl) (by simp only [upd, zaa, za]; exact rfl) ?_
  refine walk_s rfl rfl (op_stwa rfl tb27 (ev1 rfl) (ev1 rfl) rfl rfl rfl rfl) (by simp only [upd, zaa, za]; exact rfl) ?_
  refine zab rfl rfl rfl (zac (.inr rfl) (ev1 rfl)) ?_
  refine zae ?_
  refine zaf ?_
  refine zad ?_
  refine zab rfl rfl rfl (zac (.inl rfl) (ev1 rfl)) ?_
  refine zab rfl rfl rfl (op_not rfl (ev1 rfl)) ?_
  refine zab rfl rfl rfl (zac (.inr rfl) (ev1 rfl)) ?_
  refine zae ?_
  refine zao ?_
  refine kend [0] (rs1 rfl (rv_t rfl)) rfl rfl ?_ ⟨rfl, trivial⟩
  rfl
set_option maxRecDepth 4000 in
set_option maxHeartbeats 1000000 in
theorem iixi_d (l : List Int) : DFun Try.prog 89 [.slf 1 l.length (l.flatMap iV), .fn (.func 69) [] []] [] (.val (.int .i64 (ixZ badT l))) [] := by
  refine zan (N := 19) 0 (by kernel_rfl) Try.func89 rfl rfl rfl (by simp only [fr0, Nat.zero_add, Nat.reduceAdd]; exact rfl) rfl fun s0 hs0 => ?_
  refine dwp_len (t := 0) rfl fun hl0 hL0 => ?_
  refine zaf ?_
  refine zad ?_
  refine zab rfl rfl rfl (zac (.inr rfl) (ev1 rfl)) ?_
  refine zae ?_
  refine zaf ?_
  refine zaf ?_
  refine zad ?_
  refine zab rfl rfl rfl (zac (.inl rfl) (ev1 rfl)) ?_
  refine zab rfl rfl rfl (op_len rfl sl55 (ev1 rfl)) ?_
  refine zab rfl rfl rfl (zac (.inl rfl) (ev1 rfl)) ?_
  refine zae ?_
  refine zal ?_
  refine dwp_loopS ⟨hs0, rfl⟩ (α := Nat) (fun i => [(8, .val (.int .i64 (i : Int)))]) [(0, _), (1, _), (7, _)] (fun i => []) [] (fun i => i ≤ l.length ∧ (l.take i).any badT = false) (fun i => l.length - i) 0 [] (⟨Nat.zero_le _, rfl⟩) rfl ⟨rfl, rfl, rfl, trivial⟩ ⟨rfl, trivial⟩ trivial ?_
  intro i hx
  simp only [upd, zaa, za, List.cons_append, List.nil_append]
  obtain ⟨hi0, hno⟩ := hx
  refine zaf ?_
  refine zad ?_
  refine zab rfl rfl rfl (op_lss rfl (ev1 rfl) (ev1 rfl)) ?_
  refine zae ?_
  refine zaf ?_
  refine dwp_cond rfl (fun c1 => ?_) (fun c1 => ?_)
  · try simp only [decide_eq_true_eq, decide_eq_false_iff_not, beq_iff_eq, bne_iff_ne, beq_eq_false_iff_ne, bne_eq_false_iff_eq, Bool.not_eq_true', Bool.not_eq_false', Bool.and_eq_true, Bool.or_eq_true, Bool.or_eq_false_iff, ne_eq, Decidable.not_not, Int.not_lt, Int.not_le] at c1
    refine zak ?_
    refine zaf ?_
    refine zal ?_
    refine zaf ?_
    refine zad ?_
    refine zab rfl rfl rfl (zac (.inl rfl) (ev1 rfl)) ?_
    refine zab rfl rfl rfl (zac (.inr rfl) (ev1 rfl)) ?_
    refine zae ?_
    refine zaf ?_
    refine zad ?_
    refine zab rfl rfl rfl (zac (.inl rfl) (ev1 rfl)) ?_
    refine zab rfl rfl rfl (zac (.inl rfl) (ev1 rfl)) ?_
    refine zab rfl rfl rfl (zac (.inl rfl) (ev1 rfl)) ?_
    refine zab rfl rfl rfl (op_ixsr (j := i) rfl sl55 (ev1 rfl) (ev1 rfl) (fun _ => rfl) (by decide) (by omega) (by omega)) ?_
    refine zab rfl rfl rfl (op_ldod rfl tb3 (ev1 rfl) rfl) ?_
    refine zab rfl rfl rfl (zah [] [] [] rfl (ev1 rfl) (ec (ev1 rfl) en) rfl rfl (rf1_d _) rfl rfl rfl rfl rfl rfl) ?_
    refine zae ?_
    refine dwp_cond rfl (fun c2 => ?_) (fun c2 => ?_)
    · refine zaf ?_
      refine zad ?_
      refine zab rfl rfl rfl (zac (.inl rfl) (ev1 rfl)) ?_
      refine zab rfl rfl rfl (zac (.inr rfl) (ev1 rfl)) ?_
      refine zae ?_
      refine zao ?_
      refine kend0 (rs1 rfl (rv_t rfl)) rfl ?_
      rw [ixZ_at (by omega) hno c2]
    · refine zak ?_
      refine zad ?_
      refine zab rfl rfl rfl (op_add' rfl (ev1 rfl) (ev1 rfl) (fun _ => IntWalk.i64_in _ (by omega))) ?_
      refine zab rfl rfl rfl (zac (.inl rfl) (ev1 rfl)) ?_
      refine zae ?_
      have hi : i < l.length := by omega
      refine ⟨i + 1, [], ⟨by omega, any_add (by omega) hno c2⟩, by simp only []; omega, rfl, ⟨rfl, rfl, rfl, rfl, trivial⟩, trivial⟩
  · try simp only [decide_eq_true_eq, decide_eq_false_iff_not, beq_iff_eq, bne_iff_ne, beq_eq_false_iff_ne, bne_eq_false_iff_eq, Bool.not_eq_true', Bool.not_eq_false', Bool.and_eq_true, Bool.or_eq_true, Bool.or_eq_false_iff, ne_eq, Decidable.not_not, Int.not_lt, Int.not_le] at c1
    refine dwp_exit ?_
    refine zaf ?_
    refine zad ?_
    refine zab rfl rfl rfl (zac (.inr rfl) (ev1 rfl)) ?_
    refine zae ?_
    refine zao ?_
    rw [take_all (by omega)] at hno
    refine kend0 (rs1 rfl (rv_t rfl)) rfl ?_
    rw [ixZ_no hno]
set_option maxRecDepth 4000 in
set_option maxHeartbeats 1000000 in
theorem iixp_d (w h : Int) (ds : List D) (ts : List TL) (hr : RowOk ds ts) (hc : CvOk w h ts) (l : List P2) : DFun Try.prog 90 [.slf 2 l.length (l.flatMap p2), .fn (.func 71) [] [.loc 0 0]] [.mix 29 [cvD w h ds]] (.val (.int .i64 (ixZ (fun p => !onP w h p) l))) [.mix 29 [cvD w h ds]] := by
  refine zan (N := 19) 1 (by kernel_rfl) Try.func90 rfl rfl rfl (by simp only [fr0, Nat.zero_add, Nat.reduceAdd]; exact rfl) rfl fun s0 hs0 => ?_
  refine dwp_len (t := 0) rfl fun hl0 hL0 => ?_
  refine zaf ?_
  refine zad ?_
  refine zab rfl rfl rfl (zac (.inr rfl) (ev1 rfl)) ?_
  refine zae ?_
  refine zaf ?_
  refine zaf ?_
  refine zad ?_
  refine zab rfl rfl rfl (zac (.inl rfl) (ev1 rfl)) ?_
  refine zab rfl rfl rfl (op_len rfl sl64 (ev1 rfl)) ?_
  refine zab rfl rfl rfl (zac (.inl rfl) (ev1 rfl)) ?_
  refine zae ?_
  refine zal ?_
  refine dwp_loopS ⟨hs0, rfl⟩ (α := Nat) (fun i => [(8, .val (.int .i64 (i : Int)))]) [(0, _), (1, _), (7, _)] (fun i => []) [_] (fun i => i ≤ l.length ∧ (l.take i).any (fun p => !onP w h p) = false) (fun i => l.length - i) 0 [0] (⟨Nat.zero_le _, rfl⟩) rfl ⟨rfl, rfl, rfl, trivial⟩ ⟨rfl, trivial⟩ ⟨rfl, trivial⟩ ?_
  intro i hx
  simp only [upd, zaa, za, List.cons_append, List.nil_append]
  obtain ⟨hi0, hno⟩ := hx
  refine zaf ?_
  refine zad ?_
  refine zab rfl rfl rfl (op_lss rfl (ev1 rfl) (ev1 rfl)) ?_
  refine zae ?_
  refine zaf ?_
  refine dwp_cond rfl (fun c1 => ?_) (fun c1 => ?_)
  · try simp only [decide_eq_true_eq, decide_eq_false_iff_not, beq_iff_eq, bne_iff_ne, beq_eq_false_iff_ne, bne_eq_false_iff_eq, Bool.not_eq_true', Bool.not_eq_false', Bool.and_eq_true, Bool.or_eq_true, Bool.or_eq_false_iff, ne_eq, Decidable.not_not, Int.not_lt, Int.not_le] at c1
    refine zak ?_
    refine zaf ?_
    refine zal ?_
    refine zaf ?_
    refine zad ?_
    refine zab rfl rfl rfl (zac (.inl rfl) (ev1 rfl)) ?_
    refine zab rfl rfl rfl (zac (.inr rfl) (ev1 rfl)) ?_
    refine zae ?_
    refine zaf ?_
    refine zad ?_
    refine zab rfl rfl rfl (zac (.inl rfl) (ev1 rfl)) ?_
    refine zab rfl rfl rfl (zac (.inl rfl) (ev1 rfl)) ?_
    refine zab rfl rfl rfl (zac (.inl rfl) (ev1 rfl)) ?_
    refine zab rfl rfl rfl (op_ixsr (j := i) rfl sl64 (ev1 rfl) (ev1 rfl) (fun _ => rfl) (by decide) (by omega) (by omega)) ?_
    refine zab rfl rfl rfl (op_ldwd rfl tb34 (ev1 rfl) rfl) ?_
    refine zaj rfl rfl rfl (zah [0] [] [] rfl (ev1 rfl) (ec (ev1 rfl) en) rfl rfl (rf2_d w h ds ts hr hc _) rfl rfl rfl rfl rfl rfl) (by simp only [upd, zaa, za]; exact rfl) ?_
    refine zae ?_
    refine dwp_cond rfl (fun c2 => ?_) (fun c2 => ?_)
    · refine zaf ?_
      refine zad ?_
      refine zab rfl rfl rfl (zac (.inl rfl) (ev1 rfl)) ?_
      refine zab rfl rfl rfl (zac (.inr rfl) (ev1 rfl)) ?_
      refine zae ?_
      refine zao ?_
      refine kend [0] (rs1 rfl (rv_t rfl)) rfl rfl ?_ ⟨rfl, trivial⟩
      rw [ixZ_at (by omega) hno c2]
    · refine zak ?_
      refine zad ?_
      refine zab rfl rfl rfl (op_add' rfl (ev1 rfl) (ev1 rfl) (fun _ => IntWalk.i64_in _ (by omega))) ?_
      refine zab rfl rfl rfl (zac (.inl rfl) (ev1 rfl)) ?_
      refine zae ?_
      have hi : i < l.length := by omega
      refine ⟨i + 1, [0], ⟨by omega, any_add (by omega) hno c2⟩, by simp only []; omega, rfl, ⟨rfl, rfl, rfl, rfl, trivial⟩, ⟨rfl, trivial⟩⟩
  · try simp only [decide_eq_true_eq, decide_eq_false_iff_not, beq_iff_eq, bne_iff_ne, beq_eq_false_iff_ne, bne_eq_false_iff_eq, Bool.not_eq_true', Bool.not_eq_false', Bool.and_eq_true, Bool.or_eq_true, Bool.or_eq_false_iff, ne_eq, Decidable.not_not, Int.not_lt, Int.not_le] at c1
    refine dwp_exit ?_
    refine zaf ?_
    refine zad ?_
    refine zab rfl rfl rfl (zac (.inr rfl) (ev1 rfl)) ?_
    refine zae ?_
    refine zao ?_
    rw [take_all (by omega)] at hno
    refine kend [0] (rs1 rfl (rv_t rfl)) rfl rfl ?_ ⟨rfl, trivial⟩
    rw [ixZ_no hno]
set_option maxRecDepth 4000 in
set_option maxHeartbeats 1000000 in
theorem ctni_d (l : List Int) : DFun Try.prog 68 [.slf 1 l.length (l.flatMap iV), .fn (.func 69) [] []] [] (.val (.bool (l.any badT))) [] := by
  refine zan (N := 9) 0 (by kernel_rfl) Try.func68 rfl rfl rfl (by simp only [fr0, Nat.zero_add, Nat.reduceAdd]; exact rfl) rfl fun s0 hs0 => ?_
  refine dwp_len (t := 0) rfl fun hl0 hL0 => ?_
  refine zaf ?_
  refine zad ?_
  refine zab rfl rfl rfl (zac (.inr rfl) (ev1 rfl)) ?_
  refine zae ?_
  refine zaf ?_
  refine zad ?_
  refine zab rfl rfl rfl (zac (.inl rfl) (ev1 rfl)) ?_
  refine zab rfl rfl rfl (zac (.inl rfl) (ev1 rfl)) ?_
  refine zab rfl rfl rfl (zah [] [] [] rfl (ev1 rfl) (ec (ev1 rfl) (ec (ev1 rfl) en)) rfl rfl (iixi_d l) rfl rfl rfl rfl rfl rfl) ?_
  refine zab rfl rfl rfl (op_geq rfl (ev1 rfl) (ev1 rfl)) ?_
  refine zab rfl rfl rfl (zac (.inr rfl) (ev1 rfl)) ?_
  refine zae ?_
  refine zao ?_
  refine kend0 (rs1 rfl (rv_t rfl)) rfl ?_
  rw [ixZ_nn]
set_option maxRecDepth 4000 in
set_option maxHeartbeats 1000000 in
theorem ctnp_d (w h : Int) (ds : List D) (ts : List TL) (hr : RowOk ds ts) (hc : CvOk w h ts) (l : List P2) : DFun Try.prog 70 [.slf 2 l.length (l.flatMap p2), .fn (.func 71) [] [.loc 0 0]] [.mix 29 [cvD w h ds]] (.val (.bool (l.any fun p => !onP w h p))) [.mix 29 [cvD w h ds]] := by
  refine zan (N := 9) 1 (by kernel_rfl) Try.func70 rfl rfl rfl (by simp only [fr0, Nat.zero_add, Nat.reduceAdd]; exact rfl) rfl fun s0 hs0 => ?_
  refine dwp_len (t := 0) rfl fun hl0 hL0 => ?_
  refine zaf ?_
  refine zad ?_
  refine zab rfl rfl rfl (zac (.inr rfl) (ev1 rfl)) ?_
  refine zae ?_
  refine zaf ?_
  refine zad ?_
  refine zab rfl rfl rfl (zac (.inl rfl) (ev1 rfl)) ?_
  refine zab rfl rfl rfl (zac (.inl rfl) (ev1 rfl)) ?_
  refine zaj rfl rfl rfl (zah [0] [] [] rfl (ev1 rfl) (ec (ev1 rfl) (ec (ev1 rfl) en)) rfl rfl (iixp_d w h ds ts hr hc l) rfl rfl rfl rfl rfl rfl) (by simp only [upd, zaa, za]; exact rfl) ?_
  refine zab rfl rfl rfl (op_geq rfl (ev1 rfl) (ev1 rfl)) ?_
  refine zab rfl rfl rfl (zac (.inr rfl) (ev1 rfl)) ?_
  refine zae ?_
  refine zao ?_
  refine kend [0] (rs1 rfl (rv_t rfl)) rfl rfl ?_ ⟨rfl, trivial⟩
  rw [ixZ_nn]
set_option maxRecDepth 4000 in
set_option maxHeartbeats 1000000 in
theorem refuse_d (w h : Int) (ds : List D) (ts : List TL) (hr : RowOk ds ts) (hc : CvOk w h ts) (l : List Int) (ps : List P2) : DFun Try.prog 34 [cvD w h ds, .slf 1 l.length (l.flatMap iV), .slf 2 ps.length (ps.flatMap p2)] [] (.val (.int .i64 (refE w h l ps))) [] := by
  refine zan (N := 14) 0 (by kernel_rfl) Try.func34 rfl rfl rfl (by simp only [fr0, Nat.zero_add, Nat.reduceAdd]; exact rfl) rfl fun s0 hs0 => ?_
  refine dwp_len (t := 1) rfl fun hl1 hL1 => ?_
  refine dwp_len (t := 2) rfl fun hl2 hL2 => ?_
  refine zaf ?_
  refine zai 1 (by simp only [holes, List.cons_append, List.nil_append]; exact rfl) ?_
  refine zad ?_
  refine zaj rfl rfl rfl (op_boxm 0 rfl (ev1 rfl) (fun s v h => by cases h <;> rfl) rfl) (by simp only [upd, zaa, za]; exact rfl) ?_
  refine zab rfl rfl rfl (zac (.inr rfl) (ev1 rfl)) ?_
  refine zae ?_
  refine zaf ?_
  refine zaf ?_
  refine zad ?_
  refine zab rfl rfl rfl (op_ldm rfl tb29 (ev1 rfl) rfl rfl) ?_
  refine zab rfl rfl rfl (op_pnilm rfl pt29 (ev1 rfl)) ?_
  refine zae ?_
  refine dwp_if_f rfl (by rfl) ?_
  refine zak ?_
  refine zaf ?_
  refine zaf ?_
  refine zad ?_
  refine zab rfl rfl rfl (zac (.inl rfl) (ev1 rfl)) ?_
  refine zab rfl rfl rfl (zah [] [] [] rfl (ev1 rfl) (ec (ev1 rfl) (ec (ev1 rfl) en)) rfl rfl (ctni_d l) rfl rfl rfl rfl rfl rfl) ?_
  refine zae ?_
  refine dwp_cond rfl (fun c1 => ?_) (fun c1 => ?_)
  · refine zaf ?_
    refine zad ?_
    refine zab rfl rfl rfl (zac (.inr rfl) (ev1 rfl)) ?_
    refine zae ?_
    refine zao ?_
    refine kend0 (rs1 rfl (rv_t rfl)) rfl ?_
    unfold refE
    rw [if_pos c1]
  · refine zak ?_
    refine zaf ?_
    refine zaf ?_
    refine zad ?_
    refine zab rfl rfl rfl (zac (.inl rfl) (ev1 rfl)) ?_
    refine zab rfl rfl rfl (op_mkf rfl en (ec (ev1 rfl) en)) ?_
    refine zaj rfl rfl rfl (zah [0] [] [] rfl (ev1 rfl) (ec (ev1 rfl) (ec (ev1 rfl) en)) rfl rfl (ctnp_d w h ds ts hr hc ps) rfl rfl rfl rfl rfl rfl) (by simp only [upd, zaa, za]; exact rfl) ?_
    refine zae ?_
    refine dwp_cond rfl (fun c2 => ?_) (fun c2 => ?_)
    · refine zaf ?_
      refine zad ?_
      refine zab rfl rfl rfl (zac (.inr rfl) (ev1 rfl)) ?_
      refine zae ?_
      refine zao ?_
      refine kend0 (rs1 rfl (rv_t rfl)) rfl ?_
      unfold refE
      rw [if_neg (by rw [c1]; decide), if_pos c2]
    · refine zak ?_
      refine zaf ?_
      refine zad ?_
      refine zab rfl rfl rfl (zac (.inr rfl) (ev1 rfl)) ?_
      refine zae ?_
      refine zao ?_
      refine kend0 (rs1 rfl (rv_t rfl)) rfl ?_
      unfold refE
      rw [if_neg (by rw [c1]; decide), if_neg (by rw [c2]; decide)]
set_option maxRecDepth 4000 in
set_option maxHeartbeats 1000000 in
theorem refuse_0 (l : List Int) (ps : List P2) : DFun Try.prog 34 [.val (.pointer none), .slf 1 l.length (l.flatMap iV), .slf 2 ps.length (ps.flatMap p2)] [] (.val (.int .i64 1)) [] := by
  refine zan (N := 14) 0 (by kernel_rfl) Try.func34 rfl rfl rfl (by simp only [fr0, Nat.zero_add, Nat.reduceAdd]; exact rfl) rfl fun s0 hs0 => ?_
  refine dwp_len (t := 1) rfl fun hl1 hL1 => ?_
  refine dwp_len (t := 2) rfl fun hl2 hL2 => ?_
  refine zaf ?_
  refine zai 1 (by simp only [holes, List.cons_append, List.nil_append]; exact rfl) ?_
  refine zad ?_
  refine zaj rfl rfl rfl (op_boxm 0 rfl (ev1 rfl) (fun s v h => by cases h <;> rfl) rfl) (by simp only [upd, zaa, za]; exact rfl) ?_
  refine zab rfl rfl rfl (zac (.inr rfl) (ev1 rfl)) ?_
  refine zae ?_
  refine zaf ?_
  refine zaf ?_
  refine zad ?_
  refine zab rfl rfl rfl (op_ldm rfl tb29 (ev1 rfl) rfl rfl) ?_
  refine zab rfl rfl rfl (op_pnil0 rfl pt29 (ev1 rfl)) ?_
  refine zae ?_
  refine dwp_if_t rfl (rfl) ?_
  refine zaf ?_
  refine zad ?_
  refine zab rfl rfl rfl (zac (.inr rfl) (ev1 rfl)) ?_
  refine zae ?_
  refine zao ?_
  refine kend0 (rs1 rfl (rv_t rfl)) rfl ?_
  rfl
theorem refE_one {w h tol : Int} {p : P2} : refE w h [tol] [p] = if badT tol = true then 2 else if onP w h p = true then 0 else 4 := by
  unfold refE
  simp only [List.any_cons, List.any_nil, Bool.or_false]
  split
  · rfl
  · cases onP w h p <;> rfl
theorem refE_ok {w h tol : Int} {p : P2} (h0 : refE w h [tol] [p] = 0) : (0 ≤ tol ∧ tol ≤ 1020) ∧ onP w h p = true := by
  rw [refE_one] at h0
  split at h0
  · omega
  · rename_i h1
    split at h0
    · rename_i h2; exact ⟨badT_no (by simpa using h1), h2⟩
    · omega
theorem refE_two {w h tol : Int} {p q : P2} (h0 : refE w h [tol] [p, q] = 0) : (0 ≤ tol ∧ tol ≤ 1020) ∧ onP w h p = true ∧ onP w h q = true := by
  unfold refE at h0
  simp only [List.any_cons, List.any_nil, Bool.or_false] at h0
  split at h0
  · omega
  · rename_i h1
    split at h0
    · omega
    · rename_i h2
      refine ⟨badT_no (by simpa using h1), ?_⟩
      simpa using h2
def rgF (w h : Int) (ts : List TL) (tol : Int) (p : P2) : FD := spF (onP w h) (nearP w ts tol (getC w ts p.x p.y)) zFD p
def rgS (w h : Int) (f : FD) : List Sp := gtS f.has (w * 8).toNat ((h * 8).toNat * (w * 8).toNat)
def rgP (w h : Int) (f : FD) : List P2 := gtP f.has (w * 8).toNat ((h * 8).toNat * (w * 8).toNat)
theorem rgP_len {w h : Int} (hm : mayS w h = true) (f : FD) : (rgP w h f).length ≤ 1024 := by
  have hb := mayS_b hm
  have h1 := gtP_len f.has (w * 8).toNat ((h * 8).toNat * (w * 8).toNat)
  have h2 : (h * 8).toNat * (w * 8).toNat ≤ 32 * 32 := Nat.mul_le_mul (by omega) (by omega)
  unfold rgP
  omega
end Go.Proofs.Ytfnhckildfbikaa
namespace Go.Proofs.Ytfnhckildfbikaa
set_option maxRecDepth 4000
set_option linter.unusedVariables false
set_option linter.unusedSimpArgs false
open Go.RowKit
theorem bfs_le {On near : P2 → Bool} (hOn : ∀ p, On p = true → inF32 p) : ∀ (n : Nat) (f : FD) (q : List P2) (K : Nat), (∀ p, f.at p ≤ 1026) → (∀ x ∈ q, On x = true ∧ 0 < f.at x ∧ f.at x + (zrF f + q.length) ≤ 1026) → ∀ p, (bfsF On near n f q).at p ≤ 1026
  | 0, f, q, K, hf, _ => hf
  | n + 1, f, [], K, hf, _ => hf
  | n + 1, f, p :: r, K, hf, hq => by
    have hI : SpI On near (bfsF On near (zrF f + (p :: r).length) f (p :: r)) (spK On near (zrF f + (p :: r).length) K f (p :: r)) (f, p :: r, K) := ⟨rfl, rfl, hq⟩
    obtain ⟨h1, h2, h3⟩ := hq p (List.mem_cons_self ..)
    have hst := (hI.step hOn).1
    intro u
    rw [bfsF]
    refine bfs_le hOn n _ _ 0 (fun x => ?_) hst.mem u
    have key : ∀ (L : List P2) (s : FD × List P2), (∀ y, s.1.at y ≤ 1026) → f.at p + 1 ≤ 1026 → ∀ y, (L.foldl (visF near (f.at p + 1)) s).1.at y ≤ 1026 := by
      intro L
      induction L with
      | nil => intro s h _; exact h
      | cons a L ih =>
        intro s h hv y
        rw [List.foldl_cons]
        refine ih _ (fun z => ?_) hv y
        unfold visF
        split
        · show (s.1.put a (f.at p + 1)).at z ≤ 1026
          unfold FD.at FD.put
          simp only [List.getD_eq_getElem?_getD]
          by_cases e : ixF a = ixF z
          · rw [e]
            by_cases hl : ixF z < s.1.l.length
            · rw [List.getElem?_set_self hl]; exact hv
            · rw [List.getElem?_eq_none (by simp; omega)]; simp
          · rw [List.getElem?_set_ne e]
            have := h z
            unfold FD.at at this
            simpa [List.getD_eq_getElem?_getD] using this
        · exact h z
    unfold goF
    exact key _ (f, []) hf (by rw [List.length_cons] at h3; omega) x
theorem spF_le {On near : P2 → Bool} (hOn : ∀ p, On p = true → inF32 p) {f : FD} {p : P2} (hp : On p = true) (h0 : f.at p = 0) (hf : ∀ x, f.at x ≤ 1026) (x : P2) : (spF On near f p).at x ≤ 1026 := by
  have hS := SpI.start (near := near) hOn 0 hp h0
  refine bfs_le hOn _ _ _ 0 (fun z => ?_) hS.mem x
  unfold FD.at FD.put
  simp only [List.getD_eq_getElem?_getD]
  by_cases e : ixF p = ixF z
  · rw [e]
    by_cases hl : ixF z < f.l.length
    · rw [List.getElem?_set_self hl]; simp
    · rw [List.getElem?_eq_none (by simp; omega)]; simp
  · rw [List.getElem?_set_ne e]
    have := hf z
    unfold FD.at at this
    simpa [List.getD_eq_getElem?_getD] using this
theorem rgF_le {w h : Int} {ts : List TL} {tol : Int} {p u : P2} (hm : mayS w h = true) (hp : onP w h p = true) (hu : inF32 u) : (rgF w h ts tol p).at u ≤ 5000 :=
  Nat.le_trans (spF_le (onP_in hm) hp (zFD_at p) (fun x => by rw [zFD_at]; omega) u) (by omega)
end Go.Proofs.Ytfnhckildfbikaa
namespace Go.Proofs.Ytfnhckildfbikaa
set_option maxRecDepth 4000
set_option linter.unusedVariables false
set_option linter.unusedSimpArgs false
open Go.RowKit
def prV (w h : Int) (ts : List TL) (tol : Int) (s : FD × Nat × List P2) (p : P2) : FD × Nat × List P2 := if s.1.has p = true then s else (spF (onP w h) (nearP w ts tol (getC w ts p.x p.y)) s.1 p, spN (onP w h) (nearP w ts tol (getC w ts p.x p.y)) s.2.1 s.1 p, s.2.2 ++ [p])
def prK (w h : Int) (ts : List TL) (tol : Int) (n : Nat) : FD × Nat × List P2 := (fieldN (w * 8).toNat n 0 0).foldl (prV w h ts tol) (zFD, 0, [])
theorem prK_zero (w h : Int) (ts : List TL) (tol : Int) : prK w h ts tol 0 = (zFD, 0, []) := rfl
theorem prK_add {w h : Int} {ts : List TL} {tol : Int} {x y : Nat} (hx : x < (w * 8).toNat) : prK w h ts tol (y * (w * 8).toNat + (x + 1)) = prV w h ts tol (prK w h ts tol (y * (w * 8).toNat + x)) (atN x y) := by
  unfold prK
  rw [gt_field hx, List.foldl_append]
  rfl
theorem prV_yes {w h : Int} {ts : List TL} {tol : Int} {s : FD × Nat × List P2} {p : P2} (hh : s.1.has p = true) : prV w h ts tol s p = s := if_pos hh
theorem prV_no {w h : Int} {ts : List TL} {tol : Int} {s : FD × Nat × List P2} {p : P2} (hh : s.1.has p = false) : prV w h ts tol s p = (spF (onP w h) (nearP w ts tol (getC w ts p.x p.y)) s.1 p, spN (onP w h) (nearP w ts tol (getC w ts p.x p.y)) s.2.1 s.1 p, s.2.2 ++ [p]) := if_neg (by rw [hh]; decide)
theorem prK_len (w h : Int) (ts : List TL) (tol : Int) (n : Nat) : (prK w h ts tol n).2.2.length ≤ n := by
  have key : ∀ (L : List P2) (s : FD × Nat × List P2), (L.foldl (prV w h ts tol) s).2.2.length ≤ s.2.2.length + L.length := by
    intro L
    induction L with
    | nil => intro s; simp
    | cons a L ih =>
      intro s
      rw [List.foldl_cons, List.length_cons]
      refine Nat.le_trans (ih _) ?_
      unfold prV
      split
      · omega
      · simp only [List.length_append, List.length_cons, List.length_nil]; omega
  unfold prK
  refine Nat.le_trans (key _ _) ?_
  rw [fieldN_len]
  simp
theorem hasF_no {f : FD} {p : P2} (h : f.has p = false) : f.at p = 0 := by unfold FD.has at h; simpa using h
def prN (w h : Int) (ts : List TL) (tol : Int) : Nat := (prK w h ts tol ((h * 8).toNat * (w * 8).toNat)).2.2.length
def rimB (w h : Int) (f : FD) (p : P2) : Bool := !((adjL p).all fun n => onP w h n && f.has n)
def rimI (w h : Int) (f : FD) (p : P2) (i : Nat) : Nat := (((adjL p).take i).filter (onP w h)).length
theorem rimI_le (w h : Int) (f : FD) (p : P2) (i : Nat) : rimI w h f p i ≤ i := by
  unfold rimI
  refine Nat.le_trans (List.length_filter_le ..) (List.length_take_le ..)
theorem rimI_yes {w h : Int} {f : FD} {p : P2} {i : Nat} (hi : i < (adjL p).length) (ho : onP w h (adjL p)[i] = true) : rimI w h f p (i + 1) = rimI w h f p i + 1 := by
  unfold rimI
  rw [List.take_succ_eq_append_getElem hi, List.filter_append]
  simp [ho]
theorem rimI_no {w h : Int} {f : FD} {p : P2} {i : Nat} (hi : i < (adjL p).length) (ho : onP w h (adjL p)[i] = false) : rimI w h f p (i + 1) = rimI w h f p i := by
  unfold rimI
  rw [List.take_succ_eq_append_getElem hi, List.filter_append]
  simp [ho]
def rimA (w h : Int) (f : FD) (p : P2) (i : Nat) : Bool := ((adjL p).take i).all fun n => !onP w h n || f.has n
theorem rimA_add {w h : Int} {f : FD} {p : P2} {i : Nat} (hi : i < (adjL p).length) : rimA w h f p (i + 1) = (rimA w h f p i && (!onP w h (adjL p)[i] || f.has (adjL p)[i])) := by
  unfold rimA
  rw [List.take_succ_eq_append_getElem hi, List.all_append]
  simp
def rimZ (w h : Int) (f : FD) (p : P2) : Nat := if rimA w h f p 1 = false then rimI w h f p 0 else if rimA w h f p 2 = false then rimI w h f p 1 else if rimA w h f p 3 = false then rimI w h f p 2 else if rimA w h f p 4 = false then rimI w h f p 3 else rimI w h f p 4
theorem rimA_mono {w h : Int} {f : FD} {p : P2} {i : Nat} (hi : i < (adjL p).length) (h1 : rimA w h f p (i + 1) = true) : rimA w h f p i = true := by rw [rimA_add hi, Bool.and_eq_true] at h1; exact h1.1
theorem rimZ_stop {w h : Int} {f : FD} {p : P2} {i : Nat} (hi : i < 4) (h1 : rimA w h f p i = true) (h2 : rimA w h f p (i + 1) = false) : rimZ w h f p = rimI w h f p i := by
  have hal := adj_len p
  unfold rimZ
  match i, hi with
  | 0, _ => rw [if_pos h2]
  | 1, _ => rw [if_neg (by rw [h1]; decide), if_pos h2]
  | 2, _ => rw [if_neg (by rw [rimA_mono (i := 1) (by omega) h1]; decide), if_neg (by rw [h1]; decide), if_pos h2]
  | 3, _ =>
    have a2 := rimA_mono (i := 2) (by omega) h1
    rw [if_neg (by rw [rimA_mono (i := 1) (by omega) a2]; decide), if_neg (by rw [a2]; decide), if_neg (by rw [h1]; decide), if_pos h2]
theorem rimZ_end {w h : Int} {f : FD} {p : P2} (h1 : rimA w h f p 4 = true) : rimZ w h f p = rimI w h f p 4 := by
  have hal := adj_len p
  have a3 := rimA_mono (i := 3) (by omega) h1
  have a2 := rimA_mono (i := 2) (by omega) a3
  have a1 := rimA_mono (i := 1) (by omega) a2
  unfold rimZ
  rw [if_neg (by rw [a1]; decide), if_neg (by rw [a2]; decide), if_neg (by rw [a3]; decide), if_neg (by rw [h1]; decide)]
theorem rim_eq (w h : Int) (f : FD) (p : P2) : decide (rimZ w h f p < 4) = rimB w h f p := by
  have hal := adj_len p
  cases hA : rimA w h f p 4 with
  | true =>
    rw [rimZ_end hA]
    have hall : ∀ n ∈ adjL p, (!onP w h n || f.has n) = true := List.all_eq_true.1 hA
    unfold rimI rimB
    rw [show (adjL p).take 4 = adjL p from rfl]
    cases hon : (adjL p).all (onP w h) with
    | true =>
      have h1 : (adjL p).filter (onP w h) = adjL p := List.filter_eq_self.2 (List.all_eq_true.1 hon)
      have h2 : ((adjL p).all fun n => onP w h n && f.has n) = true := List.all_eq_true.2 fun n hn => by
        have a := List.all_eq_true.1 hon n hn
        have b := hall n hn
        rw [a] at b ⊢
        simpa using b
      rw [h1, h2, hal]
      rfl
    | false =>
      obtain ⟨n, hn, hno⟩ := List.all_eq_false.1 hon
      have h2 : ((adjL p).all fun n => onP w h n && f.has n) = false := List.all_eq_false.2 ⟨n, hn, by simp [hno]⟩
      have h1 : ((adjL p).filter (onP w h)).length < (adjL p).length := by
        rcases Nat.lt_or_ge ((adjL p).filter (onP w h)).length (adjL p).length with g | g
        · exact g
        · have := List.length_filter_eq_length_iff.1 (Nat.le_antisymm (List.length_filter_le ..) g) n hn
          exact absurd this hno
      rw [h2]
      simp only [Bool.not_false, decide_eq_true_eq]
      omega
  | false =>
    have h3 : rimZ w h f p < 4 := by
      have i0 := rimI_le w h f p 0
      have i1 := rimI_le w h f p 1
      have i2 := rimI_le w h f p 2
      have i3 := rimI_le w h f p 3
      unfold rimZ
      rw [hA, if_pos (rfl : false = false)]
      split
      · omega
      · split
        · omega
        · split <;> omega
    rw [decide_eq_true h3]
    unfold rimB
    obtain ⟨n, hn, hno⟩ := List.all_eq_false.1 hA
    have h2 : ((adjL p).all fun n => onP w h n && f.has n) = false := List.all_eq_false.2 ⟨n, hn, by
      intro e
      simp only [Bool.and_eq_true] at e
      rw [e.1, e.2] at hno
      exact hno rfl⟩
    rw [h2]
    rfl
end Go.Proofs.Ytfnhckildfbikaa
namespace Go.Proofs.Ytfnhckildfbikaa
set_option maxRecDepth 4000
set_option linter.unusedVariables false
set_option linter.unusedSimpArgs false
open Go.RowKit
attribute [local irreducible] zFD srL goF bfsF
attribute [local irreducible] spF spN
theorem zr84 : zrC Try.prog 84 = some [.pointer none] := by kernel_rfl
set_option maxRecDepth 4000 in
set_option maxHeartbeats 1000000 in
theorem region_d (w h : Int) (ds : List D) (ts : List TL) (hr : RowOk ds ts) (hc : CvOk w h ts) (hg : tsRng ts) (p : P2) (tol : Int) (h0 : (refE w h [tol] [p]) = 0) : DFun Try.prog 9 [cvD w h ds, .val (.agg #[.int .i64 p.x, .int .i64 p.y]), .val (.int .i64 tol)] [] (.tup [.slf 3 (rgS w h (rgF w h ts tol p)).length ((rgS w h (rgF w h ts tol p)).flatMap s3), .val (.int .i64 0)]) [] := by
  obtain ⟨⟨ht, ht2⟩, hp⟩ := refE_ok h0
  refine zan (N := 26) 0 (by kernel_rfl) Try.func9 rfl rfl rfl (by simp only [fr0, Nat.zero_add, Nat.reduceAdd]; exact rfl) rfl fun s0 hs0 => ?_
  refine zaf ?_
  refine zai 1 (by simp only [holes, List.cons_append, List.nil_append]; exact rfl) ?_
  refine zad ?_
  refine zaj rfl rfl rfl (op_boxa 0 rfl (ev1 rfl) rfl) (by simp only [upd, zaa, za]; exact rfl) ?_
  refine zab rfl rfl rfl (zac (.inr rfl) (ev1 rfl)) ?_
  refine zab rfl rfl rfl (zac (.inr rfl) (ev1 rfl)) ?_
  refine zae ?_
  refine zaf ?_
  refine zaf ?_
  refine zad ?_
  refine zab rfl rfl rfl (zac (.inl rfl) (ev1 rfl)) ?_
  refine zab rfl rfl rfl (zac (.inl rfl) (ev1 rfl)) ?_
  refine zab rfl rfl rfl (op_bs (ps := [(0, .tmp 11)]) rfl sl55 zr3 rfl (vc (ev1 rfl) vn) rfl (by decide) (by decide)) ?_
  refine zab rfl rfl rfl (op_ldw rfl tb34 (ev1 rfl) rfl rfl) ?_
  refine zab rfl rfl rfl (op_bs (ps := [(0, .tmp 13)]) rfl sl64 zr34 rfl (vc (ev1 rfl) vn) rfl (by decide) (by decide)) ?_
  refine zab rfl rfl rfl (zah [] [] [] rfl (ev1 rfl) (ec (ev1 rfl) (ec (ev1 rfl) (ec (ev1 rfl) en))) rfl rfl (refuse_d w h ds ts hr hc [tol] [p]) rfl rfl rfl rfl rfl rfl) ?_
  refine zab rfl rfl rfl (zac (.inr rfl) (ev1 rfl)) ?_
  refine zae ?_
  refine zaf ?_
  refine zad ?_
  refine zab rfl rfl rfl (zac (.inl rfl) (ev1 rfl)) ?_
  refine zab rfl rfl rfl (op_neq rfl (ev1 rfl) (ev1 rfl)) ?_
  refine zae ?_
  refine dwp_if_f rfl (by rw [h0]; rfl) ?_
  refine zak ?_
  refine zaf ?_
  refine zai 3 (by simp only [holes, List.cons_append, List.nil_append]; exact rfl) ?_
  refine zad ?_
  refine zab rfl rfl rfl (zac (.inl rfl) (ev1 rfl)) ?_
  refine zab rfl rfl rfl (op_ldw rfl tb34 (ev1 rfl) rfl rfl) ?_
  refine zab rfl rfl rfl (zac (.inl rfl) (ev1 rfl)) ?_
  refine zaj rfl rfl rfl (zah [] [] [1, 2] rfl (ev1 rfl) (ec (ev1 rfl) (ec (ev1 rfl) (ec (ev1 rfl) en))) rfl rfl (region_o w h ds ts hr hc hg p hp tol ht) rfl rfl rfl (by exact (wrc (sb_srx rfl rfl) (wrc rfl rfl))) rfl rfl) (by simp only [upd, zaa, za]; exact rfl) ?_
  refine zaj rfl rfl rfl (op_alloc 3 rfl zr84 rfl) (by simp only [upd, zaa, za]; exact rfl) ?_
  refine walk_s rfl rfl (op_stfm rfl tb84 (ev1 rfl) (ev1 rfl) (fun s v h => by cases h <;> exact ⟨rfl, rfl⟩) rfl (by decide)) (by simp only [upd, zaa, za]; exact rfl) ?_
  refine zae ?_
  refine zaf ?_
  refine zad ?_
  refine zab rfl rfl rfl (op_ldm rfl tb84 (ev1 rfl) rfl rfl) ?_
  refine zab rfl rfl rfl (op_mkf rfl en (ec (ev1 rfl) en)) ?_
  refine zaj rfl rfl rfl (zah [1, 2, 3] [] [] rfl (ev1 rfl) (ec (ev1 rfl) (ec (ev1 rfl) en)) rfl (by exact mfits _ _ ⟨zap rfl rfl rfl, rfl, rfl, trivial⟩) (gatS_d w h ds ts hr hc _ _ []) rfl rfl rfl (by exact (wrc (sb_srx rfl rfl) (wrc rfl (wrc rfl rfl)))) rfl rfl) (by simp only [upd, zaa, za]; exact rfl) ?_
  refine zab rfl rfl rfl (zac (.inr rfl) (ev1 rfl)) ?_
  refine zab rfl rfl rfl (zac (.inr rfl) (ev1 rfl)) ?_
  refine zae ?_
  refine zao ?_
  refine kend0 (rs2 rfl (rv_t rfl) (rv_t rfl)) rfl ?_
  rfl
set_option maxRecDepth 4000 in
set_option maxHeartbeats 1000000 in
theorem region_n (w h : Int) (ds : List D) (ts : List TL) (hr : RowOk ds ts) (hc : CvOk w h ts) (hg : tsRng ts) (p : P2) (tol : Int) (h0 : (refE w h [tol] [p]) ≠ 0) : DFun Try.prog 9 [cvD w h ds, .val (.agg #[.int .i64 p.x, .int .i64 p.y]), .val (.int .i64 tol)] [] (.tup [.val (.slice none 0 0), .val (.int .i64 (refE w h [tol] [p]))]) [] := by
  refine zan (N := 26) 0 (by kernel_rfl) Try.func9 rfl rfl rfl (by simp only [fr0, Nat.zero_add, Nat.reduceAdd]; exact rfl) rfl fun s0 hs0 => ?_
  refine zaf ?_
  refine zai 1 (by simp only [holes, List.cons_append, List.nil_append]; exact rfl) ?_
  refine zad ?_
  refine zaj rfl rfl rfl (op_boxa 0 rfl (ev1 rfl) rfl) (by simp only [upd, zaa, za]; exact rfl) ?_
  refine zab rfl rfl rfl (zac (.inr rfl) (ev1 rfl)) ?_
  refine zab rfl rfl rfl (zac (.inr rfl) (ev1 rfl)) ?_
  refine zae ?_
  refine zaf ?_
  refine zaf ?_
  refine zad ?_
  refine zab rfl rfl rfl (zac (.inl rfl) (ev1 rfl)) ?_
  refine zab rfl rfl rfl (zac (.inl rfl) (ev1 rfl)) ?_
  refine zab rfl rfl rfl (op_bs (ps := [(0, .tmp 11)]) rfl sl55 zr3 rfl (vc (ev1 rfl) vn) rfl (by decide) (by decide)) ?_
  refine zab rfl rfl rfl (op_ldw rfl tb34 (ev1 rfl) rfl rfl) ?_
  refine zab rfl rfl rfl (op_bs (ps := [(0, .tmp 13)]) rfl sl64 zr34 rfl (vc (ev1 rfl) vn) rfl (by decide) (by decide)) ?_
  refine zab rfl rfl rfl (zah [] [] [] rfl (ev1 rfl) (ec (ev1 rfl) (ec (ev1 rfl) (ec (ev1 rfl) en))) rfl rfl (refuse_d w h ds ts hr hc [tol] [p]) rfl rfl rfl rfl rfl rfl) ?_
  refine zab rfl rfl rfl (zac (.inr rfl) (ev1 rfl)) ?_
  refine zae ?_
  refine zaf ?_
  refine zad ?_
  refine zab rfl rfl rfl (zac (.inl rfl) (ev1 rfl)) ?_
  refine zab rfl rfl rfl (op_neq rfl (ev1 rfl) (ev1 rfl)) ?_
  refine zae ?_
  refine dwp_if_t rfl (by simpa using h0) ?_
  refine zaf ?_
  refine zad ?_
  refine zab rfl rfl rfl (zac (.inl rfl) (ev1 rfl)) ?_
  refine zab rfl rfl rfl (zac (.inr rfl) (ev1 rfl)) ?_
  refine zab rfl rfl rfl (zac (.inr rfl) (ev1 rfl)) ?_
  refine zae ?_
  refine zao ?_
  refine kend0 (rs2 rfl (rv_t rfl) (rv_t rfl)) rfl ?_
  rfl
set_option maxRecDepth 4000 in
set_option maxHeartbeats 1000000 in
theorem fil1_n (w h : Int) (ds : List D) (f : FD) (k : Nat) (q : List P2) (l : List P2) (hl : l.length ≤ 5000) (p : P2) (hp : inF32 p) (hh : f.has p = false) : DFun Try.prog 41 [.farr 3 l.length, .val (.agg #[.int .i64 p.x, .int .i64 p.y]), .loc 2 0] [.mix 134 (srL (cvD w h ds) (f).l (.farr 1 (k))), .fam (fmQ (k) (q)), .mix 84 [.loc 0 0], .fam (fmP (l))] (.farr 3 l.length) [.mix 134 (srL (cvD w h ds) (f).l (.farr 1 (k))), .fam (fmQ (k) (q)), .mix 84 [.loc 0 0], .fam (fmP (l))] := by
  have hp2 := hp
  unfold inF32 at hp2
  refine zan (N := 14) 4 (by kernel_rfl) Try.func41 rfl rfl rfl (by simp only [fr0, Nat.zero_add, Nat.reduceAdd]; exact rfl) rfl fun s0 hs0 => ?_
  refine zaf ?_
  refine zai 1 (by simp only [holes, List.cons_append, List.nil_append]; exact rfl) ?_
  refine zad ?_
  refine zaj rfl rfl rfl (op_boxa 4 rfl (ev1 rfl) rfl) (by simp only [upd, zaa, za]; exact rfl) ?_
  refine zab rfl rfl rfl (zac (.inr rfl) (ev1 rfl)) ?_
  refine zae ?_
  refine zaf ?_
  refine zaf ?_
  refine zad ?_
  refine zab rfl rfl rfl (op_ldm rfl tb84 (ev1 rfl) rfl rfl) ?_
  refine zab rfl rfl rfl (op_ldw rfl tb34 (ev1 rfl) rfl rfl) ?_
  refine zaj rfl rfl rfl (zah [0, 1] [] [] rfl (ev1 rfl) (ec (ev1 rfl) (ec (ev1 rfl) en)) rfl (by exact mfits _ _ ⟨zap rfl rfl rfl, rfl, trivial⟩) (has_s w h ds f k q p hp) rfl rfl rfl (by exact (wrc (sb_srx rfl rfl) (wrc rfl rfl))) rfl rfl) (by simp only [upd, zaa, za]; exact rfl) ?_
  refine zae ?_
  refine dwp_if_f rfl (by rw [hh]) ?_
  refine zak ?_
  refine zaf ?_
  refine zad ?_
  refine zab rfl rfl rfl (zac (.inl rfl) (ev1 rfl)) ?_
  refine zab rfl rfl rfl (zac (.inr rfl) (ev1 rfl)) ?_
  refine zae ?_
  refine zao ?_
  refine kend [0, 1, 2, 3] (rs1 rfl (rv_t rfl)) rfl rfl ?_ ⟨zap rfl rfl rfl, rfl, rfl, rfl, trivial⟩
  rfl
set_option maxRecDepth 4000 in
set_option maxHeartbeats 1000000 in
theorem fil1_y (w h : Int) (ds : List D) (f : FD) (k : Nat) (q : List P2) (l : List P2) (hl : l.length ≤ 5000) (p : P2) (hp : inF32 p) (hh : f.has p = true) : DFun Try.prog 41 [.farr 3 l.length, .val (.agg #[.int .i64 p.x, .int .i64 p.y]), .loc 2 0] [.mix 134 (srL (cvD w h ds) (f).l (.farr 1 (k))), .fam (fmQ (k) (q)), .mix 84 [.loc 0 0], .fam (fmP (l))] (.farr 3 (l ++ [p]).length) [.mix 134 (srL (cvD w h ds) (f).l (.farr 1 (k))), .fam (fmQ (k) (q)), .mix 84 [.loc 0 0], .fam (fmP (l ++ [p]))] := by
  have hp2 := hp
  unfold inF32 at hp2
  refine zan (N := 14) 4 (by kernel_rfl) Try.func41 rfl rfl rfl (by simp only [fr0, Nat.zero_add, Nat.reduceAdd]; exact rfl) rfl fun s0 hs0 => ?_
  refine zaf ?_
  refine zai 1 (by simp only [holes, List.cons_append, List.nil_append]; exact rfl) ?_
  refine zad ?_
  refine zaj rfl rfl rfl (op_boxa 4 rfl (ev1 rfl) rfl) (by simp only [upd, zaa, za]; exact rfl) ?_
  refine zab rfl rfl rfl (zac (.inr rfl) (ev1 rfl)) ?_
  refine zae ?_
  refine zaf ?_
  refine zaf ?_
  refine zad ?_
  refine zab rfl rfl rfl (op_ldm rfl tb84 (ev1 rfl) rfl rfl) ?_
  refine zab rfl rfl rfl (op_ldw rfl tb34 (ev1 rfl) rfl rfl) ?_
  refine zaj rfl rfl rfl (zah [0, 1] [] [] rfl (ev1 rfl) (ec (ev1 rfl) (ec (ev1 rfl) en)) rfl (by exact mfits _ _ ⟨zap rfl rfl rfl, rfl, trivial⟩) (has_s w h ds f k q p hp) rfl rfl rfl (by exact (wrc (sb_srx rfl rfl) (wrc rfl rfl))) rfl rfl) (by simp only [upd, zaa, za]; exact rfl) ?_
  refine zae ?_
  refine dwp_if_t rfl (by rw [hh]) ?_
  refine zai 2 (by simp only [holes, List.cons_append, List.nil_append]; exact rfl) ?_
  refine zad ?_
  refine zab rfl rfl rfl (zac (.inl rfl) (ev1 rfl)) ?_
  refine zab rfl rfl rfl (op_ldw rfl tb34 (ev1 rfl) rfl rfl) ?_
  refine zab rfl rfl rfl (op_bs (ps := [(0, .tmp 10)]) rfl sl64 zr34 rfl (vc (ev1 rfl) vn) rfl (by decide) (by decide)) ?_
  refine zaj rfl rfl rfl (op_appF (j1 := 5) (j2 := 6) rfl rfl sl64 zr34 rfl (ev1 rfl) (ev1 rfl) rfl (fmP_at l) rfl rfl rfl (fun _ => rfl) (fun _ => ⟨by omega, by omega⟩)) (by simp only [upd, zaa, za]; exact rfl) ?_
  refine zab rfl rfl rfl (zac (.inr rfl) (ev1 rfl)) ?_
  refine zae ?_
  refine zaf ?_
  refine zad ?_
  refine zab rfl rfl rfl (zac (.inl rfl) (ev1 rfl)) ?_
  refine zab rfl rfl rfl (zac (.inr rfl) (ev1 rfl)) ?_
  refine zae ?_
  refine zao ?_
  refine kend [0, 1, 2, 3] (rs1 rfl (rv_t rfl)) rfl rfl ?_ ⟨zap rfl rfl rfl, rfl, rfl, congrArg (fun B => some (Blk.fam B)) (fmP_add l p), trivial⟩
  rw [fmP_len, List.length_append]
  rfl
set_option maxRecDepth 4000 in
set_option maxHeartbeats 1000000 in
theorem gatF_d (w h : Int) (ds : List D) (ts : List TL) (hr : RowOk ds ts) (hc : CvOk w h ts) (f : FD) (k : Nat) (q : List P2) : DFun Try.prog 40 [.loc 0 0, .fn (.func 41) [] [.loc 2 0]] [.mix 134 (srL (cvD w h ds) (f).l (.farr 1 (k))), .fam (fmQ (k) (q)), .mix 84 [.loc 0 0]] (.slf 2 (gtP f.has (w * 8).toNat ((h * 8).toNat * (w * 8).toNat)).length ((gtP f.has (w * 8).toNat ((h * 8).toNat * (w * 8).toNat)).flatMap p2)) [.mix 134 (srL (cvD w h ds) (f).l (.farr 1 (k))), .fam (fmQ (k) (q)), .mix 84 [.loc 0 0]] := by
  have hb := mayS_b hc.may
  have hW : ((w * 8).toNat : Int) = w * 8 := by omega
  have hH : ((h * 8).toNat : Int) = h * 8 := by omega
  have hWH : (h * 8).toNat * (w * 8).toNat ≤ 32 * 32 := Nat.mul_le_mul (by omega) (by omega)
  refine zan (N := 35) 3 (by kernel_rfl) Try.func40 rfl rfl rfl (by simp only [fr0, Nat.zero_add, Nat.reduceAdd]; exact rfl) rfl fun s0 hs0 => ?_
  refine zaf ?_
  refine zad ?_
  refine zab rfl rfl rfl (zac (.inr rfl) (ev1 rfl)) ?_
  refine zae ?_
  refine zaf ?_
  refine zad ?_
  refine zab rfl rfl rfl (zac (.inr rfl) (ev1 rfl)) ?_
  refine zae ?_
  refine zaf ?_
  refine dwp_adopt (m := 3) 5 34 2 rfl rfl rfl ?_
  refine dwp_hole ?_
  refine dwp_fam 4 rfl (by simp only [List.cons_append, List.nil_append, zaa, za]; exact rfl) ?_
  refine zad ?_
  refine zab rfl rfl rfl (zac (.inl rfl) (ev1 rfl)) ?_
  refine zab rfl rfl rfl (op_nc rfl (ev1 rfl) (fun s v h => by cases h; exact ⟨_, rfl⟩)) ?_
  refine zab rfl rfl rfl (op_fa rfl fo134_0 (ev1 rfl)) ?_
  refine zab rfl rfl rfl (op_ldm rfl tb29 (ev1 rfl) rfl (srL_0 rfl)) ?_
  refine zab rfl rfl rfl (zah [] [] [] rfl (ev1 rfl) (ec (ev1 rfl) en) rfl rfl (size_d w h ds ts hr hc) rfl rfl rfl rfl rfl rfl) ?_
  refine zab rfl rfl rfl (zac (.inl rfl) (ev1 rfl)) ?_
  refine zab rfl rfl rfl (op_ext rfl (ev1 rfl) rfl) ?_
  refine zab rfl rfl rfl (op_ext rfl (ev1 rfl) rfl) ?_
  refine zab rfl rfl rfl (zac (.inr rfl) (ev1 rfl)) ?_
  refine zab rfl rfl rfl (zac (.inr rfl) (ev1 rfl)) ?_
  refine zae ?_
  refine zaf ?_
  refine zaf ?_
  refine dwp_abs 5 4 rfl rfl rfl (by simp only [zaa, za]; exact rfl) ?_
  refine zad ?_
  refine zab rfl rfl rfl (zac (.inl rfl) (ev1 rfl)) ?_
  refine zab rfl rfl rfl (zac (.inl rfl) (ev1 rfl)) ?_
  refine zae ?_
  refine zal ?_
  refine dwp_loopS ⟨hs0, rfl⟩ (α := Nat) (fun y => [(5, .farr 4 (gtP f.has (w * 8).toNat (y * (w * 8).toNat)).length), (19, .val (.int .i64 (y : Int)))]) [(1, _), (6, _), (18, _)] (fun y => [(4, .fam (fmP ((gtP f.has (w * 8).toNat (y * (w * 8).toNat)))))]) [_, _, _, _, .hole] (fun y => y ≤ (h * 8).toNat) (fun y => (h * 8).toNat - y) 0 [0, 1, 2, 3, 4] (Nat.zero_le _) rfl ⟨rfl, rfl, rfl, trivial⟩ ⟨by rw [Nat.zero_mul]; rfl, rfl, trivial⟩ ⟨zap rfl rfl rfl, rfl, rfl, rfl, by rw [Nat.zero_mul]; rfl, trivial⟩ ?_
  intro y hx
  simp only [upd, zaa, za, List.cons_append, List.nil_append]
  have hy0 := hx
  have hyW : y * (w * 8).toNat ≤ (h * 8).toNat * (w * 8).toNat := Nat.mul_le_mul_right _ hy0
  refine zaf ?_
  refine zad ?_
  refine zab rfl rfl rfl (op_lss rfl (ev1 rfl) (ev1 rfl)) ?_
  refine zae ?_
  refine zaf ?_
  refine dwp_cond rfl (fun c1 => ?_) (fun c1 => ?_)
  · try simp only [decide_eq_true_eq, decide_eq_false_iff_not, beq_iff_eq, bne_iff_ne, beq_eq_false_iff_ne, bne_eq_false_iff_eq, Bool.not_eq_true', Bool.not_eq_false', Bool.and_eq_true, Bool.or_eq_true, Bool.or_eq_false_iff, ne_eq, Decidable.not_not, Int.not_lt, Int.not_le] at c1
    refine zak ?_
    refine zaf ?_
    refine zal ?_
    refine zaf ?_
    refine zad ?_
    refine zab rfl rfl rfl (zac (.inl rfl) (ev1 rfl)) ?_
    refine zab rfl rfl rfl (zac (.inr rfl) (ev1 rfl)) ?_
    refine zae ?_
    refine zaf ?_
    refine zad ?_
    refine zab rfl rfl rfl (zac (.inl rfl) (ev1 rfl)) ?_
    refine zab rfl rfl rfl (zac (.inl rfl) (ev1 rfl)) ?_
    refine zae ?_
    refine zal ?_
    refine dwp_loopS ⟨hs0, rfl⟩ (α := Nat) (fun x => [(5, .farr 4 (gtP f.has (w * 8).toNat (y * (w * 8).toNat + x)).length), (23, .val (.int .i64 (x : Int)))]) [(1, _), (6, _), (8, _), (18, _), (19, _), (22, _)] (fun x => [(4, .fam (fmP ((gtP f.has (w * 8).toNat (y * (w * 8).toNat + x)))))]) [_, _, _, _, .hole] (fun x => x ≤ (w * 8).toNat) (fun x => (w * 8).toNat - x) 0 [0, 1, 2, 3, 4] (Nat.zero_le _) rfl ⟨rfl, rfl, rfl, rfl, rfl, rfl, trivial⟩ ⟨by rw [Nat.add_zero]; rfl, rfl, trivial⟩ ⟨zap rfl rfl rfl, rfl, rfl, rfl, by rw [Nat.add_zero]; rfl, trivial⟩ ?_
    intro x hx
    simp only [upd, zaa, za, List.cons_append, List.nil_append]
    have hx0 := hx
    have hgl := gtS_len f.has (w * 8).toNat (y * (w * 8).toNat + x)
    have hgp := gtP_len f.has (w * 8).toNat (y * (w * 8).toNat + x)
    refine zaf ?_
    refine zad ?_
    refine zab rfl rfl rfl (op_lss rfl (ev1 rfl) (ev1 rfl)) ?_
    refine zae ?_
    refine zaf ?_
    refine dwp_cond rfl (fun c2 => ?_) (fun c2 => ?_)
    · try simp only [decide_eq_true_eq, decide_eq_false_iff_not, beq_iff_eq, bne_iff_ne, beq_eq_false_iff_ne, bne_eq_false_iff_eq, Bool.not_eq_true', Bool.not_eq_false', Bool.and_eq_true, Bool.or_eq_true, Bool.or_eq_false_iff, ne_eq, Decidable.not_not, Int.not_lt, Int.not_le] at c2
      refine zak ?_
      refine zaf ?_
      refine zal ?_
      refine zaf ?_
      refine zad ?_
      refine zab rfl rfl rfl (zac (.inl rfl) (ev1 rfl)) ?_
      refine zab rfl rfl rfl (zac (.inr rfl) (ev1 rfl)) ?_
      refine zae ?_
      by_cases hh : f.has (atN x y) = true
      · have hxW : x < (w * 8).toNat := by omega
        have hyH : y < (h * 8).toNat := by omega
        have hyW2 : (y + 1) * (w * 8).toNat ≤ (h * 8).toNat * (w * 8).toNat := Nat.mul_le_mul_right _ hyH
        rw [Nat.succ_mul] at hyW2
        have hpi : inF32 (atN x y) := by unfold inF32 atN; simp only; omega
        have hpo : onS w h (atN x y).x (atN x y).y = true := onS_iff.2 ⟨by show (0 : Int) ≤ (x : Int) ∧ (x : Int) < w * 8; omega, by show (0 : Int) ≤ (y : Int) ∧ (y : Int) < h * 8; omega⟩
        refine zad ?_
        refine zab rfl rfl rfl (zac (.inl rfl) (ev1 rfl)) ?_
        refine zab rfl rfl rfl (zac (.inl rfl) (ev1 rfl)) ?_
        refine zab rfl rfl rfl (zac (.inl rfl) (ev1 rfl)) ?_
        refine zab rfl rfl rfl (zac (.inl rfl) (ev1 rfl)) ?_
        refine zab rfl rfl rfl (op_build (ps := [(0, .tmp 28), (1, .tmp 29)]) rfl fl34 zr34 (vc (ev1 rfl) (vc (ev1 rfl) vn)) rfl rfl) ?_
        refine zaj rfl rfl rfl (zah [0, 1, 2, 4] [] [] rfl (ev1 rfl) (ec (ev1 rfl) (ec (ev1 rfl) en)) rfl (by exact mfits _ _ ⟨zap rfl rfl rfl, rfl, rfl, rfl, trivial⟩) (fil1_y w h ds f k q _ (by omega) (atN x y) hpi hh) rfl rfl rfl (by exact (wrc (sb_srx rfl rfl) (wrc rfl (wrc rfl (wrc rfl rfl))))) rfl rfl) (by simp only [upd, zaa, za]; exact rfl) ?_
        refine zab rfl rfl rfl (zac (.inr rfl) (ev1 rfl)) ?_
        refine zae ?_
        refine zad ?_
        refine zab rfl rfl rfl (op_add' rfl (ev1 rfl) (ev1 rfl) (fun _ => IntWalk.i64_in _ (by omega))) ?_
        refine zab rfl rfl rfl (zac (.inl rfl) (ev1 rfl)) ?_
        refine zae ?_
        refine ⟨x + 1, [0, 1, 2, 3, 4], by omega, by simp only []; omega, rfl, ⟨by rw [gtP_yes hxW hh, List.length_append]; rfl, rfl, rfl, rfl, rfl, rfl, rfl, rfl, trivial⟩, ⟨zap rfl rfl rfl, rfl, rfl, rfl, by rw [gtP_yes hxW hh]; rfl, trivial⟩⟩
      · have hh : f.has (atN x y) = false := by simpa using hh
        have hxW : x < (w * 8).toNat := by omega
        have hyH : y < (h * 8).toNat := by omega
        have hyW2 : (y + 1) * (w * 8).toNat ≤ (h * 8).toNat * (w * 8).toNat := Nat.mul_le_mul_right _ hyH
        rw [Nat.succ_mul] at hyW2
        have hpi : inF32 (atN x y) := by unfold inF32 atN; simp only; omega
        have hpo : onS w h (atN x y).x (atN x y).y = true := onS_iff.2 ⟨by show (0 : Int) ≤ (x : Int) ∧ (x : Int) < w * 8; omega, by show (0 : Int) ≤ (y : Int) ∧ (y : Int) < h * 8; omega⟩
        refine zad ?_
        refine zab rfl rfl rfl (zac (.inl rfl) (ev1 rfl)) ?_
        refine zab rfl rfl rfl (zac (.inl rfl) (ev1 rfl)) ?_
        refine zab rfl rfl rfl (zac (.inl rfl) (ev1 rfl)) ?_
        refine zab rfl rfl rfl (zac (.inl rfl) (ev1 rfl)) ?_
        refine zab rfl rfl rfl (op_build (ps := [(0, .tmp 28), (1, .tmp 29)]) rfl fl34 zr34 (vc (ev1 rfl) (vc (ev1 rfl) vn)) rfl rfl) ?_
        refine zaj rfl rfl rfl (zah [0, 1, 2, 4] [] [] rfl (ev1 rfl) (ec (ev1 rfl) (ec (ev1 rfl) en)) rfl (by exact mfits _ _ ⟨zap rfl rfl rfl, rfl, rfl, rfl, trivial⟩) (fil1_n w h ds f k q _ (by omega) (atN x y) hpi hh) rfl rfl rfl (by exact (wrc (sb_srx rfl rfl) (wrc rfl (wrc rfl (wrc rfl rfl))))) rfl rfl) (by simp only [upd, zaa, za]; exact rfl) ?_
        refine zab rfl rfl rfl (zac (.inr rfl) (ev1 rfl)) ?_
        refine zae ?_
        refine zad ?_
        refine zab rfl rfl rfl (op_add' rfl (ev1 rfl) (ev1 rfl) (fun _ => IntWalk.i64_in _ (by omega))) ?_
        refine zab rfl rfl rfl (zac (.inl rfl) (ev1 rfl)) ?_
        refine zae ?_
        refine ⟨x + 1, [0, 1, 2, 3, 4], by omega, by simp only []; omega, rfl, ⟨by rw [gtP_no hxW hh]; rfl, rfl, rfl, rfl, rfl, rfl, rfl, rfl, trivial⟩, ⟨zap rfl rfl rfl, rfl, rfl, rfl, by rw [gtP_no hxW hh]; rfl, trivial⟩⟩
    · try simp only [decide_eq_true_eq, decide_eq_false_iff_not, beq_iff_eq, bne_iff_ne, beq_eq_false_iff_ne, bne_eq_false_iff_eq, Bool.not_eq_true', Bool.not_eq_false', Bool.and_eq_true, Bool.or_eq_true, Bool.or_eq_false_iff, ne_eq, Decidable.not_not, Int.not_lt, Int.not_le] at c2
      refine dwp_exit ?_
      refine zad ?_
      refine zab rfl rfl rfl (op_add' rfl (ev1 rfl) (ev1 rfl) (fun _ => IntWalk.i64_in _ (by omega))) ?_
      refine zab rfl rfl rfl (zac (.inl rfl) (ev1 rfl)) ?_
      refine zae ?_
      obtain rfl : x = (w * 8).toNat := by omega
      refine ⟨y + 1, [0, 1, 2, 3, 4], by omega, by simp only []; omega, rfl, ⟨by rw [Nat.succ_mul]; rfl, rfl, rfl, rfl, rfl, trivial⟩, ⟨zap rfl rfl rfl, rfl, rfl, rfl, by rw [Nat.succ_mul]; rfl, trivial⟩⟩
  · try simp only [decide_eq_true_eq, decide_eq_false_iff_not, beq_iff_eq, bne_iff_ne, beq_eq_false_iff_ne, bne_eq_false_iff_eq, Bool.not_eq_true', Bool.not_eq_false', Bool.and_eq_true, Bool.or_eq_true, Bool.or_eq_false_iff, ne_eq, Decidable.not_not, Int.not_lt, Int.not_le] at c1
    refine dwp_exit ?_
    refine zaf ?_
    refine zad ?_
    refine zab rfl rfl rfl (zac (.inl rfl) (ev1 rfl)) ?_
    refine zab rfl rfl rfl (zac (.inr rfl) (ev1 rfl)) ?_
    refine zae ?_
    refine dwp_hole ?_
    refine dwp_rel 4 4 (j := 5) rfl rfl (fmP_at _) rfl (by simp only [List.cons_append, List.nil_append, zaa, za]; exact rfl) ?_
    refine dwp_giveA 4 rfl rfl (by simp only [List.cons_append, List.nil_append, zaa, za]; exact rfl) ?_
    refine zao ?_
    obtain rfl : y = (h * 8).toNat := by omega
    refine kend [0, 1, 2] (rs1 rfl (rv_t rfl)) rfl rfl ?_ ⟨zap rfl rfl rfl, rfl, rfl, trivial⟩
    rfl
set_option maxRecDepth 4000 in
set_option maxHeartbeats 1000000 in
theorem fill_d (w h : Int) (ds : List D) (ts : List TL) (hr : RowOk ds ts) (hc : CvOk w h ts) (hg : tsRng ts) (p : P2) (tol : Int) (c : C4) (h0 : (refE w h [tol] [p]) = 0) : DFun Try.prog 10 [cvD w h ds, .val (.agg #[.int .i64 p.x, .int .i64 p.y]), .val (.int .i64 tol), .val (.agg (c4 c).toArray)] [] (.tup [cvD w h (dpR (putsC w h ts (dtsC c (rgP w h (rgF w h ts tol p))))), .val (.int .i64 0)]) [] := by
  obtain ⟨⟨ht, ht2⟩, hp⟩ := refE_ok h0
  have hpl := rgP_len hc.may (rgF w h ts tol p)
  refine zan (N := 31) 0 (by kernel_rfl) Try.func10 rfl rfl rfl (by simp only [fr0, Nat.zero_add, Nat.reduceAdd]; exact rfl) rfl fun s0 hs0 => ?_
  refine zaf ?_
  refine zai 2 (by simp only [holes, List.cons_append, List.nil_append]; exact rfl) ?_
  refine zad ?_
  refine zaj rfl rfl rfl (op_boxa 0 rfl (ev1 rfl) rfl) (by simp only [upd, zaa, za]; exact rfl) ?_
  refine zaj rfl rfl rfl (op_boxa 1 rfl (ev1 rfl) rfl) (by simp only [upd, zaa, za]; exact rfl) ?_
  refine zab rfl rfl rfl (zac (.inr rfl) (ev1 rfl)) ?_
  refine zab rfl rfl rfl (zac (.inr rfl) (ev1 rfl)) ?_
  refine zae ?_
  refine zaf ?_
  refine zaf ?_
  refine zad ?_
  refine zab rfl rfl rfl (zac (.inl rfl) (ev1 rfl)) ?_
  refine zab rfl rfl rfl (zac (.inl rfl) (ev1 rfl)) ?_
  refine zab rfl rfl rfl (op_bs (ps := [(0, .tmp 13)]) rfl sl55 zr3 rfl (vc (ev1 rfl) vn) rfl (by decide) (by decide)) ?_
  refine zab rfl rfl rfl (op_ldw rfl tb34 (ev1 rfl) rfl rfl) ?_
  refine zab rfl rfl rfl (op_bs (ps := [(0, .tmp 15)]) rfl sl64 zr34 rfl (vc (ev1 rfl) vn) rfl (by decide) (by decide)) ?_
  refine zab rfl rfl rfl (zah [] [] [] rfl (ev1 rfl) (ec (ev1 rfl) (ec (ev1 rfl) (ec (ev1 rfl) en))) rfl rfl (refuse_d w h ds ts hr hc [tol] [p]) rfl rfl rfl rfl rfl rfl) ?_
  refine zab rfl rfl rfl (zac (.inr rfl) (ev1 rfl)) ?_
  refine zae ?_
  refine zaf ?_
  refine zad ?_
  refine zab rfl rfl rfl (zac (.inl rfl) (ev1 rfl)) ?_
  refine zab rfl rfl rfl (op_neq rfl (ev1 rfl) (ev1 rfl)) ?_
  refine zae ?_
  refine dwp_if_f rfl (by rw [h0]; rfl) ?_
  refine zak ?_
  refine zaf ?_
  refine zai 3 (by simp only [holes, List.cons_append, List.nil_append]; exact rfl) ?_
  refine zad ?_
  refine zab rfl rfl rfl (zac (.inl rfl) (ev1 rfl)) ?_
  refine zab rfl rfl rfl (op_ldw rfl tb34 (ev1 rfl) rfl rfl) ?_
  refine zab rfl rfl rfl (zac (.inl rfl) (ev1 rfl)) ?_
  refine zaj rfl rfl rfl (zah [] [] [2, 3] rfl (ev1 rfl) (ec (ev1 rfl) (ec (ev1 rfl) (ec (ev1 rfl) en))) rfl rfl (region_o w h ds ts hr hc hg p hp tol ht) rfl rfl rfl (by exact (wrc (sb_srx rfl rfl) (wrc rfl rfl))) rfl rfl) (by simp only [upd, zaa, za]; exact rfl) ?_
  refine zaj rfl rfl rfl (op_alloc 4 rfl zr84 rfl) (by simp only [upd, zaa, za]; exact rfl) ?_
  refine walk_s rfl rfl (op_stfm rfl tb84 (ev1 rfl) (ev1 rfl) (fun s v h => by cases h <;> exact ⟨rfl, rfl⟩) rfl (by decide)) (by simp only [upd, zaa, za]; exact rfl) ?_
  refine zae ?_
  refine zaf ?_
  refine dwp_draw [([], []), ([1], []), ([4], []), ([], []), ([2, 3, 4], [2, 3, 4]), ([], []), ([], []), ([], [])] mixed (by kernel_rfl) ?_
  refine zag rfl rfl (zac (.inl rfl) (ev1 rfl)) ?_
  refine zag rfl rfl (op_ldw rfl tb27 (ev1 rfl) rfl rfl) ?_
  refine zag rfl rfl (op_ldm rfl tb84 (ev1 rfl) rfl rfl) ?_
  refine zag rfl rfl (op_mkf rfl en (ec (ev1 rfl) en)) ?_
  refine lex_w rfl rfl (zah [2, 3, 4] [] [] rfl (ev1 rfl) (ec (ev1 rfl) (ec (ev1 rfl) en)) rfl (by exact mfits _ _ ⟨zap rfl rfl rfl, rfl, rfl, trivial⟩) (gatF_d w h ds ts hr hc (rgF w h ts tol p) _ []) rfl rfl rfl (by exact (wrc (sb_srx rfl rfl) (wrc rfl (wrc rfl rfl)))) rfl rfl) rfl (by simp only [upd, zaa, za]; exact rfl) ?_
  refine zag rfl rfl (zah [] [] [] rfl (ev1 rfl) (ec (ev1 rfl) (ec (ev1 rfl) (ec (ev1 rfl) en))) rfl rfl (set_d w h ds ts hr hc c (rgP w h (rgF w h ts tol p)) (by omega)) rfl rfl rfl rfl rfl rfl) ?_
  refine zag rfl rfl (zac (.inr rfl) (ev1 rfl)) ?_
  refine zag rfl rfl (zac (.inr rfl) (ev1 rfl)) ?_
  refine lex_nil ?_
  refine zao ?_
  refine kend0 (rs2 rfl (rv_t rfl) (rv_t rfl)) rfl ?_
  rfl
def FD.le (f : FD) (B : Nat) : Prop := ∀ p, inF32 p → f.at p ≤ B
set_option maxRecDepth 4000 in
set_option maxHeartbeats 1000000 in
theorem steps_d (w h : Int) (ds : List D) (ts : List TL) (hr : RowOk ds ts) (hc : CvOk w h ts) (hg : tsRng ts) (p u : P2) (tol : Int) (h0 : (refE w h [tol] [p, u]) = 0) (hh : (rgF w h ts tol p).has u = true) : DFun Try.prog 28 [cvD w h ds, .val (.agg #[.int .i64 p.x, .int .i64 p.y]), .val (.agg #[.int .i64 u.x, .int .i64 u.y]), .val (.int .i64 tol)] [] (.tup [.val (.int .i64 ((((rgF w h ts tol p).at u : Nat) : Int) - 1)), .val (.int .i64 0)]) [] := by
  obtain ⟨⟨ht, ht2⟩, hp, hu⟩ := refE_two h0
  have hui := onP_in hc.may u hu
  have hat := rgF_le (ts := ts) (tol := tol) hc.may hp hui
  refine zan (N := 33) 0 (by kernel_rfl) Try.func28 rfl rfl rfl (by simp only [fr0, Nat.zero_add, Nat.reduceAdd]; exact rfl) rfl fun s0 hs0 => ?_
  refine zaf ?_
  refine zai 2 (by simp only [holes, List.cons_append, List.nil_append]; exact rfl) ?_
  refine zad ?_
  refine zaj rfl rfl rfl (op_boxa 0 rfl (ev1 rfl) rfl) (by simp only [upd, zaa, za]; exact rfl) ?_
  refine zaj rfl rfl rfl (op_boxa 1 rfl (ev1 rfl) rfl) (by simp only [upd, zaa, za]; exact rfl) ?_
  refine zab rfl rfl rfl (zac (.inr rfl) (ev1 rfl)) ?_
  refine zab rfl rfl rfl (zac (.inr rfl) (ev1 rfl)) ?_
  refine zae ?_
  refine zaf ?_
  refine zaf ?_
  refine zad ?_
  refine zab rfl rfl rfl (zac (.inl rfl) (ev1 rfl)) ?_
  refine zab rfl rfl rfl (zac (.inl rfl) (ev1 rfl)) ?_
  refine zab rfl rfl rfl (op_bs (ps := [(0, .tmp 13)]) rfl sl55 zr3 rfl (vc (ev1 rfl) vn) rfl (by decide) (by decide)) ?_
  refine zab rfl rfl rfl (op_ldw rfl tb34 (ev1 rfl) rfl rfl) ?_
  refine zab rfl rfl rfl (op_ldw rfl tb34 (ev1 rfl) rfl rfl) ?_
  refine zab rfl rfl rfl (op_bs (ps := [(0, .tmp 15), (1, .tmp 16)]) rfl sl64 zr34 rfl (vc (ev1 rfl) (vc (ev1 rfl) vn)) rfl (by decide) (by decide)) ?_
  refine zab rfl rfl rfl (zah [] [] [] rfl (ev1 rfl) (ec (ev1 rfl) (ec (ev1 rfl) (ec (ev1 rfl) en))) rfl rfl (refuse_d w h ds ts hr hc [tol] [p, u]) rfl rfl rfl rfl rfl rfl) ?_
  refine zab rfl rfl rfl (zac (.inr rfl) (ev1 rfl)) ?_
  refine zae ?_
  refine zaf ?_
  refine zad ?_
  refine zab rfl rfl rfl (zac (.inl rfl) (ev1 rfl)) ?_
  refine zab rfl rfl rfl (op_neq rfl (ev1 rfl) (ev1 rfl)) ?_
  refine zae ?_
  refine dwp_if_f rfl (by rw [h0]; rfl) ?_
  refine zak ?_
  refine zaf ?_
  refine zai 2 (by simp only [holes, List.cons_append, List.nil_append]; exact rfl) ?_
  refine zad ?_
  refine zab rfl rfl rfl (zac (.inl rfl) (ev1 rfl)) ?_
  refine zab rfl rfl rfl (op_ldw rfl tb34 (ev1 rfl) rfl rfl) ?_
  refine zab rfl rfl rfl (zac (.inl rfl) (ev1 rfl)) ?_
  refine zaj rfl rfl rfl (zah [] [] [2, 3] rfl (ev1 rfl) (ec (ev1 rfl) (ec (ev1 rfl) (ec (ev1 rfl) en))) rfl rfl (region_o w h ds ts hr hc hg p hp tol ht) rfl rfl rfl (by exact (wrc (sb_srx rfl rfl) (wrc rfl rfl))) rfl rfl) (by simp only [upd, zaa, za]; exact rfl) ?_
  refine zab rfl rfl rfl (zac (.inr rfl) (ev1 rfl)) ?_
  refine zae ?_
  refine zaf ?_
  refine zaf ?_
  refine zad ?_
  refine zab rfl rfl rfl (zac (.inl rfl) (ev1 rfl)) ?_
  refine zab rfl rfl rfl (op_ldw rfl tb34 (ev1 rfl) rfl rfl) ?_
  refine zaj rfl rfl rfl (zah [2, 3] [] [] rfl (ev1 rfl) (ec (ev1 rfl) (ec (ev1 rfl) en)) rfl (by exact mfits _ _ ⟨zap rfl rfl rfl, rfl, trivial⟩) (has_s w h ds (rgF w h ts tol p) _ [] u hui) rfl rfl rfl (by exact (wrc (sb_srx rfl rfl) (wrc rfl rfl))) rfl rfl) (by simp only [upd, zaa, za]; exact rfl) ?_
  refine zab rfl rfl rfl (op_not rfl (ev1 rfl)) ?_
  refine zae ?_
  refine dwp_if_f rfl (by rw [hh]; rfl) ?_
  refine zak ?_
  refine zaf ?_
  refine zad ?_
  refine zab rfl rfl rfl (zac (.inl rfl) (ev1 rfl)) ?_
  refine zab rfl rfl rfl (op_ldw rfl tb34 (ev1 rfl) rfl rfl) ?_
  refine zaj rfl rfl rfl (zah [2, 3] [] [] rfl (ev1 rfl) (ec (ev1 rfl) (ec (ev1 rfl) en)) rfl (by exact mfits _ _ ⟨zap rfl rfl rfl, rfl, trivial⟩) (steps_s w h ds (rgF w h ts tol p) _ [] u hui hat) rfl rfl rfl (by exact (wrc (sb_srx rfl rfl) (wrc rfl rfl))) rfl rfl) (by simp only [upd, zaa, za]; exact rfl) ?_
  refine zab rfl rfl rfl (zac (.inr rfl) (ev1 rfl)) ?_
  refine zab rfl rfl rfl (zac (.inr rfl) (ev1 rfl)) ?_
  refine zae ?_
  refine zao ?_
  refine kend0 (rs2 rfl (rv_t rfl) (rv_t rfl)) rfl ?_
  rfl
set_option maxRecDepth 4000 in
set_option maxHeartbeats 1000000 in
theorem steps_no (w h : Int) (ds : List D) (ts : List TL) (hr : RowOk ds ts) (hc : CvOk w h ts) (hg : tsRng ts) (p u : P2) (tol : Int) (h0 : (refE w h [tol] [p, u]) = 0) (hh : (rgF w h ts tol p).has u = false) : DFun Try.prog 28 [cvD w h ds, .val (.agg #[.int .i64 p.x, .int .i64 p.y]), .val (.agg #[.int .i64 u.x, .int .i64 u.y]), .val (.int .i64 tol)] [] (.tup [.val (.int .i64 0), .val (.int .i64 4)]) [] := by
  obtain ⟨⟨ht, ht2⟩, hp, hu⟩ := refE_two h0
  have hui := onP_in hc.may u hu
  refine zan (N := 33) 0 (by kernel_rfl) Try.func28 rfl rfl rfl (by simp only [fr0, Nat.zero_add, Nat.reduceAdd]; exact rfl) rfl fun s0 hs0 => ?_
  refine zaf ?_
  refine zai 2 (by simp only [holes, List.cons_append, List.nil_append]; exact rfl) ?_
  refine zad ?_
  refine zaj rfl rfl rfl (op_boxa 0 rfl (ev1 rfl) rfl) (by simp only [upd, zaa, za]; exact rfl) ?_
  refine zaj rfl rfl rfl (op_boxa 1 rfl (ev1 rfl) rfl) (by simp only [upd, zaa, za]; exact rfl) ?_
  refine zab rfl rfl rfl (zac (.inr rfl) (ev1 rfl)) ?_
  refine zab rfl rfl rfl (zac (.inr rfl) (ev1 rfl)) ?_
  refine zae ?_
  refine zaf ?_
  refine zaf ?_
  refine zad ?_
  refine zab rfl rfl rfl (zac (.inl rfl) (ev1 rfl)) ?_
  refine zab rfl rfl rfl (zac (.inl rfl) (ev1 rfl)) ?_
  refine zab rfl rfl rfl (op_bs (ps := [(0, .tmp 13)]) rfl sl55 zr3 rfl (vc (ev1 rfl) vn) rfl (by decide) (by decide)) ?_
  refine zab rfl rfl rfl (op_ldw rfl tb34 (ev1 rfl) rfl rfl) ?_
  refine zab rfl rfl rfl (op_ldw rfl tb34 (ev1 rfl) rfl rfl) ?_
  refine zab rfl rfl rfl (op_bs (ps := [(0, .tmp 15), (1, .tmp 16)]) rfl sl64 zr34 rfl (vc (ev1 rfl) (vc (ev1 rfl) vn)) rfl (by decide) (by decide)) ?_
  refine zab rfl rfl rfl (zah [] [] [] rfl (ev1 rfl) (ec (ev1 rfl) (ec (ev1 rfl) (ec (ev1 rfl) en))) rfl rfl (refuse_d w h ds ts hr hc [tol] [p, u]) rfl rfl rfl rfl rfl rfl) ?_
  refine zab rfl rfl rfl (zac (.inr rfl) (ev1 rfl)) ?_
  refine zae ?_
  refine zaf ?_
  refine zad ?_
  refine zab rfl rfl rfl (zac (.inl rfl) (ev1 rfl)) ?_
  refine zab rfl rfl rfl (op_neq rfl (ev1 rfl) (ev1 rfl)) ?_
  refine zae ?_
  refine dwp_if_f rfl (by rw [h0]; rfl) ?_
  refine zak ?_
  refine zaf ?_
  refine zai 2 (by simp only [holes, List.cons_append, List.nil_append]; exact rfl) ?_
  refine zad ?_
  refine zab rfl rfl rfl (zac (.inl rfl) (ev1 rfl)) ?_
  refine zab rfl rfl rfl (op_ldw rfl tb34 (ev1 rfl) rfl rfl) ?_
  refine zab rfl rfl rfl (zac (.inl rfl) (ev1 rfl)) ?_
  refine zaj rfl rfl rfl (zah [] [] [2, 3] rfl (ev1 rfl) (ec (ev1 rfl) (ec (ev1 rfl) (ec (ev1 rfl) en))) rfl rfl (region_o w h ds ts hr hc hg p hp tol ht) rfl rfl rfl (by exact (wrc (sb_srx rfl rfl) (wrc rfl rfl))) rfl rfl) (by simp only [upd, zaa, za]; exact rfl) ?_
  refine zab rfl rfl rfl (zac (.inr rfl) (ev1 rfl)) ?_
  refine zae ?_
  refine zaf ?_
  refine zaf ?_
  refine zad ?_
  refine zab rfl rfl rfl (zac (.inl rfl) (ev1 rfl)) ?_
  refine zab rfl rfl rfl (op_ldw rfl tb34 (ev1 rfl) rfl rfl) ?_
  refine zaj rfl rfl rfl (zah [2, 3] [] [] rfl (ev1 rfl) (ec (ev1 rfl) (ec (ev1 rfl) en)) rfl (by exact mfits _ _ ⟨zap rfl rfl rfl, rfl, trivial⟩) (has_s w h ds (rgF w h ts tol p) _ [] u hui) rfl rfl rfl (by exact (wrc (sb_srx rfl rfl) (wrc rfl rfl))) rfl rfl) (by simp only [upd, zaa, za]; exact rfl) ?_
  refine zab rfl rfl rfl (op_not rfl (ev1 rfl)) ?_
  refine zae ?_
  refine dwp_if_t rfl (by rw [hh]; rfl) ?_
  refine zaf ?_
  refine zad ?_
  refine zab rfl rfl rfl (zac (.inr rfl) (ev1 rfl)) ?_
  refine zab rfl rfl rfl (zac (.inr rfl) (ev1 rfl)) ?_
  refine zae ?_
  refine zao ?_
  refine kend0 (rs2 rfl (rv_t rfl) (rv_t rfl)) rfl ?_
  rfl
end Go.Proofs.Ytfnhckildfbikaa
namespace Go.Proofs.Ytfnhckildfbikaa
set_option maxRecDepth 4000
set_option linter.unusedVariables false
set_option linter.unusedSimpArgs false
open Go.RowKit
attribute [local irreducible] zFD srL goF bfsF
attribute [local irreducible] spF spN prK
set_option maxRecDepth 4000 in
set_option maxHeartbeats 1000000 in
theorem par1_y (w h : Int) (ds : List D) (ts : List TL) (hr : RowOk ds ts) (hc : CvOk w h ts) (hg : tsRng ts) (p : P2) (hp : onS w h p.x p.y = true) (tol : Int) (ht : 0 ≤ tol) (f : FD) (k : Nat) (l : List P2) (hl : l.length ≤ 5000) (hh : f.has p = true) : DFun Try.prog 51 [.farr 5 l.length, .val (.agg #[.int .i64 p.x, .int .i64 p.y]), .loc 2 0, .loc 3 0, .loc 4 0] [.mix 134 (srL (cvD w h ds) (f).l (.farr 1 (k))), .fam (fmQ (k) (([] : List P2))), .mix 84 [.loc 0 0], .mix 29 [cvD w h ds], .flat 3 [.int .i64 tol], .fam (fmP (l))] (.farr 5 l.length) [.mix 134 (srL (cvD w h ds) (f).l (.farr 1 (k))), .fam (fmQ (k) (([] : List P2))), .mix 84 [.loc 0 0], .mix 29 [cvD w h ds], .flat 3 [.int .i64 tol], .fam (fmP (l))] := by
  have hpi := onP_in hc.may p hp
  refine zan (N := 23) 6 (by kernel_rfl) Try.func51 rfl rfl rfl (by simp only [fr0, Nat.zero_add, Nat.reduceAdd]; exact rfl) rfl fun s0 hs0 => ?_
  refine zaf ?_
  refine zai 1 (by simp only [holes, List.cons_append, List.nil_append]; exact rfl) ?_
  refine zad ?_
  refine zaj rfl rfl rfl (op_boxa 6 rfl (ev1 rfl) rfl) (by simp only [upd, zaa, za]; exact rfl) ?_
  refine zab rfl rfl rfl (zac (.inr rfl) (ev1 rfl)) ?_
  refine zae ?_
  refine zaf ?_
  refine zaf ?_
  refine zad ?_
  refine zab rfl rfl rfl (op_ldm rfl tb84 (ev1 rfl) rfl rfl) ?_
  refine zab rfl rfl rfl (op_ldw rfl tb34 (ev1 rfl) rfl rfl) ?_
  refine zaj rfl rfl rfl (zah [0, 1] [] [] rfl (ev1 rfl) (ec (ev1 rfl) (ec (ev1 rfl) en)) rfl (by exact mfits _ _ ⟨zap rfl rfl rfl, rfl, trivial⟩) (has_s w h ds f k [] p hpi) rfl rfl rfl (by exact (wrc (sb_srx rfl rfl) (wrc rfl rfl))) rfl rfl) (by simp only [upd, zaa, za]; exact rfl) ?_
  refine zae ?_
  refine dwp_if_t rfl (by rw [hh]) ?_
  refine zaf ?_
  refine zad ?_
  refine zab rfl rfl rfl (zac (.inl rfl) (ev1 rfl)) ?_
  refine zab rfl rfl rfl (zac (.inr rfl) (ev1 rfl)) ?_
  refine zae ?_
  refine zao ?_
  refine kend [0, 1, 2, 3, 4, 5] (rs1 rfl (rv_t rfl)) rfl rfl ?_ ⟨zap rfl rfl rfl, rfl, rfl, rfl, rfl, rfl, trivial⟩
  rfl
set_option maxRecDepth 4000 in
set_option maxHeartbeats 1000000 in
theorem par1_n (w h : Int) (ds : List D) (ts : List TL) (hr : RowOk ds ts) (hc : CvOk w h ts) (hg : tsRng ts) (p : P2) (hp : onS w h p.x p.y = true) (tol : Int) (ht : 0 ≤ tol) (f : FD) (k : Nat) (l : List P2) (hl : l.length ≤ 5000) (hh : f.has p = false) : DFun Try.prog 51 [.farr 5 l.length, .val (.agg #[.int .i64 p.x, .int .i64 p.y]), .loc 2 0, .loc 3 0, .loc 4 0] [.mix 134 (srL (cvD w h ds) (f).l (.farr 1 (k))), .fam (fmQ (k) (([] : List P2))), .mix 84 [.loc 0 0], .mix 29 [cvD w h ds], .flat 3 [.int .i64 tol], .fam (fmP (l))] (.farr 5 (l ++ [p]).length) [.mix 134 (srL (cvD w h ds) ((spF (onP w h) (nearP w ts tol (getC w ts p.x p.y)) f p)).l (.farr 1 ((spN (onP w h) (nearP w ts tol (getC w ts p.x p.y)) k f p)))), .fam (fmQ ((spN (onP w h) (nearP w ts tol (getC w ts p.x p.y)) k f p)) (([] : List P2))), .mix 84 [.loc 0 0], .mix 29 [cvD w h ds], .flat 3 [.int .i64 tol], .fam (fmP (l ++ [p]))] := by
  have hpi := onP_in hc.may p hp
  have h0 := hasF_no hh
  refine zan (N := 23) 6 (by kernel_rfl) Try.func51 rfl rfl rfl (by simp only [fr0, Nat.zero_add, Nat.reduceAdd]; exact rfl) rfl fun s0 hs0 => ?_
  refine zaf ?_
  refine zai 1 (by simp only [holes, List.cons_append, List.nil_append]; exact rfl) ?_
  refine zad ?_
  refine zaj rfl rfl rfl (op_boxa 6 rfl (ev1 rfl) rfl) (by simp only [upd, zaa, za]; exact rfl) ?_
  refine zab rfl rfl rfl (zac (.inr rfl) (ev1 rfl)) ?_
  refine zae ?_
  refine zaf ?_
  refine zaf ?_
  refine zad ?_
  refine zab rfl rfl rfl (op_ldm rfl tb84 (ev1 rfl) rfl rfl) ?_
  refine zab rfl rfl rfl (op_ldw rfl tb34 (ev1 rfl) rfl rfl) ?_
  refine zaj rfl rfl rfl (zah [0, 1] [] [] rfl (ev1 rfl) (ec (ev1 rfl) (ec (ev1 rfl) en)) rfl (by exact mfits _ _ ⟨zap rfl rfl rfl, rfl, trivial⟩) (has_s w h ds f k [] p hpi) rfl rfl rfl (by exact (wrc (sb_srx rfl rfl) (wrc rfl rfl))) rfl rfl) (by simp only [upd, zaa, za]; exact rfl) ?_
  refine zae ?_
  refine dwp_if_f rfl (by rw [hh]) ?_
  refine zak ?_
  refine zaf ?_
  refine zai 3 (by simp only [holes, List.cons_append, List.nil_append]; exact rfl) ?_
  refine dwp_draw [([2], []), ([6], []), ([3], []), ([6], []), ([4], []), ([7, 8, 9], [7, 8, 9]), ([0, 1, 7, 8, 9], [0, 1, 7, 8, 9])] mixed (by kernel_rfl) ?_
  refine zag rfl rfl (op_ldm rfl tb84 (ev1 rfl) rfl rfl) ?_
  refine zag rfl rfl (op_ldw rfl tb34 (ev1 rfl) rfl rfl) ?_
  refine zag rfl rfl (op_ldm rfl tb29 (ev1 rfl) rfl rfl) ?_
  refine zag rfl rfl (op_ldw rfl tb34 (ev1 rfl) rfl rfl) ?_
  refine zag rfl rfl (zam rfl tb3 (ev1 rfl) rfl rfl) ?_
  refine lex_w rfl rfl (zah [] [] [7, 8, 9] rfl (ev1 rfl) (ec (ev1 rfl) (ec (ev1 rfl) (ec (ev1 rfl) en))) rfl rfl (like_d w h ds ts hr hc hg p tol hp) rfl rfl rfl rfl rfl rfl) rfl (by simp only [upd, zaa, za]; exact rfl) ?_
  refine lex_w rfl rfl (zah [0, 1, 7, 8, 9] [] [] rfl (ev1 rfl) (ec (ev1 rfl) (ec (ev1 rfl) (ec (ev1 rfl) en))) rfl (by exact mfits _ _ ⟨zap rfl rfl rfl, rfl, rfl, rfl, rfl, trivial⟩) (spread_d w h ds ts hr hc hg p hp (getC w ts p.x p.y) (getC_rng hg _ _ _) tol ht f k h0) rfl rfl rfl (by exact (wrc (sb_srx rfl rfl) (wrc rfl (wrc rfl (wrc rfl (wrc rfl rfl)))))) rfl rfl) rfl (by simp only [upd, zaa, za]; exact rfl) ?_
  refine lex_nil ?_
  refine zaf ?_
  refine zai 2 (by simp only [holes, List.cons_append, List.nil_append]; exact rfl) ?_
  refine zad ?_
  refine zab rfl rfl rfl (zac (.inl rfl) (ev1 rfl)) ?_
  refine zab rfl rfl rfl (op_ldw rfl tb34 (ev1 rfl) rfl rfl) ?_
  refine zab rfl rfl rfl (op_bs (ps := [(0, .tmp 20)]) rfl sl64 zr34 rfl (vc (ev1 rfl) vn) rfl (by decide) (by decide)) ?_
  refine zaj rfl rfl rfl (op_appF (j1 := 10) (j2 := 11) rfl rfl sl64 zr34 rfl (ev1 rfl) (ev1 rfl) rfl (fmP_at l) rfl rfl rfl (fun _ => rfl) (fun _ => ⟨by omega, by omega⟩)) (by simp only [upd, zaa, za]; exact rfl) ?_
  refine zab rfl rfl rfl (zac (.inr rfl) (ev1 rfl)) ?_
  refine zae ?_
  refine zao ?_
  refine kend [0, 1, 2, 3, 4, 5] (rs1 rfl (rv_t rfl)) rfl rfl ?_ ⟨zap rfl rfl rfl, rfl, rfl, rfl, rfl, congrArg (fun B => some (Blk.fam B)) (fmP_add l p), trivial⟩
  rw [fmP_len, List.length_append]
  rfl
set_option maxRecDepth 4000 in
set_option maxHeartbeats 1000000 in
theorem gatP_d (w h : Int) (ds : List D) (ts : List TL) (hr : RowOk ds ts) (hc : CvOk w h ts) (hg : tsRng ts) (tol : Int) (ht : 0 ≤ tol) : DFun Try.prog 40 [.loc 0 0, .fn (.func 51) [] [.loc 2 0, .loc 3 0, .loc 4 0]] [.mix 134 (srL (cvD w h ds) (zFD).l (.farr 1 (0))), .fam (fmQ (0) (([] : List P2))), .mix 84 [.loc 0 0], .mix 29 [cvD w h ds], .flat 3 [.int .i64 tol]] (.slf 2 ((prK w h ts tol ((h * 8).toNat * (w * 8).toNat)).2.2).length (((prK w h ts tol ((h * 8).toNat * (w * 8).toNat)).2.2).flatMap p2)) [.mix 134 (srL (cvD w h ds) ((prK w h ts tol ((h * 8).toNat * (w * 8).toNat)).1).l (.farr 1 ((prK w h ts tol ((h * 8).toNat * (w * 8).toNat)).2.1))), .fam (fmQ ((prK w h ts tol ((h * 8).toNat * (w * 8).toNat)).2.1) (([] : List P2))), .mix 84 [.loc 0 0], .mix 29 [cvD w h ds], .flat 3 [.int .i64 tol]] := by
  have hb := mayS_b hc.may
  have hW : ((w * 8).toNat : Int) = w * 8 := by omega
  have hH : ((h * 8).toNat : Int) = h * 8 := by omega
  have hWH : (h * 8).toNat * (w * 8).toNat ≤ 32 * 32 := Nat.mul_le_mul (by omega) (by omega)
  refine zan (N := 35) 5 (by kernel_rfl) Try.func40 rfl rfl rfl (by simp only [fr0, Nat.zero_add, Nat.reduceAdd]; exact rfl) rfl fun s0 hs0 => ?_
  refine zaf ?_
  refine zad ?_
  refine zab rfl rfl rfl (zac (.inr rfl) (ev1 rfl)) ?_
  refine zae ?_
  refine zaf ?_
  refine zad ?_
  refine zab rfl rfl rfl (zac (.inr rfl) (ev1 rfl)) ?_
  refine zae ?_
  refine zaf ?_
  refine dwp_adopt (m := 5) 5 34 2 rfl rfl rfl ?_
  refine dwp_hole ?_
  refine dwp_fam 6 rfl (by simp only [List.cons_append, List.nil_append, zaa, za]; exact rfl) ?_
  refine zad ?_
  refine zab rfl rfl rfl (zac (.inl rfl) (ev1 rfl)) ?_
  refine zab rfl rfl rfl (op_nc rfl (ev1 rfl) (fun s v h => by cases h; exact ⟨_, rfl⟩)) ?_
  refine zab rfl rfl rfl (op_fa rfl fo134_0 (ev1 rfl)) ?_
  refine zab rfl rfl rfl (op_ldm rfl tb29 (ev1 rfl) rfl (srL_0 rfl)) ?_
  refine zab rfl rfl rfl (zah [] [] [] rfl (ev1 rfl) (ec (ev1 rfl) en) rfl rfl (size_d w h ds ts hr hc) rfl rfl rfl rfl rfl rfl) ?_
  refine zab rfl rfl rfl (zac (.inl rfl) (ev1 rfl)) ?_
  refine zab rfl rfl rfl (op_ext rfl (ev1 rfl) rfl) ?_
  refine zab rfl rfl rfl (op_ext rfl (ev1 rfl) rfl) ?_
  refine zab rfl rfl rfl (zac (.inr rfl) (ev1 rfl)) ?_
  refine zab rfl rfl rfl (zac (.inr rfl) (ev1 rfl)) ?_
  refine zae ?_
  refine zaf ?_
  refine zaf ?_
  refine dwp_abs 5 6 rfl rfl rfl (by simp only [zaa, za]; exact rfl) ?_
  refine zad ?_
  refine zab rfl rfl rfl (zac (.inl rfl) (ev1 rfl)) ?_
  refine zab rfl rfl rfl (zac (.inl rfl) (ev1 rfl)) ?_
  refine zae ?_
  refine zal ?_
  refine dwp_loopS ⟨hs0, rfl⟩ (α := Nat) (fun y => [(5, .farr 6 (prK w h ts tol (y * (w * 8).toNat)).2.2.length), (19, .val (.int .i64 (y : Int)))]) [(1, _), (6, _), (18, _)] (fun y => [(0, .mix 134 (srL (cvD w h ds) ((prK w h ts tol (y * (w * 8).toNat)).1).l (.farr 1 ((prK w h ts tol (y * (w * 8).toNat)).2.1)))), (1, .fam (fmQ ((prK w h ts tol (y * (w * 8).toNat)).2.1) (([] : List P2)))), (6, .fam (fmP ((prK w h ts tol (y * (w * 8).toNat)).2.2)))]) [.hole, .hole, _, _, _, _, .hole] (fun y => y ≤ (h * 8).toNat) (fun y => (h * 8).toNat - y) 0 [0, 1, 2, 3, 4, 5, 6] (Nat.zero_le _) rfl ⟨rfl, rfl, rfl, trivial⟩ ⟨by rw [Nat.zero_mul, prK_zero]; rfl, rfl, trivial⟩ ⟨zap (by rw [Nat.zero_mul, prK_zero]) rfl (by rw [Nat.zero_mul, prK_zero]; rfl), by rw [Nat.zero_mul, prK_zero]; rfl, rfl, rfl, rfl, rfl, by rw [Nat.zero_mul, prK_zero]; rfl, trivial⟩ ?_
  intro y hx
  simp only [upd, zaa, za, List.cons_append, List.nil_append]
  have hy0 := hx
  have hyW : y * (w * 8).toNat ≤ (h * 8).toNat * (w * 8).toNat := Nat.mul_le_mul_right _ hy0
  refine zaf ?_
  refine zad ?_
  refine zab rfl rfl rfl (op_lss rfl (ev1 rfl) (ev1 rfl)) ?_
  refine zae ?_
  refine zaf ?_
  refine dwp_cond rfl (fun c1 => ?_) (fun c1 => ?_)
  · try simp only [decide_eq_true_eq, decide_eq_false_iff_not, beq_iff_eq, bne_iff_ne, beq_eq_false_iff_ne, bne_eq_false_iff_eq, Bool.not_eq_true', Bool.not_eq_false', Bool.and_eq_true, Bool.or_eq_true, Bool.or_eq_false_iff, ne_eq, Decidable.not_not, Int.not_lt, Int.not_le] at c1
    refine zak ?_
    refine zaf ?_
    refine zal ?_
    refine zaf ?_
    refine zad ?_
    refine zab rfl rfl rfl (zac (.inl rfl) (ev1 rfl)) ?_
    refine zab rfl rfl rfl (zac (.inr rfl) (ev1 rfl)) ?_
    refine zae ?_
    refine zaf ?_
    refine zad ?_
    refine zab rfl rfl rfl (zac (.inl rfl) (ev1 rfl)) ?_
    refine zab rfl rfl rfl (zac (.inl rfl) (ev1 rfl)) ?_
    refine zae ?_
    refine zal ?_
    refine dwp_loopS ⟨hs0, rfl⟩ (α := Nat) (fun x => [(5, .farr 6 (prK w h ts tol (y * (w * 8).toNat + x)).2.2.length), (23, .val (.int .i64 (x : Int)))]) [(1, _), (6, _), (8, _), (18, _), (19, _), (22, _)] (fun x => [(0, .mix 134 (srL (cvD w h ds) ((prK w h ts tol (y * (w * 8).toNat + x)).1).l (.farr 1 ((prK w h ts tol (y * (w * 8).toNat + x)).2.1)))), (1, .fam (fmQ ((prK w h ts tol (y * (w * 8).toNat + x)).2.1) (([] : List P2)))), (6, .fam (fmP ((prK w h ts tol (y * (w * 8).toNat + x)).2.2)))]) [.hole, .hole, _, _, _, _, .hole] (fun x => x ≤ (w * 8).toNat) (fun x => (w * 8).toNat - x) 0 [0, 1, 2, 3, 4, 5, 6] (Nat.zero_le _) rfl ⟨rfl, rfl, rfl, rfl, rfl, rfl, trivial⟩ ⟨by rw [Nat.add_zero]; rfl, rfl, trivial⟩ ⟨zap (by rw [Nat.add_zero]) rfl (by rw [Nat.add_zero]; rfl), by rw [Nat.add_zero]; rfl, rfl, rfl, rfl, rfl, by rw [Nat.add_zero]; rfl, trivial⟩ ?_
    intro x hx
    simp only [upd, zaa, za, List.cons_append, List.nil_append]
    have hx0 := hx
    have hpl := prK_len w h ts tol (y * (w * 8).toNat + x)
    refine zaf ?_
    refine zad ?_
    refine zab rfl rfl rfl (op_lss rfl (ev1 rfl) (ev1 rfl)) ?_
    refine zae ?_
    refine zaf ?_
    refine dwp_cond rfl (fun c2 => ?_) (fun c2 => ?_)
    · try simp only [decide_eq_true_eq, decide_eq_false_iff_not, beq_iff_eq, bne_iff_ne, beq_eq_false_iff_ne, bne_eq_false_iff_eq, Bool.not_eq_true', Bool.not_eq_false', Bool.and_eq_true, Bool.or_eq_true, Bool.or_eq_false_iff, ne_eq, Decidable.not_not, Int.not_lt, Int.not_le] at c2
      refine zak ?_
      refine zaf ?_
      refine zal ?_
      refine zaf ?_
      refine zad ?_
      refine zab rfl rfl rfl (zac (.inl rfl) (ev1 rfl)) ?_
      refine zab rfl rfl rfl (zac (.inr rfl) (ev1 rfl)) ?_
      refine zae ?_
      by_cases hh : (prK w h ts tol (y * (w * 8).toNat + x)).1.has (atN x y) = true
      · have hxW : x < (w * 8).toNat := by omega
        have hyH : y < (h * 8).toNat := by omega
        have hyW2 : (y + 1) * (w * 8).toNat ≤ (h * 8).toNat * (w * 8).toNat := Nat.mul_le_mul_right _ hyH
        rw [Nat.succ_mul] at hyW2
        have hpi : inF32 (atN x y) := by unfold inF32 atN; simp only; omega
        have hpo : onS w h (atN x y).x (atN x y).y = true := onS_iff.2 ⟨by show (0 : Int) ≤ (x : Int) ∧ (x : Int) < w * 8; omega, by show (0 : Int) ≤ (y : Int) ∧ (y : Int) < h * 8; omega⟩
        refine zad ?_
        refine zab rfl rfl rfl (zac (.inl rfl) (ev1 rfl)) ?_
        refine zab rfl rfl rfl (zac (.inl rfl) (ev1 rfl)) ?_
        refine zab rfl rfl rfl (zac (.inl rfl) (ev1 rfl)) ?_
        refine zab rfl rfl rfl (zac (.inl rfl) (ev1 rfl)) ?_
        refine zab rfl rfl rfl (op_build (ps := [(0, .tmp 28), (1, .tmp 29)]) rfl fl34 zr34 (vc (ev1 rfl) (vc (ev1 rfl) vn)) rfl rfl) ?_
        refine zaj rfl rfl rfl (zah [0, 1, 2, 3, 4, 6] [] [] rfl (ev1 rfl) (ec (ev1 rfl) (ec (ev1 rfl) en)) rfl (by exact mfits _ _ ⟨zap rfl rfl rfl, rfl, rfl, rfl, rfl, rfl, trivial⟩) (par1_y w h ds ts hr hc hg (atN x y) hpo tol ht _ _ _ (by omega) hh) rfl rfl rfl (by exact (wrc (sb_srx rfl rfl) (wrc rfl (wrc rfl (wrc rfl (wrc rfl (wrc rfl rfl))))))) rfl rfl) (by simp only [upd, zaa, za]; exact rfl) ?_
        refine zab rfl rfl rfl (zac (.inr rfl) (ev1 rfl)) ?_
        refine zae ?_
        refine zad ?_
        refine zab rfl rfl rfl (op_add' rfl (ev1 rfl) (ev1 rfl) (fun _ => IntWalk.i64_in _ (by omega))) ?_
        refine zab rfl rfl rfl (zac (.inl rfl) (ev1 rfl)) ?_
        refine zae ?_
        refine ⟨x + 1, [0, 1, 2, 3, 4, 5, 6], by omega, by simp only []; omega, rfl, ⟨by rw [prK_add hxW, prV_yes hh]; rfl, rfl, rfl, rfl, rfl, rfl, rfl, rfl, trivial⟩, ⟨zap (by rw [prK_add hxW, prV_yes hh]) rfl (by rw [prK_add hxW, prV_yes hh]; rfl), by rw [prK_add hxW, prV_yes hh]; rfl, rfl, rfl, rfl, rfl, by rw [prK_add hxW, prV_yes hh]; rfl, trivial⟩⟩
      · have hh : (prK w h ts tol (y * (w * 8).toNat + x)).1.has (atN x y) = false := by simpa using hh
        have hxW : x < (w * 8).toNat := by omega
        have hyH : y < (h * 8).toNat := by omega
        have hyW2 : (y + 1) * (w * 8).toNat ≤ (h * 8).toNat * (w * 8).toNat := Nat.mul_le_mul_right _ hyH
        rw [Nat.succ_mul] at hyW2
        have hpi : inF32 (atN x y) := by unfold inF32 atN; simp only; omega
        have hpo : onS w h (atN x y).x (atN x y).y = true := onS_iff.2 ⟨by show (0 : Int) ≤ (x : Int) ∧ (x : Int) < w * 8; omega, by show (0 : Int) ≤ (y : Int) ∧ (y : Int) < h * 8; omega⟩
        refine zad ?_
        refine zab rfl rfl rfl (zac (.inl rfl) (ev1 rfl)) ?_
        refine zab rfl rfl rfl (zac (.inl rfl) (ev1 rfl)) ?_
        refine zab rfl rfl rfl (zac (.inl rfl) (ev1 rfl)) ?_
        refine zab rfl rfl rfl (zac (.inl rfl) (ev1 rfl)) ?_
        refine zab rfl rfl rfl (op_build (ps := [(0, .tmp 28), (1, .tmp 29)]) rfl fl34 zr34 (vc (ev1 rfl) (vc (ev1 rfl) vn)) rfl rfl) ?_
        refine zaj rfl rfl rfl (zah [0, 1, 2, 3, 4, 6] [] [] rfl (ev1 rfl) (ec (ev1 rfl) (ec (ev1 rfl) en)) rfl (by exact mfits _ _ ⟨zap rfl rfl rfl, rfl, rfl, rfl, rfl, rfl, trivial⟩) (par1_n w h ds ts hr hc hg (atN x y) hpo tol ht _ _ _ (by omega) hh) rfl rfl rfl (by exact (wrc (sb_srx rfl rfl) (wrc rfl (wrc rfl (wrc rfl (wrc rfl (wrc rfl rfl))))))) rfl rfl) (by simp only [upd, zaa, za]; exact rfl) ?_
        refine zab rfl rfl rfl (zac (.inr rfl) (ev1 rfl)) ?_
        refine zae ?_
        refine zad ?_
        refine zab rfl rfl rfl (op_add' rfl (ev1 rfl) (ev1 rfl) (fun _ => IntWalk.i64_in _ (by omega))) ?_
        refine zab rfl rfl rfl (zac (.inl rfl) (ev1 rfl)) ?_
        refine zae ?_
        refine ⟨x + 1, [0, 1, 2, 3, 4, 5, 6], by omega, by simp only []; omega, rfl, ⟨by rw [prK_add hxW, prV_no hh]; rfl, rfl, rfl, rfl, rfl, rfl, rfl, rfl, trivial⟩, ⟨zap (by rw [prK_add hxW, prV_no hh]) rfl (by rw [prK_add hxW, prV_no hh]; rfl), by rw [prK_add hxW, prV_no hh]; rfl, rfl, rfl, rfl, rfl, by rw [prK_add hxW, prV_no hh]; rfl, trivial⟩⟩
    · try simp only [decide_eq_true_eq, decide_eq_false_iff_not, beq_iff_eq, bne_iff_ne, beq_eq_false_iff_ne, bne_eq_false_iff_eq, Bool.not_eq_true', Bool.not_eq_false', Bool.and_eq_true, Bool.or_eq_true, Bool.or_eq_false_iff, ne_eq, Decidable.not_not, Int.not_lt, Int.not_le] at c2
      refine dwp_exit ?_
      refine zad ?_
      refine zab rfl rfl rfl (op_add' rfl (ev1 rfl) (ev1 rfl) (fun _ => IntWalk.i64_in _ (by omega))) ?_
      refine zab rfl rfl rfl (zac (.inl rfl) (ev1 rfl)) ?_
      refine zae ?_
      obtain rfl : x = (w * 8).toNat := by omega
      refine ⟨y + 1, [0, 1, 2, 3, 4, 5, 6], by omega, by simp only []; omega, rfl, ⟨by rw [Nat.succ_mul]; rfl, rfl, rfl, rfl, rfl, trivial⟩, ⟨zap (by rw [Nat.succ_mul]) rfl (by rw [Nat.succ_mul]; rfl), by rw [Nat.succ_mul]; rfl, rfl, rfl, rfl, rfl, by rw [Nat.succ_mul]; rfl, trivial⟩⟩
  · try simp only [decide_eq_true_eq, decide_eq_false_iff_not, beq_iff_eq, bne_iff_ne, beq_eq_false_iff_ne, bne_eq_false_iff_eq, Bool.not_eq_true', Bool.not_eq_false', Bool.and_eq_true, Bool.or_eq_true, Bool.or_eq_false_iff, ne_eq, Decidable.not_not, Int.not_lt, Int.not_le] at c1
    refine dwp_exit ?_
    refine zaf ?_
    refine zad ?_
    refine zab rfl rfl rfl (zac (.inl rfl) (ev1 rfl)) ?_
    refine zab rfl rfl rfl (zac (.inr rfl) (ev1 rfl)) ?_
    refine zae ?_
    refine dwp_hole ?_
    refine dwp_rel 4 6 (j := 7) rfl rfl (fmP_at _) rfl (by simp only [List.cons_append, List.nil_append, zaa, za]; exact rfl) ?_
    refine dwp_giveA 4 rfl rfl (by simp only [List.cons_append, List.nil_append, zaa, za]; exact rfl) ?_
    refine zao ?_
    obtain rfl : y = (h * 8).toNat := by omega
    refine kend [0, 1, 2, 3, 4] (rs1 rfl (rv_t rfl)) rfl rfl ?_ ⟨zap rfl rfl rfl, rfl, rfl, rfl, rfl, trivial⟩
    rfl
end Go.Proofs.Ytfnhckildfbikaa
namespace Go.Proofs.Ytfnhckildfbikaa
set_option maxRecDepth 4000
set_option linter.unusedVariables false
set_option linter.unusedSimpArgs false
open Go.RowKit
attribute [local irreducible] zFD srL goF bfsF
attribute [local irreducible] spF spN prK
def pcV (w h : Int) (ts : List TL) (t : Int) : Int := ((prN w h ts t : Nat) : Int)
theorem refE_nop {w h : Int} {l : List Int} (h0 : refE w h l [] = 0) : ∀ t ∈ l, 0 ≤ t ∧ t ≤ 1020 := by
  intro t ht
  refine badT_no ?_
  unfold refE at h0
  split at h0
  · omega
  · rename_i h1
    have := h1
    simp only [Bool.not_eq_true, List.any_eq_false] at this
    simpa using this t ht
theorem iv_add {f : Int → Int} {l : List Int} {i : Nat} (hi : i < l.length) : ((l.take i).map f).flatMap iV ++ [Value.int .i64 (f l[i])] = ((l.take (i + 1)).map f).flatMap iV := by
  rw [List.take_succ_eq_append_getElem hi, List.map_append, List.flatMap_append]
  rfl
set_option maxRecDepth 4000 in
set_option maxHeartbeats 1000000 in
theorem parts_d (w h : Int) (ds : List D) (ts : List TL) (hr : RowOk ds ts) (hc : CvOk w h ts) (hg : tsRng ts) (l : List Int) (h0 : (refE w h l []) = 0) (hl : l.length ≤ 5000) : DFun Try.prog 20 [cvD w h ds, .slf 1 l.length (l.flatMap iV)] [] (.tup [.slf 1 ((l).map (pcV w h ts)).length (((l).map (pcV w h ts)).flatMap iV), .val (.int .i64 0)]) [] := by
  have hall := refE_nop h0
  refine zan (N := 39) 0 (by kernel_rfl) Try.func20 rfl rfl rfl (by simp only [fr0, Nat.zero_add, Nat.reduceAdd]; exact rfl) rfl fun s0 hs0 => ?_
  refine dwp_len (t := 1) rfl fun hl1 hL1 => ?_
  refine zaf ?_
  refine zai 1 (by simp only [holes, List.cons_append, List.nil_append]; exact rfl) ?_
  refine zad ?_
  refine zaj rfl rfl rfl (op_boxm 0 rfl (ev1 rfl) (fun s v h => by cases h <;> rfl) rfl) (by simp only [upd, zaa, za]; exact rfl) ?_
  refine zab rfl rfl rfl (zac (.inr rfl) (ev1 rfl)) ?_
  refine zab rfl rfl rfl (zac (.inr rfl) (ev1 rfl)) ?_
  refine zae ?_
  refine zaf ?_
  refine zaf ?_
  refine zad ?_
  refine zab rfl rfl rfl (op_ldm rfl tb29 (ev1 rfl) rfl rfl) ?_
  refine zab rfl rfl rfl (zac (.inl rfl) (ev1 rfl)) ?_
  refine zab rfl rfl rfl (zah [] [] [] rfl (ev1 rfl) (ec (ev1 rfl) (ec (ev1 rfl) (ec (evnil 2 (ev1 rfl)) en))) rfl rfl (refuse_d w h ds ts hr hc l []) rfl rfl rfl rfl rfl rfl) ?_
  refine zab rfl rfl rfl (zac (.inr rfl) (ev1 rfl)) ?_
  refine zae ?_
  refine zaf ?_
  refine zad ?_
  refine zab rfl rfl rfl (zac (.inl rfl) (ev1 rfl)) ?_
  refine zab rfl rfl rfl (op_neq rfl (ev1 rfl) (ev1 rfl)) ?_
  refine zae ?_
  refine dwp_if_f rfl (by rw [h0]; rfl) ?_
  refine zak ?_
  refine zaf ?_
  refine zai 1 (by simp only [holes, List.cons_append, List.nil_append]; exact rfl) ?_
  refine zad ?_
  refine zab rfl rfl rfl (zac (.inl rfl) (ev1 rfl)) ?_
  refine zab rfl rfl rfl (op_len rfl sl55 (ev1 rfl)) ?_
  refine zaj rfl rfl rfl (op_mk0 1 (l.length) rfl sl55 zr3 (ev1 rfl) (ev1 rfl) (fun _ => rfl) (fun _ => by omega) rfl (fun _ => ⟨by omega, by omega⟩)) (by simp only [upd, zaa, za]; exact rfl) ?_
  refine zab rfl rfl rfl (zac (.inr rfl) (ev1 rfl)) ?_
  refine zae ?_
  refine zaf ?_
  refine zaf ?_
  refine zad ?_
  refine zab rfl rfl rfl (zac (.inl rfl) (ev1 rfl)) ?_
  refine zab rfl rfl rfl (op_len rfl sl55 (ev1 rfl)) ?_
  refine zab rfl rfl rfl (zac (.inl rfl) (ev1 rfl)) ?_
  refine zae ?_
  refine zal ?_
  refine dwp_loopS ⟨hs0, rfl⟩ (α := Nat) (fun i => [(23, .val (.int .i64 (i : Int)))]) [(2, _), (7, _), (21, _), (22, _)] (fun i => [(1, .arr 3 1 ((l.take i).map (pcV w h ts)).length (((l.take i).map (pcV w h ts)).flatMap iV))]) [_, .hole] (fun i => i ≤ l.length) (fun i => l.length - i) 0 [0, 1] (Nat.zero_le _) rfl ⟨rfl, rfl, rfl, rfl, trivial⟩ ⟨rfl, trivial⟩ ⟨rfl, rfl, trivial⟩ ?_
  intro i hx
  simp only [upd, zaa, za, List.cons_append, List.nil_append]
  have hi0 := hx
  refine zaf ?_
  refine zad ?_
  refine zab rfl rfl rfl (op_lss rfl (ev1 rfl) (ev1 rfl)) ?_
  refine zae ?_
  refine zaf ?_
  refine dwp_cond rfl (fun c2 => ?_) (fun c2 => ?_)
  · try simp only [decide_eq_true_eq, decide_eq_false_iff_not, beq_iff_eq, bne_iff_ne, beq_eq_false_iff_ne, bne_eq_false_iff_eq, Bool.not_eq_true', Bool.not_eq_false', Bool.and_eq_true, Bool.or_eq_true, Bool.or_eq_false_iff, ne_eq, Decidable.not_not, Int.not_lt, Int.not_le] at c2
    refine zak ?_
    refine zaf ?_
    refine zal ?_
    refine zaf ?_
    have hi : i < l.length := by omega
    have hml : ((l.take i).map (pcV w h ts)).length ≤ 5000 := by rw [List.length_map, List.length_take]; omega
    have ht := hall _ (List.getElem_mem hi)
    refine zai 1 (by simp only [holes, List.cons_append, List.nil_append]; exact rfl) ?_
    refine zad ?_
    refine zab rfl rfl rfl (op_ixsr (j := i) rfl sl55 (ev1 rfl) (ev1 rfl) (fun _ => rfl) (by decide) (by omega) (by omega)) ?_
    refine zab rfl rfl rfl (op_ldod rfl tb3 (ev1 rfl) rfl) ?_
    refine zaj rfl rfl rfl (op_alloc 2 rfl zr3 rfl) (by simp only [upd, zaa, za]; exact rfl) ?_
    refine walk_s rfl rfl (op_stwi rfl tb3 (ev1 rfl) (ev1 rfl) rfl) (by simp only [upd, zaa, za]; exact rfl) ?_
    refine zae ?_
    refine zaf ?_
    refine zai 3 (by simp only [holes, List.cons_append, List.nil_append]; exact rfl) ?_
    refine zad ?_
    refine zab rfl rfl rfl (op_ldm rfl tb29 (ev1 rfl) rfl rfl) ?_
    refine zaj rfl rfl rfl (zah [] [] [3, 4] rfl (ev1 rfl) (ec (ev1 rfl) en) rfl rfl (searchOf_d w h ds) rfl rfl rfl (by exact (wrc (sb_srx rfl rfl) (wrc rfl rfl))) rfl rfl) (by simp only [upd, zaa, za]; exact rfl) ?_
    refine zaj rfl rfl rfl (op_alloc 5 rfl zr84 rfl) (by simp only [upd, zaa, za]; exact rfl) ?_
    refine walk_s rfl rfl (op_stfm rfl tb84 (ev1 rfl) (ev1 rfl) (fun s v h => by cases h <;> exact ⟨rfl, rfl⟩) rfl (by decide)) (by simp only [upd, zaa, za]; exact rfl) ?_
    refine zae ?_
    refine zaf ?_
    refine zad ?_
    refine zab rfl rfl rfl (op_ldm rfl tb84 (ev1 rfl) rfl rfl) ?_
    refine zab rfl rfl rfl (op_mkf rfl en (ec (ev1 rfl) (ec (ev1 rfl) (ec (ev1 rfl) en)))) ?_
    refine zaj rfl rfl rfl (zah [3, 4, 5, 0, 2] [] [] rfl (ev1 rfl) (ec (ev1 rfl) (ec (ev1 rfl) en)) rfl (by exact mfits _ _ ⟨zap rfl rfl rfl, rfl, rfl, rfl, rfl, trivial⟩) (gatP_d w h ds ts hr hc hg l[i] ht.1) rfl rfl rfl (by exact (wrc (sb_srx rfl rfl) (wrc rfl (wrc rfl (wrc rfl (wrc rfl rfl)))))) rfl rfl) (by simp only [upd, zaa, za]; exact rfl) ?_
    refine zab rfl rfl rfl (zac (.inr rfl) (ev1 rfl)) ?_
    refine zae ?_
    refine zai 1 (by simp only [holes, List.cons_append, List.nil_append]; exact rfl) ?_
    refine zad ?_
    refine zab rfl rfl rfl (zac (.inl rfl) (ev1 rfl)) ?_
    refine zab rfl rfl rfl (zac (.inl rfl) (ev1 rfl)) ?_
    refine zab rfl rfl rfl ((op_len rfl sl64 (ev1 rfl)).cast (d' := .val (.int .i64 (pcV w h ts l[i]))) (by rfl)) ?_
    refine zab rfl rfl rfl (op_bs (ps := [(0, .tmp 34)]) rfl sl55 zr3 rfl (vc (ev1 rfl) vn) rfl (by decide) (by decide)) ?_
    refine zaj rfl rfl rfl (op_app (j := 6) rfl sl55 zr3 rfl (ev1 rfl) (ev1 rfl) src_slf rfl rfl (fun _ => rfl) (fun _ => ⟨by omega, by omega⟩)) (by simp only [upd, zaa, za]; exact rfl) ?_
    refine zab rfl rfl rfl (zac (.inr rfl) (ev1 rfl)) ?_
    refine zae ?_
    refine zad ?_
    refine zab rfl rfl rfl (op_add' rfl (ev1 rfl) (ev1 rfl) (fun _ => IntWalk.i64_in _ (by omega))) ?_
    refine zab rfl rfl rfl (zac (.inl rfl) (ev1 rfl)) ?_
    refine zae ?_
    refine ⟨i + 1, [0, 6], by omega, by simp only []; omega, rfl, ⟨rfl, rfl, rfl, rfl, rfl, trivial⟩, ⟨rfl, arr_eq (by simp; omega) (iv_add hi), trivial⟩⟩
  · try simp only [decide_eq_true_eq, decide_eq_false_iff_not, beq_iff_eq, bne_iff_ne, beq_eq_false_iff_ne, bne_eq_false_iff_eq, Bool.not_eq_true', Bool.not_eq_false', Bool.and_eq_true, Bool.or_eq_true, Bool.or_eq_false_iff, ne_eq, Decidable.not_not, Int.not_lt, Int.not_le] at c2
    refine dwp_exit ?_
    refine zaf ?_
    refine dwp_giveA 7 rfl rfl (by simp only [zaa, za]; exact rfl) ?_
    obtain rfl : i = l.length := by omega
    rw [List.take_length]
    refine zad ?_
    refine zab rfl rfl rfl (zac (.inl rfl) (ev1 rfl)) ?_
    refine zab rfl rfl rfl (zac (.inr rfl) (ev1 rfl)) ?_
    refine zab rfl rfl rfl (zac (.inr rfl) (ev1 rfl)) ?_
    refine zae ?_
    refine zao ?_
    refine kend0 (rs2 rfl (rv_t rfl) (rv_t rfl)) rfl ?_
    rfl
end Go.Proofs.Ytfnhckildfbikaa
namespace Go.Proofs.Ytfnhckildfbikaa
set_option maxRecDepth 4000
set_option linter.unusedVariables false
set_option linter.unusedSimpArgs false
open Go.RowKit
attribute [local irreducible] zFD srL goF bfsF
attribute [local irreducible] spF spN prK
noncomputable def armA : Code := rfA (pth [1, 0, 1, 1, 0, 1, 0] (bodyOf Try.f59))
noncomputable def armB : Code := rfB (pth [1, 0, 1, 1, 0, 1, 0] (bodyOf Try.f59))
theorem rimA_four {w h : Int} {f : FD} {p : P2} {i : Nat} (hi : i < 4) (h1 : rimA w h f p (i + 1) = false) : rimA w h f p 4 = false := by
  have hal := adj_len p
  have key : rimA w h f p 4 = true → rimA w h f p (i + 1) = true := by
    intro h4
    have a3 := rimA_mono (i := 3) (by omega) h4
    have a2 := rimA_mono (i := 2) (by omega) a3
    have a1 := rimA_mono (i := 1) (by omega) a2
    match i, hi with
    | 0, _ => exact a1
    | 1, _ => exact a2
    | 2, _ => exact a3
    | 3, _ => exact h4
  cases h4 : rimA w h f p 4 with
  | false => rfl
  | true => rw [key h4] at h1; exact absurd h1 (by decide)
set_option maxRecDepth 4000 in
set_option maxHeartbeats 1000000 in
theorem armRound_y (w h : Int) (ds : List D) (f : FD) (k : Nat) (q : List P2) (c : Nat) (hcb : c ≤ 100) (n : P2) (hn : inF32 n) (h1 : f.has n = true) : DRound Try.prog 0 [.val (.agg #[.int .i64 n.x, .int .i64 n.y])] [.lp 19 [(2, .loc 1 0), (5, .loc 2 0)] #[10] armA armB .ready none, .mix 84 [.loc 3 0], .flat 3 [.int .i64 ((c : Nat) : Int)], .mix 134 (srL (cvD w h ds) (f).l (.farr 4 (k))), .fam (fmQ (k) (q))] true [.lp 19 [(2, .loc 1 0), (5, .loc 2 0)] #[10] armA armB .ready none, .mix 84 [.loc 3 0], .flat 3 [.int .i64 ((c + 1 : Nat) : Int)], .mix 134 (srL (cvD w h ds) (f).l (.farr 4 (k))), .fam (fmQ (k) (q))] := by
  refine dround_go 5 rfl rfl (by simp) rfl rfl fun s0 hs0 => ?_
  refine zai 1 (by simp only [holes, List.cons_append, List.nil_append]; exact rfl) ?_
  refine zad ?_
  refine zaj rfl rfl rfl (op_alloc 5 rfl zr34 rfl) (by simp only [upd, zaa, za]; exact rfl) ?_
  refine walk_s rfl rfl (op_stwa rfl tb34 (ev1 rfl) (ev1 rfl) rfl rfl rfl rfl) (by simp only [upd, zaa, za]; exact rfl) ?_
  refine zae ?_
  refine ⟨rfl, ?_⟩
  simp only [zaa, za]
  refine zal ?_
  refine zaf ?_
  refine zaf ?_
  refine zad ?_
  refine zab rfl rfl rfl (op_ldm rfl tb84 (ev1 rfl) rfl rfl) ?_
  refine zab rfl rfl rfl (op_ldw rfl tb34 (ev1 rfl) rfl rfl) ?_
  refine zaj rfl rfl rfl (zah [3, 4] [] [] rfl (ev1 rfl) (ec (ev1 rfl) (ec (ev1 rfl) en)) rfl (by exact mfits _ _ ⟨zap rfl rfl rfl, rfl, trivial⟩) (has_s w h ds f k q n hn) rfl rfl rfl (by exact (wrc (sb_srx rfl rfl) (wrc rfl rfl))) rfl rfl) (by simp only [upd, zaa, za]; exact rfl) ?_
  refine zab rfl rfl rfl (op_not rfl (ev1 rfl)) ?_
  refine zae ?_
  refine dwp_if_f rfl (by rw [h1]; rfl) ?_
  refine zak ?_
  refine zad ?_
  refine zab rfl rfl rfl (zam rfl tb3 (ev1 rfl) rfl rfl) ?_
  refine zab rfl rfl rfl (op_add' rfl (ev1 rfl) (ev1 rfl) (fun _ => IntWalk.i64_in _ (by omega))) ?_
  refine walk_s rfl rfl (op_stwi rfl tb3 (ev1 rfl) (ev1 rfl) rfl) (by simp only [upd, zaa, za]; exact rfl) ?_
  refine zae ?_
  refine ⟨by first | rfl | assumption | simp_all, rfl, [0, 1, 2, 3, 4], rfl, ⟨rfl, rfl, rfl, zap rfl rfl rfl, rfl, trivial⟩⟩
set_option maxRecDepth 4000 in
set_option maxHeartbeats 1000000 in
theorem armRound_n (w h : Int) (ds : List D) (f : FD) (k : Nat) (q : List P2) (c : Nat) (hcb : c ≤ 100) (n : P2) (hn : inF32 n) (h1 : f.has n = false) : DRound Try.prog 0 [.val (.agg #[.int .i64 n.x, .int .i64 n.y])] [.lp 19 [(2, .loc 1 0), (5, .loc 2 0)] #[10] armA armB .ready none, .mix 84 [.loc 3 0], .flat 3 [.int .i64 ((c : Nat) : Int)], .mix 134 (srL (cvD w h ds) (f).l (.farr 4 (k))), .fam (fmQ (k) (q))] false [.lp 19 [(2, .loc 1 0), (5, .loc 2 0)] #[10] armA armB .done (some (.exit 0)), .mix 84 [.loc 3 0], .flat 3 [.int .i64 ((c : Nat) : Int)], .mix 134 (srL (cvD w h ds) (f).l (.farr 4 (k))), .fam (fmQ (k) (q))] := by
  refine dround_go 5 rfl rfl (by simp) rfl rfl fun s0 hs0 => ?_
  refine zai 1 (by simp only [holes, List.cons_append, List.nil_append]; exact rfl) ?_
  refine zad ?_
  refine zaj rfl rfl rfl (op_alloc 5 rfl zr34 rfl) (by simp only [upd, zaa, za]; exact rfl) ?_
  refine walk_s rfl rfl (op_stwa rfl tb34 (ev1 rfl) (ev1 rfl) rfl rfl rfl rfl) (by simp only [upd, zaa, za]; exact rfl) ?_
  refine zae ?_
  refine ⟨rfl, ?_⟩
  simp only [zaa, za]
  refine zal ?_
  refine zaf ?_
  refine zaf ?_
  refine zad ?_
  refine zab rfl rfl rfl (op_ldm rfl tb84 (ev1 rfl) rfl rfl) ?_
  refine zab rfl rfl rfl (op_ldw rfl tb34 (ev1 rfl) rfl rfl) ?_
  refine zaj rfl rfl rfl (zah [3, 4] [] [] rfl (ev1 rfl) (ec (ev1 rfl) (ec (ev1 rfl) en)) rfl (by exact mfits _ _ ⟨zap rfl rfl rfl, rfl, trivial⟩) (has_s w h ds f k q n hn) rfl rfl rfl (by exact (wrc (sb_srx rfl rfl) (wrc rfl rfl))) rfl rfl) (by simp only [upd, zaa, za]; exact rfl) ?_
  refine zab rfl rfl rfl (op_not rfl (ev1 rfl)) ?_
  refine zae ?_
  refine dwp_if_t rfl (by rw [h1]; rfl) ?_
  refine dwp_exit ?_
  refine ⟨by first | rfl | assumption | simp_all, rfl, [0, 1, 2, 3, 4], rfl, ⟨rfl, rfl, rfl, zap rfl rfl rfl, rfl, trivial⟩⟩
set_option maxRecDepth 4000 in
set_option maxHeartbeats 1000000 in
theorem nbs_rim (w h : Int) (ds : List D) (ts : List TL) (hr : RowOk ds ts) (hc : CvOk w h ts) (hg : tsRng ts) (f : FD) (k : Nat) (q : List P2) (p : P2) (hpi : inF32 p) : DFun Try.prog 98 [.yld 0, .loc 5 0, .loc 6 0] [.lp 19 [(2, .loc 1 0), (5, .loc 2 0)] #[10] armA armB .ready none, .mix 84 [.loc 3 0], .flat 3 [.int .i64 0], .mix 134 (srL (cvD w h ds) (f).l (.farr 4 (k))), .fam (fmQ (k) (q)), .flat 76 ((adjL p).flatMap p2), .mix 84 [.loc 3 0]] (.tup []) [.lp 19 [(2, .loc 1 0), (5, .loc 2 0)] #[10] armA armB (rst (rimA w h f p 4)) (rpe (.exit 0) (rimA w h f p 4)), .mix 84 [.loc 3 0], .flat 3 [.int .i64 ((rimZ w h f p : Nat) : Int)], .mix 134 (srL (cvD w h ds) (f).l (.farr 4 (k))), .fam (fmQ (k) (q)), .flat 76 ((adjL p).flatMap p2), .mix 84 [.loc 3 0]] := by
  have hal := adj_len p
  refine zan (N := 32) 7 (by kernel_rfl) Try.func98 rfl rfl rfl (by simp only [fr0, Nat.zero_add, Nat.reduceAdd]; exact rfl) rfl fun s0 hs0 => ?_
  refine zaf ?_
  refine zad ?_
  refine zab rfl rfl rfl (op_ldw rfl tb76 (ev1 rfl) rfl rfl) ?_
  refine zab rfl rfl rfl (zac (.inl rfl) (ev1 rfl)) ?_
  refine zae ?_
  refine zal ?_
  refine dwp_loopS ⟨hs0, rfl⟩ (α := Nat) (fun i => [(9, .val (.int .i64 (i : Int)))]) [(0, _), (2, _), (8, _)] (fun i => [(2, .flat 3 [.int .i64 ((rimI w h f p i : Nat) : Int)])]) [_, _, .hole, _, _, _, _] (fun i => i ≤ 4 ∧ rimA w h f p i = true) (fun i => 4 - i) 0 [0, 1, 2, 3, 4, 5, 6] (⟨Nat.zero_le _, rfl⟩) rfl ⟨rfl, rfl, rfl, trivial⟩ ⟨rfl, trivial⟩ ⟨rfl, rfl, rfl, zap rfl rfl rfl, rfl, rfl, rfl, trivial⟩ ?_
  intro i hx
  simp only [upd, zaa, za, List.cons_append, List.nil_append]
  obtain ⟨hi0, hra⟩ := hx
  have hil := rimI_le w h f p i
  refine zaf ?_
  refine zad ?_
  refine zab rfl rfl rfl (op_lss rfl (ev1 rfl) (ev1 rfl)) ?_
  refine zae ?_
  refine zaf ?_
  refine dwp_cond rfl (fun c1 => ?_) (fun c1 => ?_)
  · try simp only [decide_eq_true_eq, decide_eq_false_iff_not, beq_iff_eq, bne_iff_ne, beq_eq_false_iff_ne, bne_eq_false_iff_eq, Bool.not_eq_true', Bool.not_eq_false', Bool.and_eq_true, Bool.or_eq_true, Bool.or_eq_false_iff, ne_eq, Decidable.not_not, Int.not_lt, Int.not_le] at c1
    refine zak ?_
    refine zaf ?_
    refine zal ?_
    refine zaf ?_
    have hi : i < (adjL p).length := by omega
    have had := adj_in hpi (List.getElem_mem hi)
    have hni : onP w h (adjL p)[i] = true → inF32 (adjL p)[i] := onP_in hc.may _
    refine zai 1 (by simp only [holes, List.cons_append, List.nil_append]; exact rfl) ?_
    refine zad ?_
    refine zab rfl rfl rfl ((op_ixv (j := i) (zP2) rfl av76 (ev1 rfl) (ev1 rfl) (fun _ => rfl) (fun _ => by omega) (adj_len _) (fun _ => rfl)).wk (Wk.of_eq (d' := .val (.agg (p2 (adjL p)[i]).toArray)) (by rw [gD_at hi]))) ?_
    refine zaj rfl rfl rfl (op_alloc 7 rfl zr34 rfl) (by simp only [upd, zaa, za]; exact rfl) ?_
    refine walk_s rfl rfl (op_stwa rfl tb34 (ev1 rfl) (ev1 rfl) rfl rfl rfl rfl) (by simp only [upd, zaa, za]; exact rfl) ?_
    refine zae ?_
    refine zaf ?_
    refine zai 1 (by simp only [holes, List.cons_append, List.nil_append]; exact rfl) ?_
    refine dwp_draw [([6], []), ([], []), ([], []), ([3], []), ([], []), ([7], []), ([], []), ([7], []), ([], []), ([], []), ([], []), ([], []), ([8], [8]), ([8], [8]), ([], [])] mixed (by kernel_rfl) ?_
    refine zag rfl rfl (op_ldm rfl tb84 (ev1 rfl) rfl rfl) ?_
    refine zag rfl rfl (op_nc rfl (ev1 rfl) (fun s v h => by cases h; exact ⟨_, rfl⟩)) ?_
    refine zag rfl rfl (op_fa rfl fo134_0 (ev1 rfl)) ?_
    refine zag rfl rfl (op_ldm rfl tb29 (ev1 rfl) rfl (srL_0 rfl)) ?_
    refine zag rfl rfl (op_fa rfl fo34_0 (ev1 rfl)) ?_
    refine zag rfl rfl (zam rfl tb3 (ev1 rfl) rfl rfl) ?_
    refine zag rfl rfl (op_fa rfl fo34_1 (ev1 rfl)) ?_
    refine zag rfl rfl (zam rfl tb3 (ev1 rfl) rfl rfl) ?_
    refine zag rfl rfl (zah [] [] [] rfl (ev1 rfl) (ec (ev1 rfl) (ec (ev1 rfl) (ec (ev1 rfl) en))) rfl rfl (at_d w h ds ts hr hc (adjL p)[i].x (adjL p)[i].y) rfl rfl rfl rfl rfl rfl) ?_
    refine zag rfl rfl (zac (.inl rfl) (ev1 rfl)) ?_
    refine zag rfl rfl (op_ext rfl (ev1 rfl) rfl) ?_
    refine zag rfl rfl (op_ext rfl (ev1 rfl) rfl) ?_
    refine lex_w rfl rfl (op_alloc 8 rfl zr27 rfl) rfl (by simp only [upd, zaa, za]; exact rfl) ?_
    refine lex_s rfl rfl (op_stwa rfl tb27 (ev1 rfl) (ev1 rfl) rfl rfl rfl rfl) rfl (by simp only [upd, zaa, za]; exact rfl) ?_
    refine zag rfl rfl (zac (.inr rfl) (ev1 rfl)) ?_
    refine lex_nil ?_
    refine zaf ?_
    by_cases hoo : onP w h (adjL p)[i] = true
    · by_cases hh : f.has (adjL p)[i] = true
      · refine zad ?_
        refine zab rfl rfl rfl (zac (.inl rfl) (ev1 rfl)) ?_
        refine zab rfl rfl rfl ((zac (.inl rfl) (ev1 rfl)).cast (d' := .val (.bool true)) (by rw [show onS w h (adjL p)[i].x (adjL p)[i].y = true from hoo])) ?_
        refine walk_k (gd_t (b := true) rfl rfl rfl) rfl rfl rfl (zac (.inl rfl) (ev1 rfl)) (by simp only [upd, zaa, za]; exact rfl) ?_
        refine walk_k (gd_t (b := true) rfl rfl rfl) rfl rfl rfl (op_ldw rfl tb34 (ev1 rfl) rfl rfl) (by simp only [upd, zaa, za]; exact rfl) ?_
        refine walk_k (gd_t (b := true) rfl rfl rfl) rfl rfl rfl (op_y (i := 0) [0, 1, 2, 3, 4] [] [] rfl (ev2 rfl) (ec (ev2 rfl) en) rfl rfl (by exact mfits _ _ ⟨rfl, rfl, rfl, zap rfl rfl rfl, rfl, trivial⟩) (armRound_y w h ds f k q _ (by omega) _ (hni hoo) hh) rfl rfl rfl (by exact (wrc rfl (wrc rfl (wrc rfl (wrc (sb_srx rfl rfl) (wrc rfl rfl)))))) rfl) (by simp only [upd, zaa, za]; exact rfl) ?_
        refine walk_k (gd_t (b := true) rfl rfl rfl) rfl rfl rfl ((op_not rfl (ev2 rfl)).cast (d' := .val (.bool false)) (by kernel_rfl)) (by simp only [upd, zaa, za]; exact rfl) ?_
        refine zab rfl rfl rfl ((op_and rfl (ev1 rfl) (ev3 rfl (fun _ => rfl))).cast (d' := .val (.bool false)) (by rfl)) ?_
        refine zae ?_
        refine dwp_if_f rfl (rfl) ?_
        refine zak ?_
        refine zad ?_
        refine zab rfl rfl rfl (op_add' rfl (ev1 rfl) (ev1 rfl) (fun _ => IntWalk.i64_in _ (by omega))) ?_
        refine zab rfl rfl rfl (zac (.inl rfl) (ev1 rfl)) ?_
        refine zae ?_
        refine ⟨i + 1, [0, 1, 2, 3, 4, 5, 6], ⟨by omega, (by rw [rimA_add hi, hra, hh]; simp)⟩, by simp only []; omega, rfl, ⟨rfl, rfl, rfl, rfl, trivial⟩, ⟨rfl, rfl, by rw [rimI_yes hi hoo]; rfl, zap rfl rfl rfl, rfl, rfl, rfl, trivial⟩⟩
      · have hh : f.has (adjL p)[i] = false := by simpa using hh
        refine zad ?_
        refine zab rfl rfl rfl (zac (.inl rfl) (ev1 rfl)) ?_
        refine zab rfl rfl rfl ((zac (.inl rfl) (ev1 rfl)).cast (d' := .val (.bool true)) (by rw [show onS w h (adjL p)[i].x (adjL p)[i].y = true from hoo])) ?_
        refine walk_k (gd_t (b := true) rfl rfl rfl) rfl rfl rfl (zac (.inl rfl) (ev1 rfl)) (by simp only [upd, zaa, za]; exact rfl) ?_
        refine walk_k (gd_t (b := true) rfl rfl rfl) rfl rfl rfl (op_ldw rfl tb34 (ev1 rfl) rfl rfl) (by simp only [upd, zaa, za]; exact rfl) ?_
        refine walk_k (gd_t (b := true) rfl rfl rfl) rfl rfl rfl (op_y (i := 0) [0, 1, 2, 3, 4] [] [] rfl (ev2 rfl) (ec (ev2 rfl) en) rfl rfl (by exact mfits _ _ ⟨rfl, rfl, rfl, zap rfl rfl rfl, rfl, trivial⟩) (armRound_n w h ds f k q _ (by omega) _ (hni hoo) hh) rfl rfl rfl (by exact (wrc rfl (wrc rfl (wrc rfl (wrc (sb_srx rfl rfl) (wrc rfl rfl)))))) rfl) (by simp only [upd, zaa, za]; exact rfl) ?_
        refine walk_k (gd_t (b := true) rfl rfl rfl) rfl rfl rfl ((op_not rfl (ev2 rfl)).cast (d' := .val (.bool true)) (by kernel_rfl)) (by simp only [upd, zaa, za]; exact rfl) ?_
        refine zab rfl rfl rfl ((op_and rfl (ev1 rfl) (ev3 rfl (fun _ => rfl))).cast (d' := .val (.bool true)) (by rfl)) ?_
        refine zae ?_
        refine dwp_if_t rfl (rfl) ?_
        refine zao ?_
        have e1 : rimA w h f p (i + 1) = false := by rw [rimA_add hi, hra, hoo, hh]; rfl
        have e2 := rimZ_stop (by omega) hra e1
        have e3 := rimA_four (by omega) e1
        rw [e2, e3]
        refine kend [0, 1, 2, 3, 4, 5, 6] (res_none rfl) rfl rfl ?_ ⟨rfl, rfl, rfl, zap rfl rfl rfl, rfl, rfl, rfl, trivial⟩
        rfl
    · have hoo : onP w h (adjL p)[i] = false := by simpa using hoo
      refine zad ?_
      refine zab rfl rfl rfl (zac (.inl rfl) (ev1 rfl)) ?_
      refine zab rfl rfl rfl ((zac (.inl rfl) (ev1 rfl)).cast (d' := .val (.bool false)) (by rw [show onS w h (adjL p)[i].x (adjL p)[i].y = false from hoo])) ?_
      refine walk_gr (gd_t (b := false) rfl rfl rfl) rfl rfl rfl (dop_never (d := .junk)) ?_
      refine walk_gr (gd_t (b := false) rfl rfl rfl) rfl rfl rfl (dop_never (d := .junk)) ?_
      refine walk_gr (gd_t (b := false) rfl rfl rfl) rfl rfl rfl (dop_never (d := .val (.bool false))) ?_
      refine walk_gr (gd_t (b := false) rfl rfl rfl) rfl rfl rfl (dop_never (d := .val (.bool false))) ?_
      refine zab rfl rfl rfl ((op_and rfl (ev1 rfl) (ev3 rfl id)).cast (d' := .val (.bool false)) (by rfl)) ?_
      refine zae ?_
      refine dwp_if_f rfl (rfl) ?_
      refine zak ?_
      refine zad ?_
      refine zab rfl rfl rfl (op_add' rfl (ev1 rfl) (ev1 rfl) (fun _ => IntWalk.i64_in _ (by omega))) ?_
      refine zab rfl rfl rfl (zac (.inl rfl) (ev1 rfl)) ?_
      refine zae ?_
      refine ⟨i + 1, [0, 1, 2, 3, 4, 5, 6], ⟨by omega, (by rw [rimA_add hi, hra, hoo]; rfl)⟩, by simp only []; omega, rfl, ⟨rfl, rfl, rfl, rfl, trivial⟩, ⟨rfl, rfl, by rw [rimI_no hi hoo]; rfl, zap rfl rfl rfl, rfl, rfl, rfl, trivial⟩⟩
  · try simp only [decide_eq_true_eq, decide_eq_false_iff_not, beq_iff_eq, bne_iff_ne, beq_eq_false_iff_ne, bne_eq_false_iff_eq, Bool.not_eq_true', Bool.not_eq_false', Bool.and_eq_true, Bool.or_eq_true, Bool.or_eq_false_iff, ne_eq, Decidable.not_not, Int.not_lt, Int.not_le] at c1
    refine dwp_exit ?_
    obtain rfl : i = 4 := by omega
    have e2 := rimZ_end hra
    rw [e2, hra]
    refine kend [0, 1, 2, 3, 4, 5, 6] (res_none rfl) rfl rfl ?_ ⟨rfl, rfl, rfl, zap rfl rfl rfl, rfl, rfl, rfl, trivial⟩
    rfl
set_option maxRecDepth 4000 in
set_option maxHeartbeats 1000000 in
theorem atRim_d (w h : Int) (ds : List D) (ts : List TL) (hr : RowOk ds ts) (hc : CvOk w h ts) (hg : tsRng ts) (f : FD) (k : Nat) (q : List P2) (p : P2) (hpi : inF32 p) : DFun Try.prog 59 [.loc 0 0, .val (.agg #[.int .i64 p.x, .int .i64 p.y])] [.mix 134 (srL (cvD w h ds) (f).l (.farr 1 (k))), .fam (fmQ (k) (q))] (.val (.bool (rimB w h f p))) [.mix 134 (srL (cvD w h ds) (f).l (.farr 1 (k))), .fam (fmQ (k) (q))] := by
  have e0 := rim_eq w h f p
  have e5 : decide ((((rimZ w h f p : Nat) : Int)) < 4) = rimB w h f p := by rw [← e0, Bool.eq_iff_iff, decide_eq_true_eq, decide_eq_true_eq]; omega
  refine zan (N := 19) 2 (by kernel_rfl) Try.func59 rfl rfl rfl (by simp only [fr0, Nat.zero_add, Nat.reduceAdd]; exact rfl) rfl fun s0 hs0 => ?_
  refine zaf ?_
  refine zai 2 (by simp only [holes, List.cons_append, List.nil_append]; exact rfl) ?_
  refine zad ?_
  refine zaj rfl rfl rfl (op_boxm 2 rfl (ev1 rfl) (fun s v h => by cases h <;> rfl) rfl) (by simp only [upd, zaa, za]; exact rfl) ?_
  refine zaj rfl rfl rfl (op_boxa 3 rfl (ev1 rfl) rfl) (by simp only [upd, zaa, za]; exact rfl) ?_
  refine zab rfl rfl rfl (zac (.inr rfl) (ev1 rfl)) ?_
  refine zae ?_
  refine dwp_scope ?_
  refine zaf ?_
  refine zai 1 (by simp only [holes, List.cons_append, List.nil_append]; exact rfl) ?_
  refine zad ?_
  refine zaj rfl rfl rfl (op_alloc 4 rfl zr3 rfl) (by simp only [upd, zaa, za]; exact rfl) ?_
  refine walk_s rfl rfl (op_stwi rfl tb3 (ev1 rfl) (ev1 rfl) rfl) (by simp only [upd, zaa, za]; exact rfl) ?_
  refine zae ?_
  refine zaf ?_
  refine dwp_label ?_
  refine zaf ?_
  refine zaf ?_
  refine zai 2 (by simp only [holes, List.cons_append, List.nil_append]; exact rfl) ?_
  refine zad ?_
  refine zab rfl rfl rfl (op_ldm rfl tb84 (ev1 rfl) rfl rfl) ?_
  refine zab rfl rfl rfl (op_ldw rfl tb34 (ev1 rfl) rfl rfl) ?_
  refine zaj rfl rfl rfl (zah [0, 1] [] [5, 6] rfl (ev1 rfl) (ec (ev1 rfl) (ec (ev1 rfl) en)) rfl (by exact mfits _ _ ⟨zap rfl rfl rfl, rfl, trivial⟩) (nbs_d w h ds f k q p hpi) rfl rfl rfl (by exact (wrc (sb_srx rfl rfl) (wrc rfl (wrc rfl (wrc rfl rfl))))) rfl rfl) (by simp only [upd, zaa, za]; exact rfl) ?_
  refine zae ?_
  refine zal ?_
  refine dwp_hole ?_
  simp only [List.cons_append, List.nil_append]
  refine dwp_rf (FL := [(2, _), (5, _)]) (st := (rst (rimA w h f p 4))) (pe := (rpe (.exit 0) (rimA w h f p 4))) [7, 2, 4, 0, 1, 5, 6] [] [] 7 rfl rfl (ev1 rfl) rfl (subF_lk ⟨rfl, rfl, trivial⟩) rfl rfl (by exact mfits _ _ ⟨rfl, rfl, rfl, zap rfl rfl rfl, rfl, rfl, rfl, trivial⟩) (nbs_rim w h ds ts hr hc hg f k q p hpi) rfl rfl rfl (by exact (wrc rfl (wrc rfl (wrc rfl (wrc (sb_srx rfl rfl) (wrc rfl (wrc rfl (wrc rfl rfl)))))))) rfl rfl rfl (rst_busy _) (fun e => ?_) (fun c e => ?_)
  · simp only [upd, zaa, za]
    refine zaf ?_
    refine zad ?_
    refine zab rfl rfl rfl (zam rfl tb3 (ev1 rfl) rfl rfl) ?_
    refine zab rfl rfl rfl (op_lss rfl (ev1 rfl) (ev1 rfl)) ?_
    refine zab rfl rfl rfl (zac (.inr rfl) (ev1 rfl)) ?_
    refine zae ?_
    refine zao ?_
    refine kend [0, 1] (rs1 rfl (rv_t rfl)) rfl rfl ?_ ⟨zap rfl rfl rfl, rfl, trivial⟩
    rw [e5]
  · obtain ⟨e1, rfl⟩ : rimA w h f p 4 = false ∧ c = .exit 0 := by
      cases h : rimA w h f p 4 <;> simp_all [rpe]
    simp only [upd, zaa, za]
    refine dwp_exit ?_
    refine zaf ?_
    refine zad ?_
    refine zab rfl rfl rfl (zam rfl tb3 (ev1 rfl) rfl rfl) ?_
    refine zab rfl rfl rfl (op_lss rfl (ev1 rfl) (ev1 rfl)) ?_
    refine zab rfl rfl rfl (zac (.inr rfl) (ev1 rfl)) ?_
    refine zae ?_
    refine zao ?_
    refine kend [0, 1] (rs1 rfl (rv_t rfl)) rfl rfl ?_ ⟨zap rfl rfl rfl, rfl, trivial⟩
    rw [e5]
end Go.Proofs.Ytfnhckildfbikaa
