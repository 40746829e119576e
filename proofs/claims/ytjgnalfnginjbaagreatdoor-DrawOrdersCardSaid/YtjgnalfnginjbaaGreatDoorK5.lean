/- rows gathered; rows of spans together, and clipped; what a row has, and how many; lines and rectangles; brushes; sweeps; rows copied and compared; places ranged over; Maps from flat keys to flat data: made, a new key set, measured, gone through in whatever order. Conditions: what the key's type is, by the kernel; A region that draws its order, one of whose operations panics, beside others that only read. Conditions: the kernel's look at its edges; what drawing rests on; the pixels of a canvas that a row of spans has. No condition. -/
import Derived.Test.YtjgnalfnginjbaaGreatDoorK4
import Derived.Test.YtjgnalfnginjbaaGreatDoorRows
namespace Go.Proofs.YtjgnalfnginjbaaGreatDoor
set_option maxRecDepth 4000
set_option linter.unusedVariables false
set_option linter.unusedSimpArgs false
open Go.RowKit
theorem mp164 : mpT Tryz.prog 164 = some (3, 25) := by kernel_rfl
theorem sl165 : slE Tryz.prog 165 = some (3, 1, 8) := by kernel_rfl
theorem zv25 : zrV Tryz.prog 25 = some (.slice none 0 0) := by kernel_rfl
set_option maxRecDepth 4000 in
set_option maxHeartbeats 1000000 in
theorem mkeys_d (ks : List Int) (nn : List Nat) (Bs : List Mem) : DFun Tryz.prog 119 [.hnd 0] [.mpd ks (nn.flatMap fun k => [.farr 1 k]), .fam Bs] (.fn (.func 135) [] [.loc 2 0]) [.mpd ks (nn.flatMap fun k => [.farr 1 k]), .fam Bs, .mix 164 [.hnd 0]] := by
  refine dcalls_go (N := 4) 2 (by kernel_rfl) Tryz.func119 rfl rfl rfl (by simp only [fr0, Nat.zero_add, Nat.reduceAdd]; exact rfl) rfl fun s0 hs0 => ?_
  refine zaf ?_
  refine zai 1 (by simp only [holes, List.cons_append, List.nil_append]; exact rfl) ?_
  refine zad ?_
  refine zaj rfl rfl rfl (op_boxh 2 rfl (ev1 rfl) rfl rfl) (by simp only [upd, zaa, za]; exact rfl) ?_
  refine zab rfl rfl rfl (zac (.inr rfl) (ev1 rfl)) ?_
  refine zae ?_
  refine zaf ?_
  refine zad ?_
  refine zab rfl rfl rfl (op_mkf rfl en (ec (ev1 rfl) en)) ?_
  refine zab rfl rfl rfl (zac (.inr rfl) (ev1 rfl)) ?_
  refine zae ?_
  refine dwp_ret ?_
  refine kend [0, 1, 2] (rs1 rfl (rv_t rfl)) rfl rfl ?_ ⟨?_, ?_, ?_, trivial⟩
  rfl
  all_goals first | exact rfl | exact mpd_fits rfl rfl (fun _ => rfl)
set_option maxRecDepth 4000 in
set_option maxHeartbeats 1000000 in
theorem gath_o (l : List Sp) (hv : ∀ s ∈ l, s.f ≤ s.t) (hb : ∀ s ∈ l, bdS s) (hn : l.length ≤ 1000000) : DFun Tryz.prog 98 [.slf 3 l.length (l.flatMap s3)] [] (.arr 0) [.arr 32 3 (normS l).length ((normS l).flatMap s3)] := by
  refine dcalls_go (N := 87) 0 (by kernel_rfl) Tryz.func98 rfl rfl rfl (by simp only [fr0, Nat.zero_add, Nat.reduceAdd]; exact rfl) rfl fun s0 hs0 => ?_
  refine dwp_len (t := 0) rfl fun hl0 hL0 => ?_
  refine zaf ?_
  refine zad ?_
  refine zab rfl rfl rfl (zac (.inr rfl) (ev1 rfl)) ?_
  refine zae ?_
  refine zaf ?_
  refine zai 1 (by simp only [holes, List.cons_append, List.nil_append]; exact rfl) ?_
  refine zad ?_
  refine zaj rfl rfl rfl (op_mkd 0 rfl rfl) (by simp only [upd, zaa, za]; exact rfl) ?_
  refine zab rfl rfl rfl (zac (.inr rfl) (ev1 rfl)) ?_
  refine zae ?_
  refine zaf ?_
  refine zaf ?_
  refine dwp_hole ?_
  refine dwp_fam 1 rfl (by simp only [List.cons_append, List.nil_append, zaa, za]; exact rfl) ?_
  refine zad ?_
  refine zab rfl rfl rfl (zac (.inl rfl) (ev1 rfl)) ?_
  refine zab rfl rfl rfl (op_len rfl sl25 (ev1 rfl)) ?_
  refine zab rfl rfl rfl (zac (.inl rfl) (ev1 rfl)) ?_
  refine zae ?_
  refine dwp_block ?_
  refine dwp_loopS ⟨hs0, rfl⟩ (α := GS) (fun g => [(17, .val (.int .i64 (g.i : Int)))]) [(3, _), (15, _), (16, _)] (fun g => [(0, .mpd g.ks (g.nn.flatMap fun k => [.farr 1 k])), (1, .fam g.Bs)]) [.hole, .hole] (fun g => GOk l g) (fun g => l.length - g.i) ⟨0, [], [], []⟩ [0, 1] (GOk.zero l) rfl ⟨rfl, rfl, rfl, trivial⟩ ⟨rfl, trivial⟩ ⟨rfl, rfl, trivial⟩ ?_
  intro g hx
  simp only [upd, zaa, za, List.cons_append, List.nil_append]
  have hg := hx
  refine zaf ?_
  refine zad ?_
  refine zab rfl rfl rfl (op_lss rfl (ev1 rfl) (ev1 rfl)) ?_
  refine zae ?_
  refine zaf ?_
  refine dwp_cond rfl (fun c1 => ?_) (fun c1 => ?_)
  · try simp only [decide_eq_true_eq, decide_eq_false_iff_not, beq_iff_eq, bne_iff_ne, beq_eq_false_iff_ne, bne_eq_false_iff_eq, Bool.not_eq_true', Bool.not_eq_false', Bool.and_eq_true, Bool.or_eq_true, Bool.or_eq_false_iff, ne_eq, Decidable.not_not, Int.not_lt, Int.not_le] at c1
    refine zal ?_
    refine zaf ?_
    refine dwp_block ?_
    refine zaf ?_
    have hi : g.i < l.length := by omega
    refine zai 1 (by simp only [holes, List.cons_append, List.nil_append]; exact rfl) ?_
    refine zad ?_
    refine zab rfl rfl rfl (op_ixsr (j := g.i) rfl sl25 (ev1 rfl) (ev1 rfl) (fun _ => rfl) (by decide) (by omega) (by omega)) ?_
    refine zab rfl rfl rfl (op_ldwd rfl tb32 (ev1 rfl) rfl) ?_
    refine zaj rfl rfl rfl (op_alloc 2 rfl zr32 rfl) (by simp only [upd, zaa, za]; exact rfl) ?_
    refine walk_s rfl rfl (op_stwa rfl tb32 (ev1 rfl) (ev1 rfl) rfl rfl rfl rfl) (by simp only [upd, zaa, za]; exact rfl) ?_
    refine zae ?_
    by_cases hk : l[g.i].y ∈ g.ks
    · obtain ⟨j, hj⟩ := List.getElem?_of_mem hk
      clear hk
      have hjl : j < g.nn.length := by rw [hg.len]; exact (List.getElem?_eq_some_iff.1 hj).1
      obtain ⟨k, hk⟩ : ∃ k, g.nn[j]? = some k := ⟨_, List.getElem?_eq_getElem hjl⟩
      have hB := hg.rows j _ k hj hk
      have hrl := rowY_len (l.take g.i) l[g.i].y
      rw [List.length_take] at hrl
      refine zai 2 (by simp only [holes, List.cons_append, List.nil_append]; exact rfl) ?_
      refine dwp_draw [([], []), ([], []), ([2], []), ([], []), ([], []), ([2], []), ([0], []), ([2], []), ([], []), ([1, 3, 4], [1, 3, 4]), ([0], [0])] mixed (by kernel_rfl) ?_
      refine zag rfl rfl (zac (.inl rfl) (ev1 rfl)) ?_
      refine zag rfl rfl (op_fa rfl fo32_0 (ev1 rfl)) ?_
      refine zag rfl rfl (op_ldo rfl tb3 (ev1 rfl) rfl rfl) ?_
      refine zag rfl rfl (zac (.inl rfl) (ev1 rfl)) ?_
      refine zag rfl rfl (op_fa rfl fo32_0 (ev1 rfl)) ?_
      refine zag rfl rfl (op_ldo rfl tb3 (ev1 rfl) rfl rfl) ?_
      refine zag rfl rfl (op_lkdy (j := j) mp164 it3 rfl (ev1 rfl) (ev1 rfl) rfl (fun _ => hg.nd) (fun _ => hj) (names_at hk)) ?_
      refine zag rfl rfl (op_ldw rfl tb32 (ev1 rfl) rfl rfl) ?_
      refine zag rfl rfl (op_bs (ps := [(0, .tmp 28)]) rfl sl25 zr32 rfl (vc (ev1 rfl) vn) rfl (by decide) (by decide)) ?_
      refine lex_w rfl rfl (op_appF (j1 := 3) (j2 := 4) rfl rfl sl25 zr32 rfl (ev1 rfl) (ev1 rfl) rfl (hB) rfl rfl rfl (fun _ => rfl) (fun _ => ⟨by omega, by omega⟩)) rfl (by simp only [upd, zaa, za]; exact rfl) ?_
      refine lex_s rfl rfl (op_muy (j := j) mp164 it3 rfl (ev1 rfl) (ev1 rfl) (ev1 rfl) rfl (fun _ => hg.nd) (fun _ => hj)) rfl (by simp only [upd, zaa, za]; exact rfl) ?_
      refine lex_nil ?_
      refine zad ?_
      refine zab rfl rfl rfl (op_add' rfl (ev1 rfl) (ev1 rfl) (fun _ => IntWalk.i64_in _ (by omega))) ?_
      refine zab rfl rfl rfl (zac (.inl rfl) (ev1 rfl)) ?_
      refine zae ?_
      refine ⟨⟨g.i + 1, g.ks, g.nn.set j g.Bs.length, _⟩, [0, 1], hg.old hi hj hk rfl, by simp only []; omega, rfl, ⟨rfl, rfl, rfl, rfl, trivial⟩, ⟨(by rw [names_set]; exact mpd_fits rfl rfl (fun _ => rfl)), rfl, trivial⟩⟩
    · refine zai 1 (by simp only [holes, List.cons_append, List.nil_append]; exact rfl) ?_
      refine dwp_draw [([], []), ([], []), ([2], []), ([], []), ([], []), ([2], []), ([0], []), ([2], []), ([], []), ([3], [3]), ([0], [0])] mixed (by kernel_rfl) ?_
      refine zag rfl rfl (zac (.inl rfl) (ev1 rfl)) ?_
      refine zag rfl rfl (op_fa rfl fo32_0 (ev1 rfl)) ?_
      refine zag rfl rfl (op_ldo rfl tb3 (ev1 rfl) rfl rfl) ?_
      refine zag rfl rfl (zac (.inl rfl) (ev1 rfl)) ?_
      refine zag rfl rfl (op_fa rfl fo32_0 (ev1 rfl)) ?_
      refine zag rfl rfl (op_ldo rfl tb3 (ev1 rfl) rfl rfl) ?_
      refine zag rfl rfl ((op_lkdn mp164 it3 zv25 rfl (ev1 rfl) (ev1 rfl) rfl (fun _ => hk)).wk (Wk.slc0 3)) ?_
      refine zag rfl rfl (op_ldw rfl tb32 (ev1 rfl) rfl rfl) ?_
      refine zag rfl rfl (op_bs (ps := [(0, .tmp 28)]) rfl sl25 zr32 rfl (vc (ev1 rfl) vn) rfl (by decide) (by decide)) ?_
      refine lex_w rfl rfl (op_apc 3 rfl sl25 zr32 rfl (ev1 rfl) (ev1 rfl) src_slf rfl (fun _ => ⟨by decide, by omega, by omega⟩)) rfl (by simp only [upd, zaa, za]; exact rfl) ?_
      refine lex_s rfl rfl (op_mud mp164 it3 rfl (ev1 rfl) (ev1 rfl) (ev1 rfl) rfl (fun _ => hk)) rfl (by simp only [upd, zaa, za]; exact rfl) ?_
      refine lex_nil ?_
      refine dwp_absd (l' := ((g.nn ++ [g.Bs.length]).flatMap fun k => [.farr 1 k])) 0 g.nn.length 1 rfl (names_new) rfl rfl (names_add) (by simp only [List.cons_append, List.nil_append, zaa, za]; exact rfl) ?_
      refine zad ?_
      refine zab rfl rfl rfl (op_add' rfl (ev1 rfl) (ev1 rfl) (fun _ => IntWalk.i64_in _ (by omega))) ?_
      refine zab rfl rfl rfl (zac (.inl rfl) (ev1 rfl)) ?_
      refine zae ?_
      refine ⟨⟨g.i + 1, g.ks ++ [l[g.i].y], g.nn ++ [g.Bs.length], _⟩, [0, 1], hg.new hi hk rfl, by simp only []; omega, rfl, ⟨rfl, rfl, rfl, rfl, trivial⟩, ⟨mpd_fits rfl rfl (fun _ => rfl), rfl, trivial⟩⟩
  · try simp only [decide_eq_true_eq, decide_eq_false_iff_not, beq_iff_eq, bne_iff_ne, beq_eq_false_iff_ne, bne_eq_false_iff_eq, Bool.not_eq_true', Bool.not_eq_false', Bool.and_eq_true, Bool.or_eq_true, Bool.or_eq_false_iff, ne_eq, Decidable.not_not, Int.not_lt, Int.not_le] at c1
    refine dwp_exit ?_
    refine zaf ?_
    refine zad ?_
    refine zab rfl rfl rfl (zac (.inr rfl) (ev1 rfl)) ?_
    refine zae ?_
    refine zaf ?_
    refine zaf ?_
    have he : g.i = l.length := by have := hg.le; omega
    have hkl := hg.klen
    have hsr := keys_sorted hg.nd
    have hyl := hsr.2.length_eq
    have hkey : ∀ s ∈ l, s.y ∈ (g.ks.mergeSort leI) := fun s hs => hsr.2.mem_iff.2 ((hg.keys s.y).2 ⟨s, by rw [he, List.take_length]; exact hs, rfl⟩)
    have hrg : ∀ y ∈ g.ks, -9223372036854775808 ≤ y ∧ y ≤ 9223372036854775807 := fun y hy => by
      obtain ⟨s, hs, e⟩ := (hg.keys y).1 hy
      have := hb s (List.mem_of_mem_take hs)
      unfold bdS at this
      omega
    refine zai 2 (by simp only [holes, List.cons_append, List.nil_append]; exact rfl) ?_
    refine zad ?_
    refine zab rfl rfl rfl (zac (.inl rfl) (ev1 rfl)) ?_
    refine zaj rfl rfl rfl (zah [0, 1] [] [2] rfl (ev1 rfl) (ec (ev1 rfl) en) rfl (by exact mfits _ _ ⟨mpd_fits rfl rfl (fun _ => rfl), rfl, trivial⟩) (mkeys_d _ _ _) rfl rfl rfl (by exact (wrc (sb_mpd (fun _ => rfl)) (wrc rfl (wrc rfl rfl)))) rfl rfl) (by simp only [upd, zaa, za]; exact rfl) ?_
    refine zaj rfl rfl rfl (zah [2, 0, 1] [] [3] rfl (ev1 rfl) (ec (ev1 rfl) en) rfl (by exact mfits _ _ ⟨rfl, mpd_fits rfl rfl (fun _ => rfl), rfl, trivial⟩) (sortedK_d _ _ _ _ hg.nd (by omega) hrg) rfl rfl rfl (by exact (wrc rfl (wrc (sb_mpd (fun _ => rfl)) (wrc rfl (wrc rfl rfl))))) rfl rfl) (by simp only [upd, zaa, za]; exact rfl) ?_
    refine zab rfl rfl rfl (op_lena rfl sl165 (ev1 rfl) rfl) ?_
    refine zab rfl rfl rfl (zac (.inl rfl) (ev1 rfl)) ?_
    refine zae ?_
    refine dwp_block ?_
    refine dwp_adopt 6 32 3 rfl rfl rfl ?_
    refine dwp_loopS ⟨hs0, rfl⟩ (α := Nat × List Mem) (fun q => [(36, .val (.int .i64 (q.1 : Int)))]) [(3, _), (6, _), (34, _), (35, _)] (fun q => [(1, .fam q.2), (4, .arr 32 3 (gathR l ((g.ks.mergeSort leI).take q.1)).length ((gathR l ((g.ks.mergeSort leI).take q.1)).flatMap s3))]) [_, .hole, _, _, .hole] (fun q => q.1 ≤ g.ks.length ∧ LOk l g q.1 q.2) (fun q => g.ks.length - q.1) (0, g.Bs) [0, 1, 2, 3, 4] (⟨Nat.zero_le _, LOk.zero hg he⟩) rfl ⟨rfl, rfl, rfl, rfl, trivial⟩ ⟨rfl, trivial⟩ ⟨mpd_fits rfl rfl (fun _ => rfl), rfl, rfl, rfl, rfl, trivial⟩ ?_
    intro q hx
    simp only [upd, zaa, za, List.cons_append, List.nil_append]
    obtain ⟨i, Bs⟩ := q
    obtain ⟨hi0, hL⟩ := hx
    have hol := gathR_len (i := i) (hsr.1.imp fun h => (by omega)) hkey
    have hob := gathR_bd hb ((g.ks.mergeSort leI).take i)
    refine zaf ?_
    refine zad ?_
    refine zab rfl rfl rfl (op_lss rfl (ev1 rfl) (ev1 rfl)) ?_
    refine zae ?_
    refine zaf ?_
    refine dwp_cond rfl (fun c2 => ?_) (fun c2 => ?_)
    · try simp only [decide_eq_true_eq, decide_eq_false_iff_not, beq_iff_eq, bne_iff_ne, beq_eq_false_iff_ne, bne_eq_false_iff_eq, Bool.not_eq_true', Bool.not_eq_false', Bool.and_eq_true, Bool.or_eq_true, Bool.or_eq_false_iff, ne_eq, Decidable.not_not, Int.not_lt, Int.not_le] at c2
      refine zal ?_
      refine zaf ?_
      refine dwp_block ?_
      refine zaf ?_
      have hi : i < (g.ks.mergeSort leI).length := by omega
      obtain ⟨j, k, hj, hk⟩ := key_at hg hi
      have hB : Bs[k]? = some (rowB l (g.ks.mergeSort leI)[i]) := hL j _ k hj hk (by rw [List.drop_eq_getElem_cons hi]; exact List.mem_cons_self ..)
      have hne := row_ne hg he (hsr.2.mem_iff.1 (List.getElem_mem hi))
      have hrl := rowY_len l (g.ks.mergeSort leI)[i]
      have hsl := srtS_len (rowY l (g.ks.mergeSort leI)[i])
      refine zad ?_
      refine zab rfl rfl rfl (op_ixar (j := i) rfl sl165 (ev1 rfl) (ev1 rfl) rfl (fun _ => by first | rfl | omega) (fun _ => by omega)) ?_
      refine zab rfl rfl rfl (op_lda1 rfl tb3 (ev1 rfl) rfl (fun _ => rfl) (by omega) rfl) ?_
      refine zab rfl rfl rfl (zac (.inr rfl) (ev1 rfl)) ?_
      refine zae ?_
      refine zaf ?_
      refine zad ?_
      refine zab rfl rfl rfl (zac (.inl rfl) (ev1 rfl)) ?_
      refine zab rfl rfl rfl (zac (.inl rfl) (ev1 rfl)) ?_
      refine zab rfl rfl rfl (op_lkdy (j := j) mp164 it3 rfl (ev1 rfl) (ev1 rfl) rfl (fun _ => hg.nd) (fun _ => hj) (names_at hk)) ?_
      refine zab rfl rfl rfl (zac (.inr rfl) (ev1 rfl)) ?_
      refine zae ?_
      refine zaf ?_
      refine dwp_hole ?_
      refine dwp_rel 9 1 (j := 5) rfl rfl (hB) rfl (by simp only [List.cons_append, List.nil_append, zaa, za]; exact rfl) ?_
      refine zad ?_
      refine zab rfl rfl rfl (zac (.inl rfl) (ev1 rfl)) ?_
      refine zaj rfl rfl rfl (zah [5] [] [] rfl (ev1 rfl) (ec (ev1 rfl) (ec (ev1 rfl) en)) rfl rfl (spSort_d _ hne (by omega)) rfl rfl rfl rfl rfl rfl) (by simp only [upd, zaa, za]; exact rfl) ?_
      refine zae ?_
      refine zaf ?_
      have hyy : ∀ s ∈ (gathR l ((g.ks.mergeSort leI).take i)), s.y < (g.ks.mergeSort leI)[i] := fun s hs => take_lt hsr.1 hi _ (gathR_y l _ s hs)
      have hry : ∀ s ∈ srtS (rowY l (g.ks.mergeSort leI)[i]), s.y = (g.ks.mergeSort leI)[i] := fun s hs => (rowY_mem.1 (srtS_mem.1 hs)).2
      have hrb : ∀ s ∈ srtS (rowY l (g.ks.mergeSort leI)[i]), bdS s := fun s hs => hb s (rowY_mem.1 (srtS_mem.1 hs)).1
      refine zad ?_
      refine zab rfl rfl rfl (zac (.inl rfl) (ev1 rfl)) ?_
      refine zab rfl rfl rfl (op_lena rfl sl25 (ev1 rfl) rfl) ?_
      refine zab rfl rfl rfl (zac (.inr rfl) (ev1 rfl)) ?_
      refine zae ?_
      refine zaf ?_
      refine zad ?_
      refine zab rfl rfl rfl (zac (.inl rfl) (ev1 rfl)) ?_
      refine zab rfl rfl rfl (op_lena rfl sl25 (ev1 rfl) rfl) ?_
      refine zab rfl rfl rfl (zac (.inl rfl) (ev1 rfl)) ?_
      refine zae ?_
      refine dwp_block ?_
      refine dwp_loopS ⟨hs0, rfl⟩ (α := Nat) (fun m => [(49, .val (.int .i64 (m : Int)))]) [(3, _), (6, _), (10, _), (34, _), (35, _), (36, _), (47, _), (48, _)] (fun m => [(4, .arr 32 3 ((((srtS (rowY l (g.ks.mergeSort leI)[i])).take m).foldl mergeS (gathR l ((g.ks.mergeSort leI).take i)))).length (((((srtS (rowY l (g.ks.mergeSort leI)[i])).take m).foldl mergeS (gathR l ((g.ks.mergeSort leI).take i)))).flatMap s3))]) [_, _, _, _, .hole, _] (fun m => m ≤ (srtS (rowY l (g.ks.mergeSort leI)[i])).length) (fun m => (srtS (rowY l (g.ks.mergeSort leI)[i])).length - m) 0 [0, 1, 2, 3, 4, 5] (Nat.zero_le _) rfl ⟨rfl, rfl, rfl, rfl, rfl, rfl, rfl, rfl, trivial⟩ ⟨rfl, trivial⟩ ⟨mpd_fits rfl rfl (fun _ => rfl), rfl, rfl, rfl, rfl, rfl, trivial⟩ ?_
      intro m hx
      simp only [upd, zaa, za, List.cons_append, List.nil_append]
      have hm := hx
      have hxb := merges_bd ((srtS (rowY l (g.ks.mergeSort leI)[i])).take m) _ hob (fun s hs => hrb s (List.mem_of_mem_take hs))
      have hxl := merges_len ((srtS (rowY l (g.ks.mergeSort leI)[i])).take m) (gathR l ((g.ks.mergeSort leI).take i))
      have htl := List.length_take_le m (srtS (rowY l (g.ks.mergeSort leI)[i]))
      refine zaf ?_
      refine zad ?_
      refine zab rfl rfl rfl (op_lss rfl (ev1 rfl) (ev1 rfl)) ?_
      refine zae ?_
      refine zaf ?_
      refine dwp_cond rfl (fun c3 => ?_) (fun c3 => ?_)
      · try simp only [decide_eq_true_eq, decide_eq_false_iff_not, beq_iff_eq, bne_iff_ne, beq_eq_false_iff_ne, bne_eq_false_iff_eq, Bool.not_eq_true', Bool.not_eq_false', Bool.and_eq_true, Bool.or_eq_true, Bool.or_eq_false_iff, ne_eq, Decidable.not_not, Int.not_lt, Int.not_le] at c3
        refine zal ?_
        refine zaf ?_
        refine dwp_block ?_
        refine zaf ?_
        have hmi : m < (srtS (rowY l (g.ks.mergeSort leI)[i])).length := by omega
        refine zai 1 (by simp only [holes, List.cons_append, List.nil_append]; exact rfl) ?_
        refine zad ?_
        refine zab rfl rfl rfl (op_ixar (j := m) rfl sl25 (ev1 rfl) (ev1 rfl) rfl (fun _ => by first | rfl | omega) (fun _ => by omega)) ?_
        refine zab rfl rfl rfl (op_ldar rfl tb32 (ev1 rfl) rfl (fun _ => rfl) (by omega)) ?_
        refine zaj rfl rfl rfl (op_alloc 6 rfl zr32 rfl) (by simp only [upd, zaa, za]; exact rfl) ?_
        refine walk_s rfl rfl (op_stwa rfl tb32 (ev1 rfl) (ev1 rfl) rfl rfl rfl rfl) (by simp only [upd, zaa, za]; exact rfl) ?_
        refine zae ?_
        refine zaf ?_
        refine zad ?_
        refine zab rfl rfl rfl (zac (.inl rfl) (ev1 rfl)) ?_
        refine zab rfl rfl rfl (op_lena rfl sl25 (ev1 rfl) rfl) ?_
        refine zab rfl rfl rfl (op_sub' rfl (ev1 rfl) (ev1 rfl) (fun _ => IntWalk.i64_in _ (by omega))) ?_
        refine zab rfl rfl rfl (zac (.inr rfl) (ev1 rfl)) ?_
        refine zae ?_
        refine zaf ?_
        have hbl := bd_getD (i := (((srtS (rowY l (g.ks.mergeSort leI)[i])).take m).foldl mergeS (gathR l ((g.ks.mergeSort leI).take i))).length - 1) hxb
        refine dwp_draw [([], []), ([], []), ([], []), ([], []), ([], []), ([], []), ([4], []), ([4], []), ([6], []), ([], []), ([], []), ([], [])] mixed (by kernel_rfl) ?_
        refine zag rfl rfl (zac (.inl rfl) (ev1 rfl)) ?_
        refine zag rfl rfl (zac (.inl rfl) (ev1 rfl)) ?_
        refine zag rfl rfl (op_geq rfl (ev1 rfl) (ev1 rfl)) ?_
        refine zag rfl rfl (zac (.inl rfl) (ev1 rfl)) ?_
        refine lex_gr (gd_t rfl rfl rfl) rfl rfl (zac (.inl rfl) (ev1 rfl)) ?_
        refine lex_gr (gd_t rfl rfl rfl) rfl rfl (zac (.inl rfl) (ev1 rfl)) ?_
        refine lex_gr (gd_t rfl rfl rfl) rfl rfl (op_ixar (j := (((srtS (rowY l (g.ks.mergeSort leI)[i])).take m).foldl mergeS (gathR l ((g.ks.mergeSort leI).take i))).length - 1) rfl sl25 (ev2 rfl) (ev2 rfl) rfl (fun hp => by first | rfl | omega | (simp at hp; omega)) (fun hp => by first | omega | (simp at hp; omega))) ?_
        refine lex_gr (gd_t rfl rfl rfl) rfl rfl (op_ldarg (zSp) rfl tb32 (ev2 rfl) rfl (fun _ => rfl) (fun hp => by first | omega | (simp at hp; omega))) ?_
        refine lex_gr (gd_t rfl rfl rfl) rfl rfl (op_ldw rfl tb32 (ev1 rfl) rfl rfl) ?_
        refine lex_gr (gd_t rfl rfl rfl) rfl rfl (zah [] [] [] rfl (ev1 rfl) (ec (ev2 rfl) (ec (ev2 rfl) en)) rfl rfl (apart_d _ _ hbl) rfl rfl rfl rfl rfl rfl) ?_
        refine lex_gr (gd_t rfl rfl rfl) rfl rfl (op_not rfl (ev2 rfl)) ?_
        refine zag rfl rfl (op_and rfl (ev1 rfl) (ev3 rfl id)) ?_
        refine lex_nil ?_
        refine dwp_cond rfl (fun c3 => ?_) (fun c3 => ?_)
        · rw [Bool.and_eq_true] at c3
          have c4 := of_decide_eq_true c3.1
          have hna : ¬ apS (lastS (((srtS (rowY l (g.ks.mergeSort leI)[i])).take m).foldl mergeS (gathR l ((g.ks.mergeSort leI).take i)))) (srtS (rowY l (g.ks.mergeSort leI)[i]))[m] := by have := c3.2; simpa using this
          refine dwp_draw [([], []), ([], []), ([], []), ([], []), ([4], []), ([], []), ([4], []), ([], []), ([6], []), ([], []), ([4], []), ([], []), ([4], [4])] mixed (by kernel_rfl) ?_
          refine zag rfl rfl (zac (.inl rfl) (ev1 rfl)) ?_
          refine zag rfl rfl (zac (.inl rfl) (ev1 rfl)) ?_
          refine zag rfl rfl (zac (.inl rfl) (ev1 rfl)) ?_
          refine zag rfl rfl (zac (.inl rfl) (ev1 rfl)) ?_
          refine zag rfl rfl (op_ixar (j := (((srtS (rowY l (g.ks.mergeSort leI)[i])).take m).foldl mergeS (gathR l ((g.ks.mergeSort leI).take i))).length - 1) rfl sl25 (ev1 rfl) (ev1 rfl) rfl (fun _ => by first | rfl | omega) (fun _ => by omega)) ?_
          refine zag rfl rfl (op_faa rfl fo32_2 (ev1 rfl)) ?_
          refine zag rfl rfl (op_ldaf (j := (((srtS (rowY l (g.ks.mergeSort leI)[i])).take m).foldl mergeS (gathR l ((g.ks.mergeSort leI).take i))).length - 1) (c := 2) (zSp) rfl tb3 (ev1 rfl) rfl (fun _ => rfl) (fun _ => by omega) (by decide) rfl) ?_
          refine zag rfl rfl (op_fa rfl fo32_2 (ev1 rfl)) ?_
          refine zag rfl rfl (op_ldo rfl tb3 (ev1 rfl) rfl rfl) ?_
          refine zag rfl rfl (op_max rfl (ev1 rfl) (ev1 rfl)) ?_
          refine zag rfl rfl (op_ixar (j := (((srtS (rowY l (g.ks.mergeSort leI)[i])).take m).foldl mergeS (gathR l ((g.ks.mergeSort leI).take i))).length - 1) rfl sl25 (ev1 rfl) (ev1 rfl) rfl (fun _ => by first | rfl | omega) (fun _ => by omega)) ?_
          refine zag rfl rfl (op_faa rfl fo32_2 (ev1 rfl)) ?_
          refine lex_s rfl rfl (op_staf (j := (((srtS (rowY l (g.ks.mergeSort leI)[i])).take m).foldl mergeS (gathR l ((g.ks.mergeSort leI).take i))).length - 1) (c := 2) (zSp) (⟨(lastS (((srtS (rowY l (g.ks.mergeSort leI)[i])).take m).foldl mergeS (gathR l ((g.ks.mergeSort leI).take i)))).y, (lastS (((srtS (rowY l (g.ks.mergeSort leI)[i])).take m).foldl mergeS (gathR l ((g.ks.mergeSort leI).take i)))).f, max (lastS (((srtS (rowY l (g.ks.mergeSort leI)[i])).take m).foldl mergeS (gathR l ((g.ks.mergeSort leI).take i)))).t (srtS (rowY l (g.ks.mergeSort leI)[i]))[m].t⟩) rfl tb3 (ev1 rfl) (ev1 rfl) rfl rfl rfl rfl (fun _ => rfl) (fun _ => by omega) (Nat.le_of_ble_eq_true rfl) rfl) rfl (by simp only [upd, zaa, za]; exact rfl) ?_
          refine lex_nil ?_
          refine zad ?_
          refine zab rfl rfl rfl (op_add' rfl (ev1 rfl) (ev1 rfl) (fun _ => IntWalk.i64_in _ (by omega))) ?_
          refine zab rfl rfl rfl (zac (.inl rfl) (ev1 rfl)) ?_
          refine zae ?_
          refine ⟨m + 1, [0, 1, 2, 3, 4, 5], by omega, by simp only []; omega, rfl, ⟨rfl, rfl, rfl, rfl, rfl, rfl, rfl, rfl, rfl, trivial⟩, ⟨mpd_fits rfl rfl (fun _ => rfl), rfl, rfl, rfl, (by rw [merges_take hmi, mergeS_set (by omega) hna, List.length_set]; rfl), rfl, trivial⟩⟩
        · have hpush := push_ok hyy hry hmi (fun h => by
            rw [Bool.and_eq_false_iff] at c3
            rcases c3 with c3 | c3
            · have := of_decide_eq_false c3
              omega
            · apply h.2
              simpa using c3)
          refine zai 1 (by simp only [holes, List.cons_append, List.nil_append]; exact rfl) ?_
          refine zad ?_
          refine zab rfl rfl rfl (zac (.inl rfl) (ev1 rfl)) ?_
          refine zab rfl rfl rfl (op_ldw rfl tb32 (ev1 rfl) rfl rfl) ?_
          refine zab rfl rfl rfl (op_bs (ps := [(0, .tmp 81)]) rfl sl25 zr32 rfl (vc (ev1 rfl) vn) rfl (by decide) (by decide)) ?_
          refine zaj rfl rfl rfl (op_app (j := 7) rfl sl25 zr32 rfl (ev1 rfl) (ev1 rfl) src_slf rfl rfl (fun _ => rfl) (fun _ => ⟨by omega, by omega⟩)) (by simp only [upd, zaa, za]; exact rfl) ?_
          refine zab rfl rfl rfl (zac (.inr rfl) (ev1 rfl)) ?_
          refine zae ?_
          refine zad ?_
          refine zab rfl rfl rfl (op_add' rfl (ev1 rfl) (ev1 rfl) (fun _ => IntWalk.i64_in _ (by omega))) ?_
          refine zab rfl rfl rfl (zac (.inl rfl) (ev1 rfl)) ?_
          refine zae ?_
          refine ⟨m + 1, [0, 1, 2, 3, 7, 5], by omega, by simp only []; omega, rfl, ⟨rfl, rfl, rfl, rfl, rfl, rfl, rfl, rfl, rfl, trivial⟩, ⟨mpd_fits rfl rfl (fun _ => rfl), rfl, rfl, rfl, (by rw [merges_take hmi, mergeS_push hpush, List.length_append, List.flatMap_append]; rfl), rfl, trivial⟩⟩
      · try simp only [decide_eq_true_eq, decide_eq_false_iff_not, beq_iff_eq, bne_iff_ne, beq_eq_false_iff_ne, bne_eq_false_iff_eq, Bool.not_eq_true', Bool.not_eq_false', Bool.and_eq_true, Bool.or_eq_true, Bool.or_eq_false_iff, ne_eq, Decidable.not_not, Int.not_lt, Int.not_le] at c3
        refine dwp_exit ?_
        refine zad ?_
        refine zab rfl rfl rfl (op_add' rfl (ev1 rfl) (ev1 rfl) (fun _ => IntWalk.i64_in _ (by omega))) ?_
        refine zab rfl rfl rfl (zac (.inl rfl) (ev1 rfl)) ?_
        refine zae ?_
        have hfin : (srtS (rowY l (g.ks.mergeSort leI)[i])).take m = srtS (rowY l (g.ks.mergeSort leI)[i]) := take_all (by omega)
        refine ⟨(i + 1, _), [0, 1, 2, 3, 4], ⟨by omega, hL.step hg hi hj hk⟩, by simp only []; omega, rfl, ⟨rfl, rfl, rfl, rfl, rfl, trivial⟩, ⟨mpd_fits rfl rfl (fun _ => rfl), rfl, rfl, rfl, (by rw [gathR_add l _ hi, hfin]; rfl), trivial⟩⟩
    · try simp only [decide_eq_true_eq, decide_eq_false_iff_not, beq_iff_eq, bne_iff_ne, beq_eq_false_iff_ne, bne_eq_false_iff_eq, Bool.not_eq_true', Bool.not_eq_false', Bool.and_eq_true, Bool.or_eq_true, Bool.or_eq_false_iff, ne_eq, Decidable.not_not, Int.not_lt, Int.not_le] at c2
      refine dwp_exit ?_
      refine zaf ?_
      refine zad ?_
      refine zab rfl rfl rfl (zac (.inl rfl) (ev1 rfl)) ?_
      refine zab rfl rfl rfl (zac (.inr rfl) (ev1 rfl)) ?_
      refine zae ?_
      refine dwp_ret ?_
      refine kend [4] (rs1 rfl (rv_t rfl)) rfl rfl ?_ ⟨?_, trivial⟩
      rfl
      exact (by rw [show gathR l ((g.ks.mergeSort leI).take i) = normS l by rw [take_all (by omega)]; exact gathR_norm hv hsr.1 hkey]; rfl)
end Go.Proofs.YtjgnalfnginjbaaGreatDoor
namespace Go.Proofs.YtjgnalfnginjbaaGreatDoor
set_option maxRecDepth 4000
set_option linter.unusedVariables false
set_option linter.unusedSimpArgs false
open Go.RowKit
theorem fo147_0 : fdO Tryz.prog 147 0 = some 0 := by kernel_rfl
theorem fo147_1 : fdO Tryz.prog 147 1 = some 1 := by kernel_rfl
theorem fo147_2 : fdO Tryz.prog 147 2 = some 2 := by kernel_rfl
theorem fo147_3 : fdO Tryz.prog 147 3 = some 3 := by kernel_rfl
theorem sl142 : slE Tryz.prog 142 = some (25, 1, 24) := by kernel_rfl
theorem tb25 : tyB Tryz.prog 25 = some (false, 1) := by kernel_rfl
theorem gath_d (l : List Sp) (hv : ∀ s ∈ l, s.f ≤ s.t) (hb : ∀ s ∈ l, bdS s) (hn : l.length ≤ 1000000) : DFun Tryz.prog 98 [.slf 3 l.length (l.flatMap s3)] [] (.slf 3 (normS l).length ((normS l).flatMap s3)) [] := freeze (gath_o l hv hb hn) rfl
def allC (rr : List (List Sp)) : Bool := rr.all fun l => decide (chkS l)
def uniL (rr : List (List Sp)) : List Sp := if allC rr = true then normS rr.flatten else []
def uniE (rr : List (List Sp)) : Int := if allC rr = true then 0 else 160
theorem uni_ok {rr : List (List Sp)} (h : allC rr = true) : uniL rr = normS rr.flatten ∧ uniE rr = 0 := by unfold uniL uniE; rw [if_pos h, if_pos h]; exact ⟨rfl, rfl⟩
theorem uni_no {rr : List (List Sp)} (h : allC rr = false) : uniL rr = [] ∧ uniE rr = 160 := by unfold uniL uniE; rw [h]; exact ⟨rfl, rfl⟩
theorem allC_add {rr : List (List Sp)} {i : Nat} (hi : i < rr.length) (h : allC (rr.take i) = true) (hc : chkS rr[i]) : allC (rr.take (i + 1)) = true := by
  unfold allC at *
  rw [List.take_succ_eq_append_getElem hi, List.all_append, h]
  simp [hc]
theorem allC_at {rr : List (List Sp)} {i : Nat} (hi : i < rr.length) (hc : ¬ chkS rr[i]) : allC rr = false := by
  unfold allC
  refine List.all_eq_false.2 ⟨rr[i], List.getElem_mem hi, by simp [hc]⟩
theorem allC_mem {rr : List (List Sp)} (h : allC rr = true) {l : List Sp} (hl : l ∈ rr) : chkS l := by simpa using List.all_eq_true.1 h l hl
theorem flat_add {α : Type} {rr : List (List α)} {i : Nat} (hi : i < rr.length) : (rr.take (i + 1)).flatten = (rr.take i).flatten ++ rr[i] := by rw [List.take_succ_eq_append_getElem hi, List.flatten_append]; simp
theorem flat_le {α : Type} (rr : List (List α)) (i : Nat) : (rr.take i).flatten.length ≤ rr.flatten.length := by
  have : rr.flatten = (rr.take i).flatten ++ (rr.drop i).flatten := by rw [← List.flatten_append, List.take_append_drop]
  rw [this, List.length_append]; omega
theorem allC_flat {rr : List (List Sp)} (h : allC rr = true) : ∀ s ∈ rr.flatten, rchS s ∧ s.f ≤ s.t := fun s hs => by
  obtain ⟨l, hl, h1⟩ := List.mem_flatten.1 hs
  exact (allC_mem h hl).1 s h1
theorem oc3 (l : List Sp) : (l.flatMap s3).all (·.oneCell') = true := flat_oc (fun _ => rfl) l
set_option maxRecDepth 4000 in
set_option maxHeartbeats 1000000 in
theorem union_d (rr : List (List Sp)) (hn : rr.flatten.length ≤ 1000000) : DFun Tryz.prog 73 [.slm 1 (rr).length ((rr).flatMap fun l => [.slf 3 l.length (l.flatMap s3)])] [] (.tup [.slf 3 (uniL rr).length ((uniL rr).flatMap s3), .val (.int .i64 (uniE rr))]) [] := by
  refine dcalls_go (N := 25) 0 (by kernel_rfl) Tryz.func73 rfl rfl rfl (by simp only [fr0, Nat.zero_add, Nat.reduceAdd]; exact rfl) rfl fun s0 hs0 => ?_
  refine dwp_lenm (t := 0) rfl fun hl0 hL0 => ?_
  refine zaf ?_
  refine zad ?_
  refine zab rfl rfl rfl (zac (.inr rfl) (ev1 rfl)) ?_
  refine zab rfl rfl rfl (zac (.inr rfl) (ev1 rfl)) ?_
  refine zae ?_
  refine zaf ?_
  refine zad ?_
  refine zab rfl rfl rfl (zac (.inr rfl) (ev1 rfl)) ?_
  refine zae ?_
  refine zaf ?_
  refine zaf ?_
  refine zad ?_
  refine zab rfl rfl rfl (zac (.inl rfl) (ev1 rfl)) ?_
  refine zab rfl rfl rfl (op_lenm rfl sl142 (ev1 rfl)) ?_
  refine zab rfl rfl rfl (zac (.inl rfl) (ev1 rfl)) ?_
  refine zae ?_
  refine dwp_block ?_
  refine dwp_adopt 4 32 3 rfl rfl rfl ?_
  refine dwp_loopS ⟨hs0, rfl⟩ (α := Nat) (fun i => [(10, .val (.int .i64 (i : Int)))]) [(4, _), (8, _), (9, _)] (fun i => [(0, .arr 32 3 ((rr.take i).flatten).length (((rr.take i).flatten).flatMap s3))]) [.hole] (fun i => i ≤ rr.length ∧ allC (rr.take i) = true) (fun i => rr.length - i) 0 [0] (⟨Nat.zero_le _, rfl⟩) rfl ⟨rfl, rfl, rfl, trivial⟩ ⟨rfl, trivial⟩ ⟨rfl, trivial⟩ ?_
  intro i hx
  simp only [upd, zaa, za, List.cons_append, List.nil_append]
  obtain ⟨hi0, hok⟩ := hx
  have hfl := flat_le rr i
  refine zaf ?_
  refine zad ?_
  refine zab rfl rfl rfl (op_lss rfl (ev1 rfl) (ev1 rfl)) ?_
  refine zae ?_
  refine zaf ?_
  refine dwp_cond rfl (fun c1 => ?_) (fun c1 => ?_)
  · try simp only [decide_eq_true_eq, decide_eq_false_iff_not, beq_iff_eq, bne_iff_ne, beq_eq_false_iff_ne, bne_eq_false_iff_eq, Bool.not_eq_true', Bool.not_eq_false', Bool.and_eq_true, Bool.or_eq_true, Bool.or_eq_false_iff, ne_eq, Decidable.not_not, Int.not_lt, Int.not_le] at c1
    refine zal ?_
    refine zaf ?_
    refine dwp_block ?_
    refine zaf ?_
    have hi : i < rr.length := by omega
    refine zad ?_
    refine zab rfl rfl rfl (op_ixm (i) rfl sl142 (ev1 rfl) (ev1 rfl) (fun _ => rfl) (flat1_at (by omega))) ?_
    refine zab rfl rfl rfl (op_lddm rfl tb25 (ev1 rfl) rfl) ?_
    refine zab rfl rfl rfl (zac (.inr rfl) (ev1 rfl)) ?_
    refine zae ?_
    refine zaf ?_
    refine zaf ?_
    refine zad ?_
    refine zab rfl rfl rfl (zac (.inl rfl) (ev1 rfl)) ?_
    refine zab rfl rfl rfl (zah [] [] [] rfl (ev1 rfl) (ec (ev1 rfl) en) rfl rfl (check_d rr[i]) rfl rfl rfl rfl rfl rfl) ?_
    refine zab rfl rfl rfl (zac (.inr rfl) (ev1 rfl)) ?_
    refine zae ?_
    refine zaf ?_
    refine zad ?_
    refine zab rfl rfl rfl (zac (.inl rfl) (ev1 rfl)) ?_
    refine zab rfl rfl rfl (op_neq rfl (ev1 rfl) (ev1 rfl)) ?_
    refine zae ?_
    refine dwp_cond rfl (fun c2 => ?_) (fun c2 => ?_)
    · have hc : ¬ chkS rr[i] := fun h => by rw [chkE_ok h] at c2; simp at c2
      have hall := uni_no (allC_at hi hc)
      rw [chkE_no hc]
      refine zaf ?_
      refine zad ?_
      refine zab rfl rfl rfl (zac (.inl rfl) (ev1 rfl)) ?_
      refine zab rfl rfl rfl (zac (.inr rfl) (ev1 rfl)) ?_
      refine zab rfl rfl rfl (zac (.inr rfl) (ev1 rfl)) ?_
      refine zae ?_
      refine dwp_wk 2 rfl (Wk.slf0 3) ?_
      refine dwp_ret ?_
      refine kend0 (rs2 rfl (rv_t rfl) (rv_t rfl)) rfl ?_
      rw [hall.1, hall.2]
      rfl
    · have hc : chkS rr[i] := by
        by_cases h : chkS rr[i]
        · exact h
        · rw [chkE_no h] at c2; simp at c2
      have hfa := flat_le rr (i + 1)
      rw [flat_add hi, List.length_append] at hfa
      refine zal ?_
      refine zai 1 (by simp only [holes, List.cons_append, List.nil_append]; exact rfl) ?_
      refine zad ?_
      refine zab rfl rfl rfl (zac (.inl rfl) (ev1 rfl)) ?_
      refine zab rfl rfl rfl (zac (.inl rfl) (ev1 rfl)) ?_
      refine zaj rfl rfl rfl (op_app (j := 1) rfl sl25 zr32 rfl (ev1 rfl) (ev1 rfl) src_slf rfl rfl (fun _ => oc3 _) (fun _ => ⟨by omega, by omega⟩)) (by simp only [upd, zaa, za]; exact rfl) ?_
      refine zab rfl rfl rfl (zac (.inr rfl) (ev1 rfl)) ?_
      refine zae ?_
      refine zad ?_
      refine zab rfl rfl rfl (op_add' rfl (ev1 rfl) (ev1 rfl) (fun _ => IntWalk.i64_in _ (by omega))) ?_
      refine zab rfl rfl rfl (zac (.inl rfl) (ev1 rfl)) ?_
      refine zae ?_
      refine ⟨i + 1, [1], ⟨by omega, allC_add hi hok hc⟩, by simp only []; omega, rfl, ⟨rfl, rfl, rfl, rfl, trivial⟩, ⟨(by rw [flat_add hi, List.length_append, List.flatMap_append]; rfl), trivial⟩⟩
  · try simp only [decide_eq_true_eq, decide_eq_false_iff_not, beq_iff_eq, bne_iff_ne, beq_eq_false_iff_ne, bne_eq_false_iff_eq, Bool.not_eq_true', Bool.not_eq_false', Bool.and_eq_true, Bool.or_eq_true, Bool.or_eq_false_iff, ne_eq, Decidable.not_not, Int.not_lt, Int.not_le] at c1
    refine dwp_exit ?_
    refine zaf ?_
    refine dwp_giveA 4 rfl rfl (by simp only [zaa, za]; exact rfl) ?_
    rw [take_all (by omega)] at hok
    have hall := uni_ok hok
    have hvf := allC_flat hok
    rw [show (rr.take i).flatten = rr.flatten by rw [take_all (by omega)]]
    refine zad ?_
    refine zab rfl rfl rfl (zac (.inl rfl) (ev1 rfl)) ?_
    refine zab rfl rfl rfl (zah [] [] [] rfl (ev1 rfl) (ec (ev1 rfl) en) rfl rfl (gath_d _ (fun s hs => (hvf s hs).2) (fun s hs => rch_bd (hvf s hs).1) hn) rfl rfl rfl rfl rfl rfl) ?_
    refine zab rfl rfl rfl (zac (.inr rfl) (ev1 rfl)) ?_
    refine zab rfl rfl rfl (zac (.inr rfl) (ev1 rfl)) ?_
    refine zae ?_
    refine dwp_ret ?_
    refine kend0 (rs2 rfl (rv_t rfl) (rv_t rfl)) rfl ?_
    rw [hall.1, hall.2]
def clipL (c : Bx) (l : List Sp) : List Sp := if chkS l then clipS c l else []
theorem clipL_ok {c : Bx} {l : List Sp} (h : chkS l) : clipL c l = clipS c l := if_pos h
theorem clipL_no {c : Bx} {l : List Sp} (h : ¬ chkS l) : clipL c l = [] := if_neg h
def inBx (c : Bx) (s : Sp) : Bool := decide (c.y ≤ s.y) && decide (s.y ≤ c.y2) && decide (max s.f c.x ≤ min s.t c.x2)
theorem clipS_add {c : Bx} {l : List Sp} {i : Nat} (hi : i < l.length) : clipS c (l.take (i + 1)) = clipS c (l.take i) ++ (if inBx c l[i] = true then [l[i].clip c] else []) := by
  unfold clipS
  rw [List.take_succ_eq_append_getElem hi, List.map_append, List.filter_append]
  congr 1
  have e : inBx c l[i] = decide (c.y ≤ (l[i].clip c).y ∧ (l[i].clip c).y ≤ c.y2 ∧ (l[i].clip c).f ≤ (l[i].clip c).t) := by
    unfold inBx Sp.clip
    rw [Bool.eq_iff_iff]
    simp [and_assoc]
  rw [e]
  simp only [List.map_cons, List.map_nil, List.filter_cons, List.filter_nil]
theorem clipS_len (c : Bx) (l : List Sp) : (clipS c l).length ≤ l.length := by
  unfold clipS
  refine Nat.le_trans (List.length_filter_le ..) ?_
  simp
set_option maxRecDepth 4000 in
set_option maxHeartbeats 1000000 in
theorem clip_d (l : List Sp) (c : Bx) (hn : l.length ≤ 1000000) : DFun Tryz.prog 105 [.slf 3 l.length (l.flatMap s3), .val (.agg #[.int .i64 c.x, .int .i64 c.y, .int .i64 c.x2, .int .i64 c.y2])] [] (.tup [.slf 3 (clipL c l).length ((clipL c l).flatMap s3), .val (.int .i64 (chkE l))]) [] := by
  refine dcalls_go (N := 58) 0 (by kernel_rfl) Tryz.func105 rfl rfl rfl (by simp only [fr0, Nat.zero_add, Nat.reduceAdd]; exact rfl) rfl fun s0 hs0 => ?_
  refine dwp_len (t := 0) rfl fun hl0 hL0 => ?_
  refine zaf ?_
  refine zai 1 (by simp only [holes, List.cons_append, List.nil_append]; exact rfl) ?_
  refine zad ?_
  refine zaj rfl rfl rfl (op_boxa 0 rfl (ev1 rfl) rfl) (by simp only [upd, zaa, za]; exact rfl) ?_
  refine zab rfl rfl rfl (zac (.inr rfl) (ev1 rfl)) ?_
  refine zab rfl rfl rfl (zac (.inr rfl) (ev1 rfl)) ?_
  refine zae ?_
  refine zaf ?_
  refine zaf ?_
  refine zad ?_
  refine zab rfl rfl rfl (zac (.inl rfl) (ev1 rfl)) ?_
  refine zab rfl rfl rfl (zah [] [] [] rfl (ev1 rfl) (ec (ev1 rfl) en) rfl rfl (check_d l) rfl rfl rfl rfl rfl rfl) ?_
  refine zab rfl rfl rfl (zac (.inr rfl) (ev1 rfl)) ?_
  refine zae ?_
  refine zaf ?_
  refine zad ?_
  refine zab rfl rfl rfl (zac (.inl rfl) (ev1 rfl)) ?_
  refine zab rfl rfl rfl (op_neq rfl (ev1 rfl) (ev1 rfl)) ?_
  refine zae ?_
  refine dwp_cond rfl (fun c1 => ?_) (fun c1 => ?_)
  · have hc : ¬ chkS l := fun h => by rw [chkE_ok h] at c1; simp at c1
    have hcl := clipL_no (c := c) hc
    refine zaf ?_
    refine zad ?_
    refine zab rfl rfl rfl (zac (.inl rfl) (ev1 rfl)) ?_
    refine zab rfl rfl rfl (zac (.inr rfl) (ev1 rfl)) ?_
    refine zab rfl rfl rfl (zac (.inr rfl) (ev1 rfl)) ?_
    refine zae ?_
    refine dwp_wk 4 rfl (Wk.slf0 3) ?_
    refine dwp_ret ?_
    refine kend0 (rs2 rfl (rv_t rfl) (rv_t rfl)) rfl ?_
    rw [hcl]
    rfl
  · have hc : chkS l := by
      by_cases h : chkS l
      · exact h
      · rw [chkE_no h] at c1; simp at c1
    have hcl := clipL_ok (c := c) hc
    refine zal ?_
    refine zaf ?_
    refine zad ?_
    refine zab rfl rfl rfl (zac (.inr rfl) (ev1 rfl)) ?_
    refine zae ?_
    refine zaf ?_
    refine zaf ?_
    refine zad ?_
    refine zab rfl rfl rfl (zac (.inl rfl) (ev1 rfl)) ?_
    refine zab rfl rfl rfl (op_len rfl sl25 (ev1 rfl)) ?_
    refine zab rfl rfl rfl (zac (.inl rfl) (ev1 rfl)) ?_
    refine zae ?_
    refine dwp_block ?_
    refine dwp_adopt 7 32 3 rfl rfl rfl ?_
    refine dwp_loopS ⟨hs0, rfl⟩ (α := Nat) (fun i => [(17, .val (.int .i64 (i : Int)))]) [(3, _), (7, _), (15, _), (16, _)] (fun i => [(1, .arr 32 3 ((clipS c (l.take i))).length (((clipS c (l.take i))).flatMap s3))]) [_, .hole] (fun i => i ≤ l.length) (fun i => l.length - i) 0 [0, 1] (Nat.zero_le _) rfl ⟨rfl, rfl, rfl, rfl, trivial⟩ ⟨rfl, trivial⟩ ⟨rfl, rfl, trivial⟩ ?_
    intro i hx
    simp only [upd, zaa, za, List.cons_append, List.nil_append]
    have hi0 := hx
    have hcl2 := clipS_len c (l.take i)
    rw [List.length_take] at hcl2
    refine zaf ?_
    refine zad ?_
    refine zab rfl rfl rfl (op_lss rfl (ev1 rfl) (ev1 rfl)) ?_
    refine zae ?_
    refine zaf ?_
    refine dwp_cond rfl (fun c2 => ?_) (fun c2 => ?_)
    · try simp only [decide_eq_true_eq, decide_eq_false_iff_not, beq_iff_eq, bne_iff_ne, beq_eq_false_iff_ne, bne_eq_false_iff_eq, Bool.not_eq_true', Bool.not_eq_false', Bool.and_eq_true, Bool.or_eq_true, Bool.or_eq_false_iff, ne_eq, Decidable.not_not, Int.not_lt, Int.not_le] at c2
      refine zal ?_
      refine zaf ?_
      refine dwp_block ?_
      refine zaf ?_
      have hi : i < l.length := by omega
      refine zai 1 (by simp only [holes, List.cons_append, List.nil_append]; exact rfl) ?_
      refine zad ?_
      refine zab rfl rfl rfl (op_ixsr (j := i) rfl sl25 (ev1 rfl) (ev1 rfl) (fun _ => rfl) (by decide) (by omega) (by omega)) ?_
      refine zab rfl rfl rfl (op_ldwd rfl tb32 (ev1 rfl) rfl) ?_
      refine zaj rfl rfl rfl (op_alloc 2 rfl zr32 rfl) (by simp only [upd, zaa, za]; exact rfl) ?_
      refine walk_s rfl rfl (op_stwa rfl tb32 (ev1 rfl) (ev1 rfl) rfl rfl rfl rfl) (by simp only [upd, zaa, za]; exact rfl) ?_
      refine zae ?_
      refine zaf ?_
      refine dwp_draw [([], []), ([2], []), ([], []), ([0], []), ([], []), ([], []), ([2], []), ([], []), ([0], []), ([], []), ([], []), ([2], [2]), ([], []), ([2], [2])] mixed (by kernel_rfl) ?_
      refine zag rfl rfl (op_fa rfl fo32_1 (ev1 rfl)) ?_
      refine zag rfl rfl (op_ldo rfl tb3 (ev1 rfl) rfl rfl) ?_
      refine zag rfl rfl (op_fa rfl fo147_0 (ev1 rfl)) ?_
      refine zag rfl rfl (op_ldo rfl tb3 (ev1 rfl) rfl rfl) ?_
      refine zag rfl rfl (op_max rfl (ev1 rfl) (ev1 rfl)) ?_
      refine zag rfl rfl (op_fa rfl fo32_2 (ev1 rfl)) ?_
      refine zag rfl rfl (op_ldo rfl tb3 (ev1 rfl) rfl rfl) ?_
      refine zag rfl rfl (op_fa rfl fo147_2 (ev1 rfl)) ?_
      refine zag rfl rfl (op_ldo rfl tb3 (ev1 rfl) rfl rfl) ?_
      refine zag rfl rfl (op_min rfl (ev1 rfl) (ev1 rfl)) ?_
      refine zag rfl rfl (op_fa rfl fo32_1 (ev1 rfl)) ?_
      refine lex_s rfl rfl (op_st1 rfl tb3 (ev1 rfl) (ev1 rfl) rfl (Nat.le_of_ble_eq_true rfl) rfl) rfl (by simp only [upd, zaa, za]; exact rfl) ?_
      refine zag rfl rfl (op_fa rfl fo32_2 (ev1 rfl)) ?_
      refine lex_s rfl rfl (op_st1 rfl tb3 (ev1 rfl) (ev1 rfl) rfl (Nat.le_of_ble_eq_true rfl) rfl) rfl (by simp only [upd, zaa, za]; exact rfl) ?_
      refine lex_nil ?_
      refine zaf ?_
      refine zad ?_
      refine zab rfl rfl rfl (op_fa rfl fo32_0 (ev1 rfl)) ?_
      refine zab rfl rfl rfl (op_ldo rfl tb3 (ev1 rfl) rfl rfl) ?_
      refine zab rfl rfl rfl (op_fa rfl fo147_1 (ev1 rfl)) ?_
      refine zab rfl rfl rfl (op_ldo rfl tb3 (ev1 rfl) rfl rfl) ?_
      refine zab rfl rfl rfl (op_geq rfl (ev1 rfl) (ev1 rfl)) ?_
      refine zab rfl rfl rfl (zac (.inl rfl) (ev1 rfl)) ?_
      refine zak (gd_t rfl rfl rfl) rfl rfl rfl (op_fa rfl fo32_0 (ev1 rfl)) ?_
      refine zak (gd_t rfl rfl rfl) rfl rfl rfl (op_ldo rfl tb3 (ev2 rfl) rfl rfl) ?_
      refine zak (gd_t rfl rfl rfl) rfl rfl rfl (op_fa rfl fo147_3 (ev1 rfl)) ?_
      refine zak (gd_t rfl rfl rfl) rfl rfl rfl (op_ldo rfl tb3 (ev2 rfl) rfl rfl) ?_
      refine zak (gd_t rfl rfl rfl) rfl rfl rfl (op_leq rfl (ev2 rfl) (ev2 rfl)) ?_
      refine zab rfl rfl rfl (op_and rfl (ev1 rfl) (ev3 rfl id)) ?_
      refine zab rfl rfl rfl (zac (.inl rfl) (ev1 rfl)) ?_
      refine zak (gd_t rfl rfl rfl) rfl rfl rfl (op_fa rfl fo32_1 (ev1 rfl)) ?_
      refine zak (gd_t rfl rfl rfl) rfl rfl rfl (op_ldo rfl tb3 (ev2 rfl) rfl rfl) ?_
      refine zak (gd_t rfl rfl rfl) rfl rfl rfl (op_fa rfl fo32_2 (ev1 rfl)) ?_
      refine zak (gd_t rfl rfl rfl) rfl rfl rfl (op_ldo rfl tb3 (ev2 rfl) rfl rfl) ?_
      refine zak (gd_t rfl rfl rfl) rfl rfl rfl (op_leq rfl (ev2 rfl) (ev2 rfl)) ?_
      refine zab rfl rfl rfl (op_and rfl (ev1 rfl) (ev3 rfl id)) ?_
      refine zae ?_
      refine dwp_cond rfl (fun c2 => ?_) (fun c2 => ?_)
      · have hin : inBx c l[i] = true := by unfold inBx; rw [Bool.and_assoc] at *; simpa using c2
        refine zai 1 (by simp only [holes, List.cons_append, List.nil_append]; exact rfl) ?_
        refine zad ?_
        refine zab rfl rfl rfl (zac (.inl rfl) (ev1 rfl)) ?_
        refine zab rfl rfl rfl (op_ldw rfl tb32 (ev1 rfl) rfl rfl) ?_
        refine zab rfl rfl rfl (op_bs (ps := [(0, .tmp 53)]) rfl sl25 zr32 rfl (vc (ev1 rfl) vn) rfl (by decide) (by decide)) ?_
        refine zaj rfl rfl rfl (op_app (j := 3) rfl sl25 zr32 rfl (ev1 rfl) (ev1 rfl) src_slf rfl rfl (fun _ => rfl) (fun _ => ⟨by omega, by omega⟩)) (by simp only [upd, zaa, za]; exact rfl) ?_
        refine zab rfl rfl rfl (zac (.inr rfl) (ev1 rfl)) ?_
        refine zae ?_
        refine zad ?_
        refine zab rfl rfl rfl (op_add' rfl (ev1 rfl) (ev1 rfl) (fun _ => IntWalk.i64_in _ (by omega))) ?_
        refine zab rfl rfl rfl (zac (.inl rfl) (ev1 rfl)) ?_
        refine zae ?_
        refine ⟨i + 1, [0, 3], by omega, by simp only []; omega, rfl, ⟨rfl, rfl, rfl, rfl, rfl, trivial⟩, ⟨rfl, (by rw [clipS_add hi, if_pos hin, List.length_append, List.flatMap_append]; rfl), trivial⟩⟩
      · have hin : inBx c l[i] = false := by rw [← c2]; unfold inBx; simp
        refine zal ?_
        refine zad ?_
        refine zab rfl rfl rfl (op_add' rfl (ev1 rfl) (ev1 rfl) (fun _ => IntWalk.i64_in _ (by omega))) ?_
        refine zab rfl rfl rfl (zac (.inl rfl) (ev1 rfl)) ?_
        refine zae ?_
        refine ⟨i + 1, [0, 1], by omega, by simp only []; omega, rfl, ⟨rfl, rfl, rfl, rfl, rfl, trivial⟩, ⟨rfl, (by rw [clipS_add hi, if_neg (by rw [hin]; decide), List.append_nil]; rfl), trivial⟩⟩
    · try simp only [decide_eq_true_eq, decide_eq_false_iff_not, beq_iff_eq, bne_iff_ne, beq_eq_false_iff_ne, bne_eq_false_iff_eq, Bool.not_eq_true', Bool.not_eq_false', Bool.and_eq_true, Bool.or_eq_true, Bool.or_eq_false_iff, ne_eq, Decidable.not_not, Int.not_lt, Int.not_le] at c2
      refine dwp_exit ?_
      refine zaf ?_
      refine zad ?_
      refine zab rfl rfl rfl (zac (.inl rfl) (ev1 rfl)) ?_
      refine zab rfl rfl rfl (zac (.inr rfl) (ev1 rfl)) ?_
      refine zab rfl rfl rfl (zac (.inr rfl) (ev1 rfl)) ?_
      refine zae ?_
      refine dwp_ret ?_
      rw [show clipS c (l.take i) = clipS c l by rw [take_all (by omega)]]
      refine kend0 (rs2 rfl (rv_t rfl) (rv_t rfl)) rfl ?_
      rw [hcl, chkE_ok hc]
end Go.Proofs.YtjgnalfnginjbaaGreatDoor
namespace Go.Proofs.YtjgnalfnginjbaaGreatDoor
set_option maxRecDepth 4000
set_option linter.unusedVariables false
set_option linter.unusedSimpArgs false
open Go.RowKit
set_option maxRecDepth 4000 in
set_option maxHeartbeats 1000000 in
theorem told_d (l : List Sp) : DFun Tryz.prog 80 [.slf 3 l.length (l.flatMap s3)] [] (.fn (.func 103) [] [.loc 0 0]) [.mix 25 [.slf 3 l.length (l.flatMap s3)]] := by
  refine dcalls_go (N := 4) 0 (by kernel_rfl) Tryz.func80 rfl rfl rfl (by simp only [fr0, Nat.zero_add, Nat.reduceAdd]; exact rfl) rfl fun s0 hs0 => ?_
  refine dwp_len (t := 0) rfl fun hl0 hL0 => ?_
  refine zaf ?_
  refine zai 1 (by simp only [holes, List.cons_append, List.nil_append]; exact rfl) ?_
  refine zad ?_
  refine zaj rfl rfl rfl (op_boxm 0 rfl (ev1 rfl) (fun s v h => by cases h <;> rfl) rfl) (by simp only [upd, zaa, za]; exact rfl) ?_
  refine zab rfl rfl rfl (zac (.inr rfl) (ev1 rfl)) ?_
  refine zae ?_
  refine zaf ?_
  refine zad ?_
  refine zab rfl rfl rfl (op_mkf rfl en (ec (ev1 rfl) en)) ?_
  refine zab rfl rfl rfl (zac (.inr rfl) (ev1 rfl)) ?_
  refine zae ?_
  refine dwp_ret ?_
  refine kend [0] (rs1 rfl (rv_t rfl)) rfl rfl ?_ ⟨rfl, trivial⟩
  rfl
theorem cnt_le {l : List Sp} (h : chkS l) (i : Nat) : cntS (l.take i) ≤ l.length * 512 := by
  have h1 : ∀ (m : List Sp), (∀ s ∈ m, rchS s ∧ s.f ≤ s.t) → cntS m ≤ m.length * 512 := fun m => by
    induction m with
    | nil => intro _; exact Nat.le_refl _
    | cons a m ih =>
      intro hm
      have h2 := ih fun s hs => hm s (List.mem_cons_of_mem _ hs)
      have h3 := hm a (List.mem_cons_self ..)
      unfold rchS at h3
      have h4 : a.wd ≤ 512 := by unfold Sp.wd; omega
      unfold cntS at *
      rw [List.map_cons, List.sum_cons, List.length_cons]
      omega
  have h2 := h1 (l.take i) fun s hs => h.1 s (List.mem_of_mem_take hs)
  rw [List.length_take] at h2
  have : min i l.length * 512 ≤ l.length * 512 := Nat.mul_le_mul_right _ (Nat.min_le_right _ _)
  omega
end Go.Proofs.YtjgnalfnginjbaaGreatDoor
namespace Go.Proofs.YtjgnalfnginjbaaGreatDoor
set_option maxRecDepth 4000
set_option linter.unusedVariables false
set_option linter.unusedSimpArgs false
open Go.RowKit
theorem fl141 : fdL Tryz.prog 141 = some [(0, 2), (2, 2), (4, 2), (6, 1)] := by kernel_rfl
theorem fl32 : fdL Tryz.prog 32 = some [(0, 1), (1, 1), (2, 1)] := by kernel_rfl
theorem fo141_0 : fdO Tryz.prog 141 0 = some 0 := by kernel_rfl
theorem fo141_1 : fdO Tryz.prog 141 1 = some 2 := by kernel_rfl
theorem fo141_2 : fdO Tryz.prog 141 2 = some 4 := by kernel_rfl
theorem fo141_3 : fdO Tryz.prog 141 3 = some 6 := by kernel_rfl
theorem tb141 : tyB Tryz.prog 141 = some (true, 7) := by kernel_rfl
theorem zr141 : zrC Tryz.prog 141 = some [.int .i64 0, .int .i64 0, .int .i64 0, .int .i64 0, .int .i64 0, .int .i64 0, .int .i64 0] := by kernel_rfl
theorem far_int {n k w : Nat} {m : Int} (h : m = 2 * (k : Int) * (w : Int) + (n : Int)) : m / (2 * (n : Int)) = (farN n k w : Nat) := by
  subst h
  unfold farN
  push_cast
  rfl
set_option maxRecDepth 4000 in
set_option maxHeartbeats 1000000 in
theorem along_d (a b : P2) (x y f t : Int) (n k : Nat) (hn : 0 < n) (h1 : n ≤ 1000) (hk : k ≤ 1000) (hf : -1000 ≤ f ∧ f ≤ 1000) (ht : -1000 ≤ t ∧ t ≤ 1000) : DFun Tryz.prog 124 [.loc 0 0, .val (.int .i64 f), .val (.int .i64 t), .val (.int .i64 (n : Int))] [.flat 141 [.int .i64 x, .int .i64 y, .int .i64 a.x, .int .i64 a.y, .int .i64 b.x, .int .i64 b.y, .int .i64 (k : Int)]] (.val (.int .i64 (alongZ n k f t))) [.flat 141 [.int .i64 x, .int .i64 y, .int .i64 a.x, .int .i64 a.y, .int .i64 b.x, .int .i64 b.y, .int .i64 (k : Int)]] := by
  have hw := wayN_eq f t
  have hw2 : wayN f t ≤ 2000 := by omega
  have hmul : (0 : Int) ≤ 2 * (k : Int) * (wayN f t : Int) ∧ 2 * (k : Int) * (wayN f t : Int) ≤ 2000 * 2000 := ⟨Int.mul_nonneg (by omega) (by omega), Int.mul_le_mul (by omega) (by omega) (by omega) (by omega)⟩
  have hfar : farN n k (wayN f t) ≤ 5000000 := by
    unfold farN
    refine Nat.le_trans (Nat.div_le_self _ _) ?_
    have : 2 * k * wayN f t ≤ 2000 * 2000 := Nat.mul_le_mul (by omega) hw2
    omega
  refine dcalls_go (N := 33) 1 (by kernel_rfl) Tryz.func124 rfl rfl rfl (by simp only [fr0, Nat.zero_add, Nat.reduceAdd]; exact rfl) rfl fun s0 hs0 => ?_
  refine zaf ?_
  refine zad ?_
  refine zab rfl rfl rfl (zac (.inr rfl) (ev1 rfl)) ?_
  refine zae ?_
  refine zaf ?_
  refine dwp_draw [([], []), ([], []), ([], []), ([0], []), ([], []), ([], []), ([], []), ([], []), ([], []), ([], []), ([], []), ([], []), ([], []), ([], []), ([], [])] mixed (by kernel_rfl) ?_
  refine zag rfl rfl (zac (.inl rfl) (ev1 rfl)) ?_
  refine zag rfl rfl (op_nc rfl (ev1 rfl) (fun s v h => by cases h; exact ⟨_, rfl⟩)) ?_
  refine zag rfl rfl (op_fa rfl fo141_3 (ev1 rfl)) ?_
  refine zag rfl rfl (op_ldo rfl tb3 (ev1 rfl) rfl rfl) ?_
  refine zag rfl rfl (op_mul' rfl (ev1 rfl) (ev1 rfl) (fun _ => IntWalk.i64_in _ (by omega))) ?_
  refine zag rfl rfl (zac (.inl rfl) (ev1 rfl)) ?_
  refine zag rfl rfl (zac (.inl rfl) (ev1 rfl)) ?_
  refine zag rfl rfl (zah [] [] [] rfl (ev1 rfl) (ec (ev1 rfl) (ec (ev1 rfl) en)) rfl rfl (way_d f t (by omega) (by omega)) rfl rfl rfl rfl rfl rfl) ?_
  refine zag rfl rfl (op_mul' rfl (ev1 rfl) (ev1 rfl) (fun _ => IntWalk.i64_in _ (by omega))) ?_
  refine zag rfl rfl (zac (.inl rfl) (ev1 rfl)) ?_
  refine zag rfl rfl (op_add' rfl (ev1 rfl) (ev1 rfl) (fun _ => IntWalk.i64_in _ (by omega))) ?_
  refine zag rfl rfl (zac (.inl rfl) (ev1 rfl)) ?_
  refine zag rfl rfl (op_mul' rfl (ev1 rfl) (ev1 rfl) (fun _ => IntWalk.i64_in _ (by omega))) ?_
  refine zag rfl rfl ((op_quo' rfl (ev1 rfl) (ev1 rfl) (fun _ => ⟨by omega, by omega, by rw [far_int (k := k) (w := wayN f t) rfl]; exact IntWalk.i64_in _ (by omega)⟩)).cast (d' := .val (.int .i64 (farN n k (wayN f t) : Int))) (by rw [far_int (k := k) (w := wayN f t) rfl])) ?_
  refine zag rfl rfl (zac (.inr rfl) (ev1 rfl)) ?_
  refine lex_nil ?_
  refine zaf ?_
  refine zaf ?_
  refine zad ?_
  refine zab rfl rfl rfl (zac (.inl rfl) (ev1 rfl)) ?_
  refine zab rfl rfl rfl (zac (.inl rfl) (ev1 rfl)) ?_
  refine zab rfl rfl rfl (op_lss rfl (ev1 rfl) (ev1 rfl)) ?_
  refine zae ?_
  refine dwp_cond rfl (fun c1 => ?_) (fun c1 => ?_)
  · have c2 : t < f := by simpa using c1
    refine zaf ?_
    refine zad ?_
    refine zab rfl rfl rfl (zac (.inl rfl) (ev1 rfl)) ?_
    refine zab rfl rfl rfl (zac (.inl rfl) (ev1 rfl)) ?_
    refine zab rfl rfl rfl (op_sub' rfl (ev1 rfl) (ev1 rfl) (fun _ => IntWalk.i64_in _ (by omega))) ?_
    refine zab rfl rfl rfl (zac (.inr rfl) (ev1 rfl)) ?_
    refine zae ?_
    refine dwp_ret ?_
    refine kend [0] (rs1 rfl (rv_t rfl)) rfl rfl ?_ ⟨rfl, trivial⟩
    unfold alongZ
    rw [if_pos c2]
  · have c2 : ¬ t < f := by simpa using c1
    refine zal ?_
    refine zaf ?_
    refine zad ?_
    refine zab rfl rfl rfl (zac (.inl rfl) (ev1 rfl)) ?_
    refine zab rfl rfl rfl (zac (.inl rfl) (ev1 rfl)) ?_
    refine zab rfl rfl rfl (op_add' rfl (ev1 rfl) (ev1 rfl) (fun _ => IntWalk.i64_in _ (by omega))) ?_
    refine zab rfl rfl rfl (zac (.inr rfl) (ev1 rfl)) ?_
    refine zae ?_
    refine dwp_ret ?_
    refine kend [0] (rs1 rfl (rv_t rfl)) rfl rfl ?_ ⟨rfl, trivial⟩
    unfold alongZ
    rw [if_neg c2]
set_option maxRecDepth 4000 in
set_option maxHeartbeats 1000000 in
theorem pmove_d (a b : P2) (k : Nat) (hk : k < gr2 a b) (ha : drwB a = true) (hb : drwB b = true) : DFun Tryz.prog 99 [.loc 0 0] [.flat 141 [.int .i64 (lineP a b k).x, .int .i64 (lineP a b k).y, .int .i64 a.x, .int .i64 a.y, .int .i64 b.x, .int .i64 b.y, .int .i64 (k : Int)]] (.tup []) [.flat 141 [.int .i64 (lineP a b (k + 1)).x, .int .i64 (lineP a b (k + 1)).y, .int .i64 a.x, .int .i64 a.y, .int .i64 b.x, .int .i64 b.y, .int .i64 ((k + 1 : Nat) : Int)]] := by
  have hA := drwB_iff.1 ha
  have hB := drwB_iff.1 hb
  have hwx := wayN_eq a.x b.x
  have hwy := wayN_eq a.y b.y
  have hgr : gr2 a b ≤ 200 := by unfold gr2; omega
  have hmx : (max (wayN a.x b.x : Int) (wayN a.y b.y : Int)) = (gr2 a b : Nat) := by unfold gr2; omega
  refine dcalls_go (N := 67) 1 (by kernel_rfl) Tryz.func99 rfl rfl rfl (by simp only [fr0, Nat.zero_add, Nat.reduceAdd]; exact rfl) rfl fun s0 hs0 => ?_
  refine zaf ?_
  refine zad ?_
  refine zab rfl rfl rfl (zac (.inl rfl) (ev1 rfl)) ?_
  refine zab rfl rfl rfl (op_nc rfl (ev1 rfl) (fun s v h => by cases h; exact ⟨_, rfl⟩)) ?_
  refine zab rfl rfl rfl (op_fa rfl fo141_3 (ev1 rfl)) ?_
  refine zab rfl rfl rfl (op_ldo rfl tb3 (ev1 rfl) rfl rfl) ?_
  refine zab rfl rfl rfl (op_add' rfl (ev1 rfl) (ev1 rfl) (fun _ => IntWalk.i64_in _ (by omega))) ?_
  refine zab rfl rfl rfl (op_nc rfl (ev1 rfl) (fun s v h => by cases h; exact ⟨_, rfl⟩)) ?_
  refine zab rfl rfl rfl (op_fa rfl fo141_3 (ev1 rfl)) ?_
  refine walk_s rfl rfl (op_st1 rfl tb3 (ev1 rfl) (ev1 rfl) rfl (Nat.le_of_ble_eq_true rfl) rfl) (by simp only [upd, zaa, za]; exact rfl) ?_
  refine zae ?_
  refine zaf ?_
  refine dwp_draw [([], []), ([], []), ([], []), ([], []), ([0], []), ([], []), ([], []), ([], []), ([], []), ([0], []), ([], []), ([], []), ([], []), ([], []), ([], []), ([0], []), ([], []), ([], []), ([], []), ([], []), ([0], []), ([], []), ([], []), ([], [])] mixed (by kernel_rfl) ?_
  refine zag rfl rfl (zac (.inl rfl) (ev1 rfl)) ?_
  refine zag rfl rfl (op_nc rfl (ev1 rfl) (fun s v h => by cases h; exact ⟨_, rfl⟩)) ?_
  refine zag rfl rfl (op_fa rfl fo141_1 (ev1 rfl)) ?_
  refine zag rfl rfl (op_fa rfl fo51_0 (ev1 rfl)) ?_
  refine zag rfl rfl (op_ldo rfl tb3 (ev1 rfl) rfl rfl) ?_
  refine zag rfl rfl (zac (.inl rfl) (ev1 rfl)) ?_
  refine zag rfl rfl (op_nc rfl (ev1 rfl) (fun s v h => by cases h; exact ⟨_, rfl⟩)) ?_
  refine zag rfl rfl (op_fa rfl fo141_2 (ev1 rfl)) ?_
  refine zag rfl rfl (op_fa rfl fo51_0 (ev1 rfl)) ?_
  refine zag rfl rfl (op_ldo rfl tb3 (ev1 rfl) rfl rfl) ?_
  refine zag rfl rfl (zah [] [] [] rfl (ev1 rfl) (ec (ev1 rfl) (ec (ev1 rfl) en)) rfl rfl (way_d a.x b.x (by omega) (by omega)) rfl rfl rfl rfl rfl rfl) ?_
  refine zag rfl rfl (zac (.inl rfl) (ev1 rfl)) ?_
  refine zag rfl rfl (op_nc rfl (ev1 rfl) (fun s v h => by cases h; exact ⟨_, rfl⟩)) ?_
  refine zag rfl rfl (op_fa rfl fo141_1 (ev1 rfl)) ?_
  refine zag rfl rfl (op_fa rfl fo51_1 (ev1 rfl)) ?_
  refine zag rfl rfl (op_ldo rfl tb3 (ev1 rfl) rfl rfl) ?_
  refine zag rfl rfl (zac (.inl rfl) (ev1 rfl)) ?_
  refine zag rfl rfl (op_nc rfl (ev1 rfl) (fun s v h => by cases h; exact ⟨_, rfl⟩)) ?_
  refine zag rfl rfl (op_fa rfl fo141_2 (ev1 rfl)) ?_
  refine zag rfl rfl (op_fa rfl fo51_1 (ev1 rfl)) ?_
  refine zag rfl rfl (op_ldo rfl tb3 (ev1 rfl) rfl rfl) ?_
  refine zag rfl rfl (zah [] [] [] rfl (ev1 rfl) (ec (ev1 rfl) (ec (ev1 rfl) en)) rfl rfl (way_d a.y b.y (by omega) (by omega)) rfl rfl rfl rfl rfl rfl) ?_
  refine zag rfl rfl ((op_max rfl (ev1 rfl) (ev1 rfl)).cast (d' := .val (.int .i64 (gr2 a b : Int))) (by rw [hmx])) ?_
  refine zag rfl rfl (zac (.inr rfl) (ev1 rfl)) ?_
  refine lex_nil ?_
  refine zaf ?_
  refine dwp_draw [([], []), ([], []), ([], []), ([], []), ([], []), ([], []), ([0], []), ([], []), ([], []), ([], []), ([], []), ([0], []), ([], []), ([0], [0]), ([], []), ([], []), ([], []), ([0], [0])] mixed (by kernel_rfl) ?_
  refine zag rfl rfl (zac (.inl rfl) (ev1 rfl)) ?_
  refine zag rfl rfl (zac (.inl rfl) (ev1 rfl)) ?_
  refine zag rfl rfl (zac (.inl rfl) (ev1 rfl)) ?_
  refine zag rfl rfl (op_nc rfl (ev1 rfl) (fun s v h => by cases h; exact ⟨_, rfl⟩)) ?_
  refine zag rfl rfl (op_fa rfl fo141_1 (ev1 rfl)) ?_
  refine zag rfl rfl (op_fa rfl fo51_0 (ev1 rfl)) ?_
  refine zag rfl rfl (op_ldo rfl tb3 (ev1 rfl) rfl rfl) ?_
  refine zag rfl rfl (zac (.inl rfl) (ev1 rfl)) ?_
  refine zag rfl rfl (op_nc rfl (ev1 rfl) (fun s v h => by cases h; exact ⟨_, rfl⟩)) ?_
  refine zag rfl rfl (op_fa rfl fo141_2 (ev1 rfl)) ?_
  refine zag rfl rfl (op_fa rfl fo51_0 (ev1 rfl)) ?_
  refine zag rfl rfl (op_ldo rfl tb3 (ev1 rfl) rfl rfl) ?_
  refine zag rfl rfl (zac (.inl rfl) (ev1 rfl)) ?_
  refine lex_w rfl rfl (zah [0] [] [] rfl (ev1 rfl) (ec (ev1 rfl) (ec (ev1 rfl) (ec (ev1 rfl) (ec (ev1 rfl) en)))) rfl rfl (along_d a b _ _ a.x b.x (gr2 a b) (k + 1) (by omega) (by omega) (by omega) (by omega) (by omega)) rfl rfl rfl rfl rfl rfl) rfl (by simp only [upd, zaa, za]; exact rfl) ?_
  refine zag rfl rfl (op_nc rfl (ev1 rfl) (fun s v h => by cases h; exact ⟨_, rfl⟩)) ?_
  refine zag rfl rfl (op_fa rfl fo141_0 (ev1 rfl)) ?_
  refine zag rfl rfl (op_fa rfl fo51_0 (ev1 rfl)) ?_
  refine lex_s rfl rfl (op_st1 rfl tb3 (ev1 rfl) (ev1 rfl) rfl (Nat.le_of_ble_eq_true rfl) rfl) rfl (by simp only [upd, zaa, za]; exact rfl) ?_
  refine lex_nil ?_
  refine dwp_draw [([], []), ([], []), ([], []), ([], []), ([], []), ([], []), ([0], []), ([], []), ([], []), ([], []), ([], []), ([0], []), ([], []), ([0], [0]), ([], []), ([], []), ([], []), ([0], [0])] mixed (by kernel_rfl) ?_
  refine zag rfl rfl (zac (.inl rfl) (ev1 rfl)) ?_
  refine zag rfl rfl (zac (.inl rfl) (ev1 rfl)) ?_
  refine zag rfl rfl (zac (.inl rfl) (ev1 rfl)) ?_
  refine zag rfl rfl (op_nc rfl (ev1 rfl) (fun s v h => by cases h; exact ⟨_, rfl⟩)) ?_
  refine zag rfl rfl (op_fa rfl fo141_1 (ev1 rfl)) ?_
  refine zag rfl rfl (op_fa rfl fo51_1 (ev1 rfl)) ?_
  refine zag rfl rfl (op_ldo rfl tb3 (ev1 rfl) rfl rfl) ?_
  refine zag rfl rfl (zac (.inl rfl) (ev1 rfl)) ?_
  refine zag rfl rfl (op_nc rfl (ev1 rfl) (fun s v h => by cases h; exact ⟨_, rfl⟩)) ?_
  refine zag rfl rfl (op_fa rfl fo141_2 (ev1 rfl)) ?_
  refine zag rfl rfl (op_fa rfl fo51_1 (ev1 rfl)) ?_
  refine zag rfl rfl (op_ldo rfl tb3 (ev1 rfl) rfl rfl) ?_
  refine zag rfl rfl (zac (.inl rfl) (ev1 rfl)) ?_
  refine lex_w rfl rfl (zah [0] [] [] rfl (ev1 rfl) (ec (ev1 rfl) (ec (ev1 rfl) (ec (ev1 rfl) (ec (ev1 rfl) en)))) rfl rfl (along_d a b _ _ a.y b.y (gr2 a b) (k + 1) (by omega) (by omega) (by omega) (by omega) (by omega)) rfl rfl rfl rfl rfl rfl) rfl (by simp only [upd, zaa, za]; exact rfl) ?_
  refine zag rfl rfl (op_nc rfl (ev1 rfl) (fun s v h => by cases h; exact ⟨_, rfl⟩)) ?_
  refine zag rfl rfl (op_fa rfl fo141_0 (ev1 rfl)) ?_
  refine zag rfl rfl (op_fa rfl fo51_1 (ev1 rfl)) ?_
  refine lex_s rfl rfl (op_st1 rfl tb3 (ev1 rfl) (ev1 rfl) rfl (Nat.le_of_ble_eq_true rfl) rfl) rfl (by simp only [upd, zaa, za]; exact rfl) ?_
  refine lex_nil ?_
  refine kend [0] (res_none rfl) rfl rfl ?_ ⟨rfl, trivial⟩
  rfl
def lineK (a b : P2) (k : Nat) : List P2 := (List.range k).map (lineP a b)
theorem lineK_succ (a b : P2) (k : Nat) : lineK a b (k + 1) = lineK a b k ++ [lineP a b k] := by unfold lineK; rw [List.range_succ, List.map_append]; rfl
theorem lineK_len (a b : P2) (k : Nat) : (lineK a b k).length = k := by unfold lineK; simp
theorem lineK_all (a b : P2) : lineK a b (gr2 a b + 1) = lineL a b := rfl
def linL (a b : P2) : List P2 := if (drwB a && drwB b) = true then lineL a b else []
def drwE (a b : P2) : Int := if (drwB a && drwB b) = true then 0 else 2
theorem lin_ok {a b : P2} (h : (drwB a && drwB b) = true) : linL a b = lineL a b ∧ drwE a b = 0 := by unfold linL drwE; rw [if_pos h, if_pos h]; exact ⟨rfl, rfl⟩
theorem lin_no {a b : P2} (h : (drwB a && drwB b) = false) : linL a b = [] ∧ drwE a b = 2 := by unfold linL drwE; rw [h]; exact ⟨rfl, rfl⟩
theorem line_lt {a b : P2} {k : Nat} (hk : k ≤ gr2 a b) (h : lineP a b k ≠ b) : k < gr2 a b := by
  rcases Nat.lt_or_eq_of_le hk with e | e
  · exact e
  · subst e; exact absurd (line_end a b) h
theorem line_eq {a b : P2} {k : Nat} (hk : k ≤ gr2 a b) (h : lineP a b k = b) : k = gr2 a b := by
  rcases Nat.lt_or_eq_of_le hk with e | e
  · exact absurd h (line_ne e)
  · exact e
theorem pmove0_d (a b : P2) (hk : 0 < gr2 a b) (ha : drwB a = true) (hb : drwB b = true) : DFun Tryz.prog 99 [.loc 0 0] [.flat 141 [.int .i64 a.x, .int .i64 a.y, .int .i64 a.x, .int .i64 a.y, .int .i64 b.x, .int .i64 b.y, .int .i64 (0 : Int)]] (.tup []) [.flat 141 [.int .i64 (lineP a b (0 + 1)).x, .int .i64 (lineP a b (0 + 1)).y, .int .i64 a.x, .int .i64 a.y, .int .i64 b.x, .int .i64 b.y, .int .i64 ((0 + 1 : Nat) : Int)]] := by
  have h := pmove_d a b 0 hk ha hb
  rw [line_zero] at h
  exact h
theorem lineK_one (a b : P2) : lineK a b 1 = [a] := by show [lineP a b 0] = [a]; rw [line_zero]
set_option maxRecDepth 4000 in
set_option maxHeartbeats 1000000 in
theorem line_no (a b : P2) (h : (drwB a && drwB b) = false) : DFun Tryz.prog 69 [.val (.agg #[.int .i64 a.x, .int .i64 a.y]), .val (.agg #[.int .i64 b.x, .int .i64 b.y])] [] (.tup [.val (.slice none 0 0), .val (.int .i64 2)]) [] := by
  refine dcalls_go (N := 30) 0 (by kernel_rfl) Tryz.func69 rfl rfl rfl (by simp only [fr0, Nat.zero_add, Nat.reduceAdd]; exact rfl) rfl fun s0 hs0 => ?_
  refine zaf ?_
  refine zai 2 (by simp only [holes, List.cons_append, List.nil_append]; exact rfl) ?_
  refine zad ?_
  refine zaj rfl rfl rfl (op_boxa 0 rfl (ev1 rfl) rfl) (by simp only [upd, zaa, za]; exact rfl) ?_
  refine zaj rfl rfl rfl (op_boxa 1 rfl (ev1 rfl) rfl) (by simp only [upd, zaa, za]; exact rfl) ?_
  refine zab rfl rfl rfl (zac (.inr rfl) (ev1 rfl)) ?_
  refine zab rfl rfl rfl (zac (.inr rfl) (ev1 rfl)) ?_
  refine zae ?_
  refine dwp_scope ?_
  refine zaf ?_
  refine zaf ?_
  refine zad ?_
  refine zab rfl rfl rfl (op_ldw rfl tb51 (ev1 rfl) rfl rfl) ?_
  refine zab rfl rfl rfl (op_ldw rfl tb51 (ev1 rfl) rfl rfl) ?_
  refine zab rfl rfl rfl (op_bs (ps := [(0, .tmp 9), (1, .tmp 10)]) rfl sl48 zr51 rfl (vc (ev1 rfl) (vc (ev1 rfl) vn)) rfl (by decide) (by decide)) ?_
  refine zab rfl rfl rfl (zah [] [] [] rfl (ev1 rfl) (ec (ev1 rfl) en) rfl rfl (undrawn_d [a, b]) rfl rfl rfl rfl rfl rfl) ?_
  refine zae ?_
  refine dwp_if_t rfl (by unfold drwL; rcases Bool.and_eq_false_iff.1 h with h | h <;> simp [h]) ?_
  refine zaf ?_
  refine zad ?_
  refine zab rfl rfl rfl (zac (.inr rfl) (ev1 rfl)) ?_
  refine zab rfl rfl rfl (zac (.inr rfl) (ev1 rfl)) ?_
  refine zae ?_
  refine dwp_ret ?_
  refine kend0 (rs2 rfl (rv_t rfl) (rv_t rfl)) rfl ?_
  rfl
set_option maxRecDepth 4000 in
set_option maxHeartbeats 1000000 in
theorem line_o (a b : P2) (ha : drwB a = true) (hb : drwB b = true) : DFun Tryz.prog 69 [.val (.agg #[.int .i64 a.x, .int .i64 a.y]), .val (.agg #[.int .i64 b.x, .int .i64 b.y])] [] (.tup [.arr 0, .val (.int .i64 0)]) [.arr 51 2 (lineL a b).length ((lineL a b).flatMap p2)] := by
  have hA := drwB_iff.1 ha
  have hB := drwB_iff.1 hb
  have hwx := wayN_eq a.x b.x
  have hwy := wayN_eq a.y b.y
  have hgr : gr2 a b ≤ 200 := by unfold gr2; omega
  refine dcalls_go (N := 30) 0 (by kernel_rfl) Tryz.func69 rfl rfl rfl (by simp only [fr0, Nat.zero_add, Nat.reduceAdd]; exact rfl) rfl fun s0 hs0 => ?_
  refine zaf ?_
  refine zai 2 (by simp only [holes, List.cons_append, List.nil_append]; exact rfl) ?_
  refine zad ?_
  refine zaj rfl rfl rfl (op_boxa 0 rfl (ev1 rfl) rfl) (by simp only [upd, zaa, za]; exact rfl) ?_
  refine zaj rfl rfl rfl (op_boxa 1 rfl (ev1 rfl) rfl) (by simp only [upd, zaa, za]; exact rfl) ?_
  refine zab rfl rfl rfl (zac (.inr rfl) (ev1 rfl)) ?_
  refine zab rfl rfl rfl (zac (.inr rfl) (ev1 rfl)) ?_
  refine zae ?_
  refine dwp_jumps (α := Nat) 0 rfl (fun k => [] ++ [(3, .loc 1 0), (6, .loc 2 0), (7, .fn (.func 99) [.loc 2 0] []), (8, .arr 3)]) (fun k => upd [.flat 51 [.int .i64 a.x, .int .i64 a.y], .flat 51 [.int .i64 b.x, .int .i64 b.y], .hole, .hole] [(2, .flat 141 [.int .i64 (lineP a b k).x, .int .i64 (lineP a b k).y, .int .i64 a.x, .int .i64 a.y, .int .i64 b.x, .int .i64 b.y, .int .i64 ((k : Nat) : Int)]), (3, .arr 51 2 (lineK a b k).length ((lineK a b k).flatMap p2))]) (fun k => k ≤ gr2 a b) (fun k => gr2 a b - k) ?_ (fun k hx => ?_)
  · refine zaf ?_
    refine zaf ?_
    refine zad ?_
    refine zab rfl rfl rfl (op_ldw rfl tb51 (ev1 rfl) rfl rfl) ?_
    refine zab rfl rfl rfl (op_ldw rfl tb51 (ev1 rfl) rfl rfl) ?_
    refine zab rfl rfl rfl (op_bs (ps := [(0, .tmp 9), (1, .tmp 10)]) rfl sl48 zr51 rfl (vc (ev1 rfl) (vc (ev1 rfl) vn)) rfl (by decide) (by decide)) ?_
    refine zab rfl rfl rfl (zah [] [] [] rfl (ev1 rfl) (ec (ev1 rfl) en) rfl rfl (undrawn_d [a, b]) rfl rfl rfl rfl rfl rfl) ?_
    refine zae ?_
    refine dwp_if_f rfl (by unfold drwL; simp [ha, hb]) ?_
    refine zal ?_
    refine zaf ?_
    refine zai 1 (by simp only [holes, List.cons_append, List.nil_append]; exact rfl) ?_
    refine zad ?_
    refine zab rfl rfl rfl (op_ldw rfl tb51 (ev1 rfl) rfl rfl) ?_
    refine zab rfl rfl rfl (op_ldw rfl tb51 (ev1 rfl) rfl rfl) ?_
    refine zab rfl rfl rfl (op_ldw rfl tb51 (ev1 rfl) rfl rfl) ?_
    refine zab rfl rfl rfl ((op_build (ps := [(0, .tmp 13), (1, .tmp 14), (2, .tmp 15)]) rfl fl141 zr141 (vc (ev1 rfl) (vc (ev1 rfl) (vc (ev1 rfl) vn))) rfl rfl).cast (d' := .val (.agg #[.int .i64 a.x, .int .i64 a.y, .int .i64 a.x, .int .i64 a.y, .int .i64 b.x, .int .i64 b.y, .int .i64 0])) (by kernel_rfl)) ?_
    refine zaj rfl rfl rfl (op_alloc 2 rfl zr141 rfl) (by simp only [upd, zaa, za]; exact rfl) ?_
    refine walk_s rfl rfl (op_stwa rfl tb141 (ev1 rfl) (ev1 rfl) rfl rfl rfl rfl) (by simp only [upd, zaa, za]; exact rfl) ?_
    refine zae ?_
    refine zaf ?_
    refine zad ?_
    refine zab rfl rfl rfl (op_mkf rfl (ec (ev1 rfl) en) en) ?_
    refine zab rfl rfl rfl (zac (.inr rfl) (ev1 rfl)) ?_
    refine zae ?_
    refine zaf ?_
    refine zad ?_
    refine zab rfl rfl rfl (zac (.inr rfl) (ev1 rfl)) ?_
    refine zae ?_
    refine zaf ?_
    refine dwp_label ?_
    refine zaf ?_
    refine dwp_adopt 8 51 2 rfl rfl rfl ?_
    refine zai 1 (by simp only [holes, List.cons_append, List.nil_append]; exact rfl) ?_
    refine zad ?_
    refine zab rfl rfl rfl (zac (.inl rfl) (ev1 rfl)) ?_
    refine zab rfl rfl rfl (op_fa rfl fo141_0 (ev1 rfl)) ?_
    refine zab rfl rfl rfl (op_ldr rfl tb51 (ev1 rfl) rfl rfl rfl) ?_
    refine zab rfl rfl rfl (op_bs (ps := [(0, .tmp 20)]) rfl sl48 zr51 rfl (vc (ev1 rfl) vn) rfl (by decide) (by decide)) ?_
    refine zaj rfl rfl rfl (op_app (j := 4) rfl sl48 zr51 rfl (ev1 rfl) (ev1 rfl) src_slf rfl rfl (fun _ => rfl) (fun _ => ⟨by omega, by omega⟩)) (by simp only [upd, zaa, za]; exact rfl) ?_
    refine zab rfl rfl rfl (zac (.inr rfl) (ev1 rfl)) ?_
    refine zae ?_
    refine zaf ?_
    refine zaf ?_
    refine zad ?_
    refine zab rfl rfl rfl (op_fa rfl fo141_0 (ev1 rfl)) ?_
    refine zab rfl rfl rfl (op_ldr rfl tb51 (ev1 rfl) rfl rfl rfl) ?_
    refine zab rfl rfl rfl (op_ldw rfl tb51 (ev1 rfl) rfl rfl) ?_
    refine zab rfl rfl rfl (op_ner eq51 rfl gd51 tb51 (ev1 rfl) (ev1 rfl)) ?_
    refine zae ?_
    refine dwp_cond rfl (fun c1 => ?_) (fun c1 => ?_)
    · have hlt : 0 < gr2 a b := line_lt (Nat.zero_le _) (by rw [line_zero]; simpa using c1)
      refine zaf ?_
      refine zad ?_
      refine zab rfl rfl rfl (zac (.inl rfl) (ev1 rfl)) ?_
      refine zaj rfl rfl rfl (zah [2] [] [] rfl (ev1 rfl) en rfl rfl (pmove0_d a b hlt ha hb) rfl rfl rfl rfl rfl rfl) (by simp only [upd, zaa, za]; exact rfl) ?_
      refine zae ?_
      refine dwp_goto ⟨rfl, 1, by omega, fun a w hi => inv_ren (σ := [0, 1, 2, 4]) hi ⟨hs0, rfl⟩ rfl ⟨rfl, rfl, rfl, rfl, trivial⟩ ⟨rfl, rfl, rfl, (by rw [lineK_one]; rfl), trivial⟩⟩
    · have hab : a = b := by simpa using c1
      have hge : 0 = gr2 a b := line_eq (Nat.zero_le _) (by rw [line_zero]; exact hab)
      refine zal ?_
      refine zaf ?_
      refine zad ?_
      refine zab rfl rfl rfl (zac (.inl rfl) (ev1 rfl)) ?_
      refine zab rfl rfl rfl (zac (.inr rfl) (ev1 rfl)) ?_
      refine zab rfl rfl rfl (zac (.inr rfl) (ev1 rfl)) ?_
      refine zae ?_
      refine dwp_ret ?_
      refine kend [4] (rs2 rfl (rv_t rfl) (rv_t rfl)) rfl rfl ?_ ⟨?_, trivial⟩
      rfl
      exact (by rw [← lineK_all, ← hge, lineK_one]; rfl)
  · simp only [upd, zaa, za, List.cons_append, List.nil_append]
    have hk := hx
    have hkl := lineK_len a b k
    refine zaf ?_
    refine zal ?_
    refine zaf ?_
    refine zai 1 (by simp only [holes, List.cons_append, List.nil_append]; exact rfl) ?_
    refine zad ?_
    refine zab rfl rfl rfl (zac (.inl rfl) (ev1 rfl)) ?_
    refine zab rfl rfl rfl (op_fa rfl fo141_0 (ev1 rfl)) ?_
    refine zab rfl rfl rfl (op_ldr rfl tb51 (ev1 rfl) rfl rfl rfl) ?_
    refine zab rfl rfl rfl (op_bs (ps := [(0, .tmp 20)]) rfl sl48 zr51 rfl (vc (ev1 rfl) vn) rfl (by decide) (by decide)) ?_
    refine zaj rfl rfl rfl (op_app (j := 4) rfl sl48 zr51 rfl (ev1 rfl) (ev1 rfl) src_slf rfl rfl (fun _ => rfl) (fun _ => ⟨by omega, by omega⟩)) (by simp only [upd, zaa, za]; exact rfl) ?_
    refine zab rfl rfl rfl (zac (.inr rfl) (ev1 rfl)) ?_
    refine zae ?_
    refine zaf ?_
    refine zaf ?_
    refine zad ?_
    refine zab rfl rfl rfl (op_fa rfl fo141_0 (ev1 rfl)) ?_
    refine zab rfl rfl rfl (op_ldr rfl tb51 (ev1 rfl) rfl rfl rfl) ?_
    refine zab rfl rfl rfl (op_ldw rfl tb51 (ev1 rfl) rfl rfl) ?_
    refine zab rfl rfl rfl (op_ner eq51 rfl gd51 tb51 (ev1 rfl) (ev1 rfl)) ?_
    refine zae ?_
    refine dwp_cond rfl (fun c2 => ?_) (fun c2 => ?_)
    · have hlt := line_lt hk (by simpa using c2)
      refine zaf ?_
      refine zad ?_
      refine zab rfl rfl rfl (zac (.inl rfl) (ev1 rfl)) ?_
      refine zaj rfl rfl rfl (zah [2] [] [] rfl (ev1 rfl) en rfl rfl (pmove_d a b k hlt ha hb) rfl rfl rfl rfl rfl rfl) (by simp only [upd, zaa, za]; exact rfl) ?_
      refine zae ?_
      refine dwp_goto ⟨rfl, k + 1, by omega, by omega, fun a w hi => inv_ren (σ := [0, 1, 2, 4]) hi ⟨hs0, rfl⟩ rfl ⟨rfl, rfl, rfl, rfl, trivial⟩ ⟨rfl, rfl, rfl, (by rw [lineK_succ, List.length_append, List.flatMap_append]; rfl), trivial⟩⟩
    · have hke := line_eq hk (by simpa using c2)
      refine zal ?_
      refine zaf ?_
      refine zad ?_
      refine zab rfl rfl rfl (zac (.inl rfl) (ev1 rfl)) ?_
      refine zab rfl rfl rfl (zac (.inr rfl) (ev1 rfl)) ?_
      refine zab rfl rfl rfl (zac (.inr rfl) (ev1 rfl)) ?_
      refine zae ?_
      refine dwp_ret ?_
      refine kend [4] (rs2 rfl (rv_t rfl) (rv_t rfl)) rfl rfl ?_ ⟨?_, trivial⟩
      rfl
      exact (by rw [← lineK_all, ← hke, lineK_succ, List.length_append, List.flatMap_append]; rfl)
theorem line_d (a b : P2) : DFun Tryz.prog 69 [.val (.agg #[.int .i64 a.x, .int .i64 a.y]), .val (.agg #[.int .i64 b.x, .int .i64 b.y])] [] (.tup [.slf 2 (linL a b).length ((linL a b).flatMap p2), .val (.int .i64 (drwE a b))]) [] := by
  cases h : (drwB a && drwB b) with
  | true =>
    obtain ⟨e1, e2⟩ := lin_ok h
    obtain ⟨ha, hb⟩ := Bool.and_eq_true_iff.1 h
    rw [e1, e2]
    exact freeze (line_o a b ha hb) rfl
  | false =>
    obtain ⟨e1, e2⟩ := lin_no h
    rw [e1, e2]
    exact (line_no a b h).wk (Wk.tup (WkL.cons (Wk.slf0 2) (WkL.cons (Wk.refl _) WkL.nil)))
def rctL (a b : P2) : List Sp := if (drwB a && drwB b) = true then rectL a b else []
theorem rct_ok {a b : P2} (h : (drwB a && drwB b) = true) : rctL a b = rectL a b ∧ drwE a b = 0 := by unfold rctL drwE; rw [if_pos h, if_pos h]; exact ⟨rfl, rfl⟩
theorem rct_no {a b : P2} (h : (drwB a && drwB b) = false) : rctL a b = [] ∧ drwE a b = 2 := by unfold rctL drwE; rw [h]; exact ⟨rfl, rfl⟩
def rectK (a b : P2) (k : Nat) : List Sp := (List.range k).map fun j : Nat => ⟨min a.y b.y + (j : Int), min a.x b.x, max a.x b.x⟩
theorem rectK_succ (a b : P2) (k : Nat) : rectK a b (k + 1) = rectK a b k ++ [⟨min a.y b.y + (k : Int), min a.x b.x, max a.x b.x⟩] := by unfold rectK; rw [List.range_succ, List.map_append]; rfl
theorem rectK_len (a b : P2) (k : Nat) : (rectK a b k).length = k := by unfold rectK; simp
theorem rectK_all (a b : P2) : rectK a b (wayN a.y b.y + 1) = rectL a b := rfl
set_option maxRecDepth 4000 in
set_option maxHeartbeats 1000000 in
theorem rect_no (a b : P2) (h : (drwB a && drwB b) = false) : DFun Tryz.prog 71 [.val (.agg #[.int .i64 a.x, .int .i64 a.y]), .val (.agg #[.int .i64 b.x, .int .i64 b.y])] [] (.tup [.val (.slice none 0 0), .val (.int .i64 2)]) [] := by
  refine dcalls_go (N := 42) 0 (by kernel_rfl) Tryz.func71 rfl rfl rfl (by simp only [fr0, Nat.zero_add, Nat.reduceAdd]; exact rfl) rfl fun s0 hs0 => ?_
  refine zaf ?_
  refine zai 2 (by simp only [holes, List.cons_append, List.nil_append]; exact rfl) ?_
  refine zad ?_
  refine zaj rfl rfl rfl (op_boxa 0 rfl (ev1 rfl) rfl) (by simp only [upd, zaa, za]; exact rfl) ?_
  refine zaj rfl rfl rfl (op_boxa 1 rfl (ev1 rfl) rfl) (by simp only [upd, zaa, za]; exact rfl) ?_
  refine zab rfl rfl rfl (zac (.inr rfl) (ev1 rfl)) ?_
  refine zab rfl rfl rfl (zac (.inr rfl) (ev1 rfl)) ?_
  refine zae ?_
  refine zaf ?_
  refine zaf ?_
  refine zad ?_
  refine zab rfl rfl rfl (op_ldw rfl tb51 (ev1 rfl) rfl rfl) ?_
  refine zab rfl rfl rfl (op_ldw rfl tb51 (ev1 rfl) rfl rfl) ?_
  refine zab rfl rfl rfl (op_bs (ps := [(0, .tmp 8), (1, .tmp 9)]) rfl sl48 zr51 rfl (vc (ev1 rfl) (vc (ev1 rfl) vn)) rfl (by decide) (by decide)) ?_
  refine zab rfl rfl rfl (zah [] [] [] rfl (ev1 rfl) (ec (ev1 rfl) en) rfl rfl (undrawn_d [a, b]) rfl rfl rfl rfl rfl rfl) ?_
  refine zae ?_
  refine dwp_if_t rfl (by unfold drwL; rcases Bool.and_eq_false_iff.1 h with h | h <;> simp [h]) ?_
  refine zaf ?_
  refine zad ?_
  refine zab rfl rfl rfl (zac (.inr rfl) (ev1 rfl)) ?_
  refine zab rfl rfl rfl (zac (.inr rfl) (ev1 rfl)) ?_
  refine zae ?_
  refine dwp_ret ?_
  refine kend0 (rs2 rfl (rv_t rfl) (rv_t rfl)) rfl ?_
  rfl
set_option maxRecDepth 4000 in
set_option maxHeartbeats 1000000 in
theorem rect_o (a b : P2) (ha : drwB a = true) (hb : drwB b = true) : DFun Tryz.prog 71 [.val (.agg #[.int .i64 a.x, .int .i64 a.y]), .val (.agg #[.int .i64 b.x, .int .i64 b.y])] [] (.tup [.arr 0, .val (.int .i64 0)]) [.arr 32 3 (rectL a b).length ((rectL a b).flatMap s3)] := by
  have hA := drwB_iff.1 ha
  have hB := drwB_iff.1 hb
  have hwy := wayN_eq a.y b.y
  refine dcalls_go (N := 42) 0 (by kernel_rfl) Tryz.func71 rfl rfl rfl (by simp only [fr0, Nat.zero_add, Nat.reduceAdd]; exact rfl) rfl fun s0 hs0 => ?_
  refine zaf ?_
  refine zai 2 (by simp only [holes, List.cons_append, List.nil_append]; exact rfl) ?_
  refine zad ?_
  refine zaj rfl rfl rfl (op_boxa 0 rfl (ev1 rfl) rfl) (by simp only [upd, zaa, za]; exact rfl) ?_
  refine zaj rfl rfl rfl (op_boxa 1 rfl (ev1 rfl) rfl) (by simp only [upd, zaa, za]; exact rfl) ?_
  refine zab rfl rfl rfl (zac (.inr rfl) (ev1 rfl)) ?_
  refine zab rfl rfl rfl (zac (.inr rfl) (ev1 rfl)) ?_
  refine zae ?_
  refine zaf ?_
  refine zaf ?_
  refine zad ?_
  refine zab rfl rfl rfl (op_ldw rfl tb51 (ev1 rfl) rfl rfl) ?_
  refine zab rfl rfl rfl (op_ldw rfl tb51 (ev1 rfl) rfl rfl) ?_
  refine zab rfl rfl rfl (op_bs (ps := [(0, .tmp 8), (1, .tmp 9)]) rfl sl48 zr51 rfl (vc (ev1 rfl) (vc (ev1 rfl) vn)) rfl (by decide) (by decide)) ?_
  refine zab rfl rfl rfl (zah [] [] [] rfl (ev1 rfl) (ec (ev1 rfl) en) rfl rfl (undrawn_d [a, b]) rfl rfl rfl rfl rfl rfl) ?_
  refine zae ?_
  refine dwp_if_f rfl (by unfold drwL; simp [ha, hb]) ?_
  refine zal ?_
  refine zaf ?_
  refine zad ?_
  refine zab rfl rfl rfl (zac (.inr rfl) (ev1 rfl)) ?_
  refine zae ?_
  refine zaf ?_
  refine zaf ?_
  refine zad ?_
  refine zab rfl rfl rfl (op_fa rfl fo51_1 (ev1 rfl)) ?_
  refine zab rfl rfl rfl (op_ldo rfl tb3 (ev1 rfl) rfl rfl) ?_
  refine zab rfl rfl rfl (op_fa rfl fo51_1 (ev1 rfl)) ?_
  refine zab rfl rfl rfl (op_ldo rfl tb3 (ev1 rfl) rfl rfl) ?_
  refine zab rfl rfl rfl (op_min rfl (ev1 rfl) (ev1 rfl)) ?_
  refine zab rfl rfl rfl (zac (.inr rfl) (ev1 rfl)) ?_
  refine zae ?_
  refine dwp_block ?_
  refine dwp_adopt 6 32 3 rfl rfl rfl ?_
  refine dwp_loopS ⟨hs0, rfl⟩ (α := Nat) (fun k => [(7, .val (.int .i64 (min a.y b.y + (k : Int))))]) [(2, _), (3, _), (6, _)] (fun k => [(2, .arr 32 3 (rectK a b k).length ((rectK a b k).flatMap s3))]) [_, _, .hole] (fun k => k ≤ wayN a.y b.y + 1) (fun k => wayN a.y b.y + 1 - k) 0 [0, 1, 2] (Nat.zero_le _) rfl ⟨rfl, rfl, rfl, trivial⟩ ⟨congrArg (fun z => some (D.val (.int .i64 z))) (Int.add_zero _).symm, trivial⟩ ⟨rfl, rfl, rfl, trivial⟩ ?_
  intro k hx
  simp only [upd, zaa, za, List.cons_append, List.nil_append]
  have hk := hx
  have hkl := rectK_len a b k
  refine zaf ?_
  refine zaf ?_
  refine zad ?_
  refine zab rfl rfl rfl (zac (.inl rfl) (ev1 rfl)) ?_
  refine zab rfl rfl rfl (op_fa rfl fo51_1 (ev1 rfl)) ?_
  refine zab rfl rfl rfl (op_ldo rfl tb3 (ev1 rfl) rfl rfl) ?_
  refine zab rfl rfl rfl (op_fa rfl fo51_1 (ev1 rfl)) ?_
  refine zab rfl rfl rfl (op_ldo rfl tb3 (ev1 rfl) rfl rfl) ?_
  refine zab rfl rfl rfl (op_max rfl (ev1 rfl) (ev1 rfl)) ?_
  refine zab rfl rfl rfl (op_leq rfl (ev1 rfl) (ev1 rfl)) ?_
  refine zae ?_
  refine dwp_cond rfl (fun c2 => ?_) (fun c2 => ?_)
  · try simp only [decide_eq_true_eq, decide_eq_false_iff_not, beq_iff_eq, bne_iff_ne, beq_eq_false_iff_ne, bne_eq_false_iff_eq, Bool.not_eq_true', Bool.not_eq_false', Bool.and_eq_true, Bool.or_eq_true, Bool.or_eq_false_iff, ne_eq, Decidable.not_not, Int.not_lt, Int.not_le] at c2
    refine zal ?_
    refine zaf ?_
    refine dwp_block ?_
    refine zai 1 (by simp only [holes, List.cons_append, List.nil_append]; exact rfl) ?_
    refine zad ?_
    refine zab rfl rfl rfl (zac (.inl rfl) (ev1 rfl)) ?_
    refine zab rfl rfl rfl (zac (.inl rfl) (ev1 rfl)) ?_
    refine zab rfl rfl rfl (op_fa rfl fo51_0 (ev1 rfl)) ?_
    refine zab rfl rfl rfl (op_ldo rfl tb3 (ev1 rfl) rfl rfl) ?_
    refine zab rfl rfl rfl (op_fa rfl fo51_0 (ev1 rfl)) ?_
    refine zab rfl rfl rfl (op_ldo rfl tb3 (ev1 rfl) rfl rfl) ?_
    refine zab rfl rfl rfl (op_min rfl (ev1 rfl) (ev1 rfl)) ?_
    refine zab rfl rfl rfl (op_fa rfl fo51_0 (ev1 rfl)) ?_
    refine zab rfl rfl rfl (op_ldo rfl tb3 (ev1 rfl) rfl rfl) ?_
    refine zab rfl rfl rfl (op_fa rfl fo51_0 (ev1 rfl)) ?_
    refine zab rfl rfl rfl (op_ldo rfl tb3 (ev1 rfl) rfl rfl) ?_
    refine zab rfl rfl rfl (op_max rfl (ev1 rfl) (ev1 rfl)) ?_
    refine zab rfl rfl rfl (op_build (ps := [(0, .tmp 27), (1, .tmp 32), (2, .tmp 37)]) rfl fl32 zr32 (vc (ev1 rfl) (vc (ev1 rfl) (vc (ev1 rfl) vn))) rfl rfl) ?_
    refine zab rfl rfl rfl (op_bs (ps := [(0, .tmp 38)]) rfl sl25 zr32 rfl (vc (ev1 rfl) vn) rfl (by decide) (by decide)) ?_
    refine zaj rfl rfl rfl (op_app (j := 3) rfl sl25 zr32 rfl (ev1 rfl) (ev1 rfl) src_slf rfl rfl (fun _ => rfl) (fun _ => ⟨by omega, by omega⟩)) (by simp only [upd, zaa, za]; exact rfl) ?_
    refine zab rfl rfl rfl (zac (.inr rfl) (ev1 rfl)) ?_
    refine zae ?_
    refine zad ?_
    refine zab rfl rfl rfl (zac (.inl rfl) (ev1 rfl)) ?_
    refine zab rfl rfl rfl (op_add' rfl (ev1 rfl) (ev1 rfl) (fun _ => IntWalk.i64_in _ (by omega))) ?_
    refine zab rfl rfl rfl (zac (.inr rfl) (ev1 rfl)) ?_
    refine zae ?_
    refine ⟨k + 1, [0, 1, 3], by omega, by simp only []; omega, rfl, ⟨congrArg (fun z => some (D.val (.int .i64 z))) (by omega), rfl, rfl, rfl, trivial⟩, ⟨rfl, rfl, (by rw [rectK_succ, List.length_append, List.flatMap_append]; rfl), trivial⟩⟩
  · try simp only [decide_eq_true_eq, decide_eq_false_iff_not, beq_iff_eq, bne_iff_ne, beq_eq_false_iff_ne, bne_eq_false_iff_eq, Bool.not_eq_true', Bool.not_eq_false', Bool.and_eq_true, Bool.or_eq_true, Bool.or_eq_false_iff, ne_eq, Decidable.not_not, Int.not_lt, Int.not_le] at c2
    refine dwp_exit ?_
    refine zaf ?_
    refine zad ?_
    refine zab rfl rfl rfl (zac (.inl rfl) (ev1 rfl)) ?_
    refine zab rfl rfl rfl (zac (.inr rfl) (ev1 rfl)) ?_
    refine zab rfl rfl rfl (zac (.inr rfl) (ev1 rfl)) ?_
    refine zae ?_
    refine dwp_ret ?_
    refine kend [2] (rs2 rfl (rv_t rfl) (rv_t rfl)) rfl rfl ?_ ⟨?_, trivial⟩
    rfl
    exact (by rw [← rectK_all, show wayN a.y b.y + 1 = k by omega]; rfl)
theorem rect_d (a b : P2) : DFun Tryz.prog 71 [.val (.agg #[.int .i64 a.x, .int .i64 a.y]), .val (.agg #[.int .i64 b.x, .int .i64 b.y])] [] (.tup [.slf 3 (rctL a b).length ((rctL a b).flatMap s3), .val (.int .i64 (drwE a b))]) [] := by
  cases h : (drwB a && drwB b) with
  | true =>
    obtain ⟨e1, e2⟩ := rct_ok h
    obtain ⟨ha, hb⟩ := Bool.and_eq_true_iff.1 h
    rw [e1, e2]
    exact freeze (rect_o a b ha hb) rfl
  | false =>
    obtain ⟨e1, e2⟩ := rct_no h
    rw [e1, e2]
    exact (rect_no a b h).wk (Wk.tup (WkL.cons (Wk.slf0 3) (WkL.cons (Wk.refl _) WkL.nil)))
end Go.Proofs.YtjgnalfnginjbaaGreatDoor
namespace Go.Proofs.YtjgnalfnginjbaaGreatDoor
set_option maxRecDepth 4000
set_option linter.unusedVariables false
set_option linter.unusedSimpArgs false
open Go.RowKit
theorem tb53 : tyB Tryz.prog 53 = some (false, 1) := by kernel_rfl
theorem zr25 : zrC Tryz.prog 25 = some [.slice none 0 0] := by kernel_rfl
set_option maxRecDepth 4000 in
set_option maxHeartbeats 1000000 in
theorem near_d (n : Nat) : DFun Tryz.prog 132 [.val (.int .i64 (n : Int))] [] (.fn (.func 139) [] [.loc 0 0]) [.flat 3 [.int .i64 (n : Int)]] := by
  refine dcalls_go (N := 4) 0 (by kernel_rfl) Tryz.func132 rfl rfl rfl (by simp only [fr0, Nat.zero_add, Nat.reduceAdd]; exact rfl) rfl fun s0 hs0 => ?_
  refine zaf ?_
  refine zai 1 (by simp only [holes, List.cons_append, List.nil_append]; exact rfl) ?_
  refine zad ?_
  refine zaj rfl rfl rfl (op_boxi 0 rfl (ev1 rfl) rfl) (by simp only [upd, zaa, za]; exact rfl) ?_
  refine zab rfl rfl rfl (zac (.inr rfl) (ev1 rfl)) ?_
  refine zae ?_
  refine zaf ?_
  refine zad ?_
  refine zab rfl rfl rfl (op_mkf rfl en (ec (ev1 rfl) en)) ?_
  refine zab rfl rfl rfl (zac (.inr rfl) (ev1 rfl)) ?_
  refine zae ?_
  refine dwp_ret ?_
  refine kend [0] (rs1 rfl (rv_t rfl)) rfl rfl ?_ ⟨rfl, trivial⟩
  rfl
def inBr (r : Bool) (n : Nat) (p : P2) : Bool := !r || decide (p.x * p.x + p.y * p.y ≤ (n : Int) * n)
abbrev rowM (l : List Sp) : Mem := .arr 32 3 l.length (l.flatMap s3)
def fmS (l : List Sp) : List Mem := List.replicate l.length .gone ++ [rowM l]
theorem fmS_at (l : List Sp) : (fmS l)[l.length]? = some (rowM l) := by
  unfold fmS
  rw [List.getElem?_append_right (by simp)]
  simp
theorem fmS_len (l : List Sp) : (fmS l).length = (l.length) + 1 := by simp [fmS]
theorem fmS_add (l : List Sp) (p : Sp) : (fmS l).set l.length .gone ++ [Mem.arr 32 3 (l.length + 1) (l.flatMap s3 ++ s3 p)] = fmS (l ++ [p]) := by
  unfold fmS
  rw [List.set_append_right _ _ (by simp), List.length_append, List.length_replicate, Nat.sub_self, show l.length + [p].length = l.length + 1 from rfl, List.replicate_succ']
  simp [rowM, List.flatMap_append]
def brK (r : Bool) (n k : Nat) : List Sp := ((fieldN (2 * n + 1) k (-(n : Int)) (-(n : Int))).filter (inBr r n)).map pt1
theorem fieldN_len (w k : Nat) (X Y : Int) : (fieldN w k X Y).length = k := by unfold fieldN; simp
theorem brK_len (r : Bool) (n k : Nat) : (brK r n k).length ≤ k := by
  unfold brK
  rw [List.length_map]
  refine Nat.le_trans (List.length_filter_le ..) ?_
  rw [fieldN_len]
  exact Nat.le_refl _
theorem brK_add {r : Bool} {n y x : Nat} (hx : x < 2 * n + 1) : brK r n (y * (2 * n + 1) + (x + 1)) = brK r n (y * (2 * n + 1) + x) ++ (if inBr r n ⟨-(n : Int) + x, -(n : Int) + y⟩ = true then [pt1 ⟨-(n : Int) + x, -(n : Int) + y⟩] else []) := by
  unfold brK
  rw [field_at hx, List.filter_append, List.map_append]
  congr 1
  by_cases e : inBr r n ⟨-(n : Int) + x, -(n : Int) + y⟩ = true <;> simp [e]
def brS (r : Bool) (n : Nat) : List Sp := normS (brK r n ((2 * n + 1) * (2 * n + 1)))
theorem brK_valid (r : Bool) (n k : Nat) : ∀ s ∈ brK r n k, s.f ≤ s.t := fun s hs => by
  obtain ⟨p, _, rfl⟩ := List.mem_map.1 hs
  exact Int.le_refl _
theorem brK_in {r : Bool} {n : Nat} {s : Sp} (hs : s ∈ brK r n ((2 * n + 1) * (2 * n + 1))) : (-(n : Int) ≤ s.y ∧ s.y ≤ n) ∧ (-(n : Int) ≤ s.f ∧ s.f ≤ n) ∧ s.t = s.f := by
  obtain ⟨p, hp, rfl⟩ := List.mem_map.1 hs
  have := (field_mem (w := 2 * n + 1) (h := 2 * n + 1) (by omega)).1 (List.mem_filter.1 hp).1
  show (-(n : Int) ≤ p.y ∧ p.y ≤ n) ∧ (-(n : Int) ≤ p.x ∧ p.x ≤ n) ∧ p.x = p.x
  omega
theorem brS_ok (r : Bool) (n : Nat) : okS (brS r n) ∧ ∀ x y, hasS (brS r n) x y ↔ ((-(n : Int) ≤ x ∧ x ≤ n) ∧ -(n : Int) ≤ y ∧ y ≤ n) ∧ inBr r n ⟨x, y⟩ = true := by
  have h := norm_ok (brK_valid r n ((2 * n + 1) * (2 * n + 1)))
  refine ⟨h.1, fun x y => ?_⟩
  rw [brS, h.2, brK, hasS_pts, List.mem_filter, field_mem (by omega)]
  simp only
  constructor
  · rintro ⟨h1, h2⟩; exact ⟨by omega, h2⟩
  · rintro ⟨h1, h2⟩; exact ⟨by omega, h2⟩
theorem sq15 {n : Nat} (h : n ≤ 15) : (2 * n + 1) * (2 * n + 1) ≤ 961 := Nat.mul_le_mul (show 2 * n + 1 ≤ 31 by omega) (show 2 * n + 1 ≤ 31 by omega)
theorem brS_len {r : Bool} {n : Nat} (h : n ≤ 15) : (brS r n).length ≤ 961 := Nat.le_trans (norm_len _) (Nat.le_trans (brK_len ..) (sq15 h))
theorem has_bd {l m : List Sp} (hl : ∀ s ∈ l, s.f ≤ s.t) {A B C D' : Int} (h : ∀ x y, hasS l x y ↔ hasS m x y) (hm : ∀ s ∈ m, (A ≤ s.y ∧ s.y ≤ B) ∧ C ≤ s.f ∧ s.t ≤ D') : ∀ s ∈ l, (A ≤ s.y ∧ s.y ≤ B) ∧ C ≤ s.f ∧ s.t ≤ D' := fun s hs => by
  have hv := hl s hs
  obtain ⟨a, ha, h1, h2, h3⟩ := (h s.f s.y).1 ⟨s, hs, rfl, Int.le_refl _, hv⟩
  obtain ⟨b, hb, h4, h5, h6⟩ := (h s.t s.y).1 ⟨s, hs, rfl, hv, Int.le_refl _⟩
  have := hm a ha
  have := hm b hb
  omega
theorem brS_in {r : Bool} {n : Nat} : ∀ s ∈ brS r n, (-(n : Int) ≤ s.y ∧ s.y ≤ n) ∧ -(n : Int) ≤ s.f ∧ s.t ≤ n :=
  has_bd (brS_ok r n).1.1 (fun x y => (norm_ok (brK_valid r n ((2 * n + 1) * (2 * n + 1)))).2 x y) fun s hs => by
    have := brK_in hs
    omega
set_option maxRecDepth 4000 in
set_option maxHeartbeats 1000000 in
theorem br1_d (r : Bool) (n : Nat) (p : P2) (hn : n ≤ 15) (hx : -15 ≤ p.x ∧ p.x ≤ 15) (hy : -15 ≤ p.y ∧ p.y ≤ 15) : DFun Tryz.prog 117 [.val (.agg #[.int .i64 p.x, .int .i64 p.y]), .loc 0 0, .loc 1 0] [.flat 4 [.bool r], .flat 3 [.int .i64 (n : Int)]] (.val (.bool (inBr r n p))) [.flat 4 [.bool r], .flat 3 [.int .i64 (n : Int)]] := by
  have sq : ∀ z : Int, -15 ≤ z → z ≤ 15 → 0 ≤ z * z ∧ z * z ≤ 225 := fun z h1 h2 => ⟨by rcases Int.le_total 0 z with h | h; exact Int.mul_nonneg h h; exact Int.mul_nonneg_of_nonpos_of_nonpos h h, by rcases Int.le_total 0 z with h | h; exact Int.mul_le_mul h2 h2 h (by omega); have := Int.mul_le_mul (a := -z) (b := -z) (c := 15) (d := 15) (by omega) (by omega) (by omega) (by omega); rwa [Int.neg_mul_neg] at this⟩
  have h1 := sq p.x hx.1 hx.2
  have h2 := sq p.y hy.1 hy.2
  have h3 := sq (n : Int) (by omega) (by omega)
  refine dcalls_go (N := 24) 2 (by kernel_rfl) Tryz.func117 rfl rfl rfl (by simp only [fr0, Nat.zero_add, Nat.reduceAdd]; exact rfl) rfl fun s0 hs0 => ?_
  refine zaf ?_
  refine zai 1 (by simp only [holes, List.cons_append, List.nil_append]; exact rfl) ?_
  refine zad ?_
  refine zaj rfl rfl rfl (op_boxa 2 rfl (ev1 rfl) rfl) (by simp only [upd, zaa, za]; exact rfl) ?_
  refine zab rfl rfl rfl (zac (.inr rfl) (ev1 rfl)) ?_
  refine zae ?_
  refine zaf ?_
  refine zad ?_
  refine zab rfl rfl rfl (op_ldo rfl tb4 (ev1 rfl) rfl rfl) ?_
  refine zab rfl rfl rfl (op_not rfl (ev1 rfl)) ?_
  refine zab rfl rfl rfl (zac (.inl rfl) (ev1 rfl)) ?_
  refine zak (gd_f rfl rfl rfl) rfl rfl rfl (op_fa rfl fo51_0 (ev1 rfl)) ?_
  refine zak (gd_f rfl rfl rfl) rfl rfl rfl (op_ldo rfl tb3 (ev2 rfl) rfl rfl) ?_
  refine zak (gd_f rfl rfl rfl) rfl rfl rfl (op_fa rfl fo51_0 (ev1 rfl)) ?_
  refine zak (gd_f rfl rfl rfl) rfl rfl rfl (op_ldo rfl tb3 (ev2 rfl) rfl rfl) ?_
  refine zak (gd_f rfl rfl rfl) rfl rfl rfl (op_mul' rfl (ev2 rfl) (ev2 rfl) (fun _ => IntWalk.i64_in _ (by omega))) ?_
  refine zak (gd_f rfl rfl rfl) rfl rfl rfl (op_fa rfl fo51_1 (ev1 rfl)) ?_
  refine zak (gd_f rfl rfl rfl) rfl rfl rfl (op_ldo rfl tb3 (ev2 rfl) rfl rfl) ?_
  refine zak (gd_f rfl rfl rfl) rfl rfl rfl (op_fa rfl fo51_1 (ev1 rfl)) ?_
  refine zak (gd_f rfl rfl rfl) rfl rfl rfl (op_ldo rfl tb3 (ev2 rfl) rfl rfl) ?_
  refine zak (gd_f rfl rfl rfl) rfl rfl rfl (op_mul' rfl (ev2 rfl) (ev2 rfl) (fun _ => IntWalk.i64_in _ (by omega))) ?_
  refine zak (gd_f rfl rfl rfl) rfl rfl rfl (op_add' rfl (ev2 rfl) (ev2 rfl) (fun _ => IntWalk.i64_in _ (by omega))) ?_
  refine zak (gd_f rfl rfl rfl) rfl rfl rfl (op_ldo rfl tb3 (ev1 rfl) rfl rfl) ?_
  refine zak (gd_f rfl rfl rfl) rfl rfl rfl (op_ldo rfl tb3 (ev1 rfl) rfl rfl) ?_
  refine zak (gd_f rfl rfl rfl) rfl rfl rfl (op_mul' rfl (ev2 rfl) (ev2 rfl) (fun _ => IntWalk.i64_in _ (by omega))) ?_
  refine zak (gd_f rfl rfl rfl) rfl rfl rfl (op_leq rfl (ev2 rfl) (ev2 rfl)) ?_
  refine zab rfl rfl rfl (op_or rfl (ev1 rfl) (ev3 rfl id)) ?_
  refine zab rfl rfl rfl (zac (.inr rfl) (ev1 rfl)) ?_
  refine zae ?_
  refine dwp_ret ?_
  refine kend [0, 1] (rs1 rfl (rv_t rfl)) rfl rfl ?_ ⟨rfl, rfl, trivial⟩
  unfold inBr
  cases r <;> simp
noncomputable def aboA : Code := rfA (pth [1, 1, 0, 1, 0] (bodyOf Tryz.f116))
noncomputable def aboB : Code := rfB (pth [1, 1, 0, 1, 0] (bodyOf Tryz.f116))
set_option maxRecDepth 4000 in
set_option maxHeartbeats 1000000 in
theorem aboRound_yes (r : Bool) (n : Nat) (p : P2) (hn : n ≤ 15) (hx : -15 ≤ p.x ∧ p.x ≤ 15) (hy : -15 ≤ p.y ∧ p.y ≤ 15) (l : List Sp) (hl : l.length ≤ 5000) (h1 : inBr r n p = true) : DRound Tryz.prog 0 [.val (.agg #[.int .i64 p.x, .int .i64 p.y])] [.lp 25 [(3, .loc 1 0), (5, .loc 2 0)] #[9] aboA aboB .ready none, .mix 53 [.fn (.func 117) [] [.loc 4 0, .loc 5 0]], .mix 25 [.farr 3 (l).length], .fam (fmS (l)), .flat 4 [.bool r], .flat 3 [.int .i64 (n : Int)]] true [.lp 25 [(3, .loc 1 0), (5, .loc 2 0)] #[9] aboA aboB .ready none, .mix 53 [.fn (.func 117) [] [.loc 4 0, .loc 5 0]], .mix 25 [.farr 3 (l ++ [pt1 p]).length], .fam (fmS (l ++ [pt1 p])), .flat 4 [.bool r], .flat 3 [.int .i64 (n : Int)]] := by
  refine dround_go 6 rfl rfl (by simp) rfl rfl fun s0 hs0 => ?_
  refine zai 1 (by simp only [holes, List.cons_append, List.nil_append]; exact rfl) ?_
  refine zad ?_
  refine zaj rfl rfl rfl (op_alloc 6 rfl zr51 rfl) (by simp only [upd, zaa, za]; exact rfl) ?_
  refine walk_s rfl rfl (op_stwa rfl tb51 (ev1 rfl) (ev1 rfl) rfl rfl rfl rfl) (by simp only [upd, zaa, za]; exact rfl) ?_
  refine zae ?_
  refine ⟨rfl, ?_⟩
  simp only [zaa, za]
  refine dwp_block ?_
  refine zaf ?_
  refine zad ?_
  refine zab rfl rfl rfl (op_ldm rfl tb53 (ev1 rfl) rfl rfl) ?_
  refine zab rfl rfl rfl (op_ldw rfl tb51 (ev1 rfl) rfl rfl) ?_
  refine zaj rfl rfl rfl (zah [4, 5] [] [] rfl (ev1 rfl) (ec (ev1 rfl) en) rfl rfl (br1_d r n p hn hx hy) rfl rfl rfl rfl rfl rfl) (by simp only [upd, zaa, za]; exact rfl) ?_
  refine zae ?_
  refine dwp_if_t rfl (h1) ?_
  refine zai 2 (by simp only [holes, List.cons_append, List.nil_append]; exact rfl) ?_
  refine zad ?_
  refine zab rfl rfl rfl (op_ldm rfl tb25 (ev1 rfl) rfl rfl) ?_
  refine zab rfl rfl rfl (op_fa rfl fo51_1 (ev1 rfl)) ?_
  refine zab rfl rfl rfl (op_ldo rfl tb3 (ev1 rfl) rfl rfl) ?_
  refine zab rfl rfl rfl (op_fa rfl fo51_0 (ev1 rfl)) ?_
  refine zab rfl rfl rfl (op_ldo rfl tb3 (ev1 rfl) rfl rfl) ?_
  refine zab rfl rfl rfl (op_fa rfl fo51_0 (ev1 rfl)) ?_
  refine zab rfl rfl rfl (op_ldo rfl tb3 (ev1 rfl) rfl rfl) ?_
  refine zab rfl rfl rfl (op_build (ps := [(0, .tmp 15), (1, .tmp 17), (2, .tmp 19)]) rfl fl32 zr32 (vc (ev1 rfl) (vc (ev1 rfl) (vc (ev1 rfl) vn))) rfl rfl) ?_
  refine zab rfl rfl rfl (op_bs (ps := [(0, .tmp 20)]) rfl sl25 zr32 rfl (vc (ev1 rfl) vn) rfl (by decide) (by decide)) ?_
  refine zaj rfl rfl rfl (op_appF (j1 := 7) (j2 := 8) rfl rfl sl25 zr32 rfl (ev1 rfl) (ev1 rfl) rfl (fmS_at l) rfl rfl rfl (fun _ => rfl) (fun _ => ⟨by omega, by omega⟩)) (by simp only [upd, zaa, za]; exact rfl) ?_
  refine walk_s rfl rfl (op_stm rfl tb25 (ev1 rfl) (ev1 rfl) (fun s v h => by cases h <;> exact ⟨rfl, rfl⟩) rfl (by first | decide | exact Nat.le_of_ble_eq_true rfl | simp)) (by simp only [upd, zaa, za]; exact rfl) ?_
  refine zae ?_
  refine ⟨by first | rfl | assumption | simp_all, rfl, [0, 1, 2, 3, 4, 5], rfl, ⟨rfl, rfl, by rw [fmS_len, List.length_append]; rfl, by rw [← fmS_add]; rfl, rfl, rfl, trivial⟩⟩
set_option maxRecDepth 4000 in
set_option maxHeartbeats 1000000 in
theorem aboRound_no (r : Bool) (n : Nat) (p : P2) (hn : n ≤ 15) (hx : -15 ≤ p.x ∧ p.x ≤ 15) (hy : -15 ≤ p.y ∧ p.y ≤ 15) (l : List Sp) (hl : l.length ≤ 5000) (h1 : inBr r n p = false) : DRound Tryz.prog 0 [.val (.agg #[.int .i64 p.x, .int .i64 p.y])] [.lp 25 [(3, .loc 1 0), (5, .loc 2 0)] #[9] aboA aboB .ready none, .mix 53 [.fn (.func 117) [] [.loc 4 0, .loc 5 0]], .mix 25 [.farr 3 (l).length], .fam (fmS (l)), .flat 4 [.bool r], .flat 3 [.int .i64 (n : Int)]] true [.lp 25 [(3, .loc 1 0), (5, .loc 2 0)] #[9] aboA aboB .ready none, .mix 53 [.fn (.func 117) [] [.loc 4 0, .loc 5 0]], .mix 25 [.farr 3 (l).length], .fam (fmS (l)), .flat 4 [.bool r], .flat 3 [.int .i64 (n : Int)]] := by
  refine dround_go 6 rfl rfl (by simp) rfl rfl fun s0 hs0 => ?_
  refine zai 1 (by simp only [holes, List.cons_append, List.nil_append]; exact rfl) ?_
  refine zad ?_
  refine zaj rfl rfl rfl (op_alloc 6 rfl zr51 rfl) (by simp only [upd, zaa, za]; exact rfl) ?_
  refine walk_s rfl rfl (op_stwa rfl tb51 (ev1 rfl) (ev1 rfl) rfl rfl rfl rfl) (by simp only [upd, zaa, za]; exact rfl) ?_
  refine zae ?_
  refine ⟨rfl, ?_⟩
  simp only [zaa, za]
  refine dwp_block ?_
  refine zaf ?_
  refine zad ?_
  refine zab rfl rfl rfl (op_ldm rfl tb53 (ev1 rfl) rfl rfl) ?_
  refine zab rfl rfl rfl (op_ldw rfl tb51 (ev1 rfl) rfl rfl) ?_
  refine zaj rfl rfl rfl (zah [4, 5] [] [] rfl (ev1 rfl) (ec (ev1 rfl) en) rfl rfl (br1_d r n p hn hx hy) rfl rfl rfl rfl rfl rfl) (by simp only [upd, zaa, za]; exact rfl) ?_
  refine zae ?_
  refine dwp_if_f rfl (h1) ?_
  refine zal ?_
  refine ⟨by first | rfl | assumption | simp_all, rfl, [0, 1, 2, 3, 4, 5], rfl, ⟨rfl, rfl, rfl, rfl, rfl, rfl, trivial⟩⟩
set_option maxRecDepth 4000 in
set_option maxHeartbeats 1000000 in
theorem near_abo (r : Bool) (n : Nat) (hn : n ≤ 15) : DFun Tryz.prog 139 [.yld 0, .loc 6 0] [.lp 25 [(3, .loc 1 0), (5, .loc 2 0)] #[9] aboA aboB .ready none, .mix 53 [.fn (.func 117) [] [.loc 4 0, .loc 5 0]], .mix 25 [.farr 3 (([] : List Sp)).length], .fam (fmS (([] : List Sp))), .flat 4 [.bool r], .flat 3 [.int .i64 (n : Int)], .flat 3 [.int .i64 (n : Int)]] (.tup []) [.lp 25 [(3, .loc 1 0), (5, .loc 2 0)] #[9] aboA aboB .ready none, .mix 53 [.fn (.func 117) [] [.loc 4 0, .loc 5 0]], .mix 25 [.farr 3 (brK r n ((2 * n + 1) * (2 * n + 1))).length], .fam (fmS (brK r n ((2 * n + 1) * (2 * n + 1)))), .flat 4 [.bool r], .flat 3 [.int .i64 (n : Int)], .flat 3 [.int .i64 (n : Int)]] := by
  have hq := sq15 hn
  refine dcalls_go (N := 25) 7 (by kernel_rfl) Tryz.func139 rfl rfl rfl (by simp only [fr0, Nat.zero_add, Nat.reduceAdd]; exact rfl) rfl fun s0 hs0 => ?_
  refine zaf ?_
  refine zad ?_
  refine zab rfl rfl rfl (op_ldo rfl tb3 (ev1 rfl) rfl rfl) ?_
  refine zab rfl rfl rfl (op_neg' rfl (ev1 rfl) (fun _ => IntWalk.i64_in _ (by omega))) ?_
  refine zab rfl rfl rfl (zac (.inr rfl) (ev1 rfl)) ?_
  refine zae ?_
  refine dwp_block ?_
  refine dwp_loopS ⟨hs0, rfl⟩ (α := Nat) (fun y => [(3, .val (.int .i64 (-(n : Int) + (y : Int))))]) [(0, _), (1, _)] (fun y => [(2, .mix 25 [.farr 3 (brK r n (y * (2 * n + 1))).length]), (3, .fam (fmS (brK r n (y * (2 * n + 1)))))]) [_, _, .hole, .hole, _, _, _] (fun y => y ≤ 2 * n + 1) (fun y => 2 * n + 1 - y) 0 [0, 1, 2, 3, 4, 5, 6] (Nat.zero_le _) rfl ⟨rfl, rfl, trivial⟩ ⟨congrArg (fun z => some (D.val (.int .i64 z))) (by omega), trivial⟩ ⟨rfl, rfl, by rw [Nat.zero_mul]; rfl, by rw [Nat.zero_mul]; rfl, rfl, rfl, rfl, trivial⟩ ?_
  intro y hx
  simp only [upd, zaa, za, List.cons_append, List.nil_append]
  have hy0 := hx
  have hbu := brK_len r n (y * (2 * n + 1))
  have hyq : y * (2 * n + 1) ≤ 31 * 31 := Nat.mul_le_mul (by omega) (by omega)
  refine zaf ?_
  refine zaf ?_
  refine zad ?_
  refine zab rfl rfl rfl (zac (.inl rfl) (ev1 rfl)) ?_
  refine zab rfl rfl rfl (op_ldo rfl tb3 (ev1 rfl) rfl rfl) ?_
  refine zab rfl rfl rfl (op_leq rfl (ev1 rfl) (ev1 rfl)) ?_
  refine zae ?_
  refine dwp_cond rfl (fun c1 => ?_) (fun c1 => ?_)
  · try simp only [decide_eq_true_eq, decide_eq_false_iff_not, beq_iff_eq, bne_iff_ne, beq_eq_false_iff_ne, bne_eq_false_iff_eq, Bool.not_eq_true', Bool.not_eq_false', Bool.and_eq_true, Bool.or_eq_true, Bool.or_eq_false_iff, ne_eq, Decidable.not_not, Int.not_lt, Int.not_le] at c1
    refine zal ?_
    refine zaf ?_
    refine dwp_block ?_
    refine zaf ?_
    refine zad ?_
    refine zab rfl rfl rfl (op_ldo rfl tb3 (ev1 rfl) rfl rfl) ?_
    refine zab rfl rfl rfl (op_neg' rfl (ev1 rfl) (fun _ => IntWalk.i64_in _ (by omega))) ?_
    refine zab rfl rfl rfl (zac (.inr rfl) (ev1 rfl)) ?_
    refine zae ?_
    refine dwp_block ?_
    refine dwp_loopS ⟨hs0, rfl⟩ (α := Nat) (fun x => [(4, .val (.int .i64 (-(n : Int) + (x : Int))))]) [(0, _), (1, _), (3, _)] (fun x => [(2, .mix 25 [.farr 3 (brK r n (y * (2 * n + 1) + x)).length]), (3, .fam (fmS (brK r n (y * (2 * n + 1) + x))))]) [_, _, .hole, .hole, _, _, _] (fun x => x ≤ 2 * n + 1) (fun x => 2 * n + 1 - x) 0 [0, 1, 2, 3, 4, 5, 6] (Nat.zero_le _) rfl ⟨rfl, rfl, rfl, trivial⟩ ⟨congrArg (fun z => some (D.val (.int .i64 z))) (by omega), trivial⟩ ⟨rfl, rfl, by rw [Nat.add_zero]; rfl, by rw [Nat.add_zero]; rfl, rfl, rfl, rfl, trivial⟩ ?_
    intro x hx
    simp only [upd, zaa, za, List.cons_append, List.nil_append]
    have hx0 := hx
    have hbl := brK_len r n (y * (2 * n + 1) + x)
    refine zaf ?_
    refine zaf ?_
    refine zad ?_
    refine zab rfl rfl rfl (zac (.inl rfl) (ev1 rfl)) ?_
    refine zab rfl rfl rfl (op_ldo rfl tb3 (ev1 rfl) rfl rfl) ?_
    refine zab rfl rfl rfl (op_leq rfl (ev1 rfl) (ev1 rfl)) ?_
    refine zae ?_
    refine dwp_cond rfl (fun c2 => ?_) (fun c2 => ?_)
    · try simp only [decide_eq_true_eq, decide_eq_false_iff_not, beq_iff_eq, bne_iff_ne, beq_eq_false_iff_ne, bne_eq_false_iff_eq, Bool.not_eq_true', Bool.not_eq_false', Bool.and_eq_true, Bool.or_eq_true, Bool.or_eq_false_iff, ne_eq, Decidable.not_not, Int.not_lt, Int.not_le] at c2
      refine zal ?_
      refine zaf ?_
      refine dwp_block ?_
      refine zaf ?_
      by_cases hin : inBr r n ⟨-(n : Int) + (x : Int), -(n : Int) + (y : Int)⟩ = true
      · refine zad ?_
        refine zab rfl rfl rfl (zac (.inl rfl) (ev1 rfl)) ?_
        refine zab rfl rfl rfl (zac (.inl rfl) (ev1 rfl)) ?_
        refine zab rfl rfl rfl (zac (.inl rfl) (ev1 rfl)) ?_
        refine zab rfl rfl rfl (op_build (ps := [(0, .tmp 20), (1, .tmp 21)]) rfl fl51 zr51 (vc (ev1 rfl) (vc (ev1 rfl) vn)) rfl rfl) ?_
        refine zaj rfl rfl rfl (op_y (i := 0) [0, 1, 2, 3, 4, 5] [] [] rfl (ev1 rfl) (ec (ev1 rfl) en) rfl rfl rfl (aboRound_yes r n ⟨-(n : Int) + (x : Int), -(n : Int) + (y : Int)⟩ hn (by simp only; omega) (by simp only; omega) _ (by omega) hin) rfl rfl rfl rfl rfl) (by simp only [upd, zaa, za]; exact rfl) ?_
        refine zab rfl rfl rfl (op_not rfl (ev1 rfl)) ?_
        refine zae ?_
        refine dwp_if_f rfl (rfl) ?_
        refine zal ?_
        refine zad ?_
        refine zab rfl rfl rfl (zac (.inl rfl) (ev1 rfl)) ?_
        refine zab rfl rfl rfl (op_add' rfl (ev1 rfl) (ev1 rfl) (fun _ => IntWalk.i64_in _ (by omega))) ?_
        refine zab rfl rfl rfl (zac (.inr rfl) (ev1 rfl)) ?_
        refine zae ?_
        refine ⟨x + 1, [0, 1, 2, 3, 4, 5, 6], by omega, by simp only []; omega, rfl, ⟨congrArg (fun z => some (D.val (.int .i64 z))) (by omega), rfl, rfl, rfl, trivial⟩, ⟨rfl, rfl, by rw [brK_add (by omega), if_pos hin]; rfl, by rw [brK_add (by omega), if_pos hin]; rfl, rfl, rfl, rfl, trivial⟩⟩
      · refine zad ?_
        refine zab rfl rfl rfl (zac (.inl rfl) (ev1 rfl)) ?_
        refine zab rfl rfl rfl (zac (.inl rfl) (ev1 rfl)) ?_
        refine zab rfl rfl rfl (zac (.inl rfl) (ev1 rfl)) ?_
        refine zab rfl rfl rfl (op_build (ps := [(0, .tmp 20), (1, .tmp 21)]) rfl fl51 zr51 (vc (ev1 rfl) (vc (ev1 rfl) vn)) rfl rfl) ?_
        refine zaj rfl rfl rfl (op_y (i := 0) [0, 1, 2, 3, 4, 5] [] [] rfl (ev1 rfl) (ec (ev1 rfl) en) rfl rfl rfl (aboRound_no r n ⟨-(n : Int) + (x : Int), -(n : Int) + (y : Int)⟩ hn (by simp only; omega) (by simp only; omega) _ (by omega) (by simpa using hin)) rfl rfl rfl rfl rfl) (by simp only [upd, zaa, za]; exact rfl) ?_
        refine zab rfl rfl rfl (op_not rfl (ev1 rfl)) ?_
        refine zae ?_
        refine dwp_if_f rfl (rfl) ?_
        refine zal ?_
        refine zad ?_
        refine zab rfl rfl rfl (zac (.inl rfl) (ev1 rfl)) ?_
        refine zab rfl rfl rfl (op_add' rfl (ev1 rfl) (ev1 rfl) (fun _ => IntWalk.i64_in _ (by omega))) ?_
        refine zab rfl rfl rfl (zac (.inr rfl) (ev1 rfl)) ?_
        refine zae ?_
        refine ⟨x + 1, [0, 1, 2, 3, 4, 5, 6], by omega, by simp only []; omega, rfl, ⟨congrArg (fun z => some (D.val (.int .i64 z))) (by omega), rfl, rfl, rfl, trivial⟩, ⟨rfl, rfl, by rw [brK_add (by omega), if_neg hin, List.append_nil]; rfl, by rw [brK_add (by omega), if_neg hin, List.append_nil]; rfl, rfl, rfl, rfl, trivial⟩⟩
    · try simp only [decide_eq_true_eq, decide_eq_false_iff_not, beq_iff_eq, bne_iff_ne, beq_eq_false_iff_ne, bne_eq_false_iff_eq, Bool.not_eq_true', Bool.not_eq_false', Bool.and_eq_true, Bool.or_eq_true, Bool.or_eq_false_iff, ne_eq, Decidable.not_not, Int.not_lt, Int.not_le] at c2
      refine dwp_exit ?_
      refine zad ?_
      refine zab rfl rfl rfl (zac (.inl rfl) (ev1 rfl)) ?_
      refine zab rfl rfl rfl (op_add' rfl (ev1 rfl) (ev1 rfl) (fun _ => IntWalk.i64_in _ (by omega))) ?_
      refine zab rfl rfl rfl (zac (.inr rfl) (ev1 rfl)) ?_
      refine zae ?_
      obtain rfl : x = 2 * n + 1 := by omega
      refine ⟨y + 1, [0, 1, 2, 3, 4, 5, 6], by omega, by simp only []; omega, rfl, ⟨congrArg (fun z => some (D.val (.int .i64 z))) (by omega), rfl, rfl, trivial⟩, ⟨rfl, rfl, by rw [show (y + 1) * (2 * n + 1) = y * (2 * n + 1) + (2 * n + 1) from Nat.succ_mul ..]; rfl, by rw [show (y + 1) * (2 * n + 1) = y * (2 * n + 1) + (2 * n + 1) from Nat.succ_mul ..]; rfl, rfl, rfl, rfl, trivial⟩⟩
  · try simp only [decide_eq_true_eq, decide_eq_false_iff_not, beq_iff_eq, bne_iff_ne, beq_eq_false_iff_ne, bne_eq_false_iff_eq, Bool.not_eq_true', Bool.not_eq_false', Bool.and_eq_true, Bool.or_eq_true, Bool.or_eq_false_iff, ne_eq, Decidable.not_not, Int.not_lt, Int.not_le] at c1
    refine dwp_exit ?_
    obtain rfl : y = 2 * n + 1 := by omega
    refine kend [0, 1, 2, 3, 4, 5, 6] (res_none rfl) rfl rfl ?_ ⟨rfl, rfl, rfl, rfl, rfl, rfl, rfl, trivial⟩
    rfl
set_option maxRecDepth 4000 in
set_option maxHeartbeats 1000000 in
theorem about_d (r : Bool) (n : Nat) (hn : n ≤ 15) : DFun Tryz.prog 116 [.val (.int .i64 (n : Int)), .fn (.func 117) [] [.loc 0 0, .loc 1 0]] [.flat 4 [.bool r], .flat 3 [.int .i64 (n : Int)]] (.slf 3 (brS r n).length ((brS r n).flatMap s3)) [.flat 4 [.bool r], .flat 3 [.int .i64 (n : Int)]] := by
  have hq := sq15 hn
  have hbl := brK_len r n ((2 * n + 1) * (2 * n + 1))
  refine dcalls_go (N := 25) 2 (by kernel_rfl) Tryz.func116 rfl rfl rfl (by simp only [fr0, Nat.zero_add, Nat.reduceAdd]; exact rfl) rfl fun s0 hs0 => ?_
  refine zaf ?_
  refine zai 1 (by simp only [holes, List.cons_append, List.nil_append]; exact rfl) ?_
  refine zad ?_
  refine zaj rfl rfl rfl (op_boxm 2 rfl (ev1 rfl) (fun s v h => by cases h <;> rfl) rfl) (by simp only [upd, zaa, za]; exact rfl) ?_
  refine zab rfl rfl rfl (zac (.inr rfl) (ev1 rfl)) ?_
  refine zae ?_
  refine zaf ?_
  refine zai 1 (by simp only [holes, List.cons_append, List.nil_append]; exact rfl) ?_
  refine zad ?_
  refine zaj rfl rfl rfl (op_alloc 3 rfl zr25 rfl) (by simp only [upd, zaa, za]; exact rfl) ?_
  refine zae ?_
  refine zaf ?_
  refine zaf ?_
  refine zai 1 (by simp only [holes, List.cons_append, List.nil_append]; exact rfl) ?_
  refine zad ?_
  refine zab rfl rfl rfl (zac (.inl rfl) (ev1 rfl)) ?_
  refine zaj rfl rfl rfl (zah [] [] [4] rfl (ev1 rfl) (ec (ev1 rfl) en) rfl rfl (near_d n) rfl rfl rfl rfl rfl rfl) (by simp only [upd, zaa, za]; exact rfl) ?_
  refine zae ?_
  refine dwp_block ?_
  refine dwp_adoptm 3 32 3 rfl (by simp only [List.cons_append, List.nil_append, zaa, za, List.length_cons, List.length_nil, Nat.zero_add, Nat.reduceAdd]; exact rfl) ?_
  refine dwp_hole ?_
  refine dwp_fam 6 rfl (by simp only [List.cons_append, List.nil_append, zaa, za]; exact rfl) ?_
  refine dwp_absc 3 0 6 rfl rfl rfl rfl (by simp only [List.cons_append, List.nil_append, zaa, za]; exact rfl) ?_
  refine dwp_hole ?_
  simp only [List.cons_append, List.nil_append]
  refine dwp_rf (FL := [(3, _), (5, _)]) (st := .ready) (pe := none) [7, 2, 3, 6, 0, 1, 4] [] [] 7 rfl rfl (ev1 rfl) rfl (subF_lk ⟨rfl, rfl, trivial⟩) rfl rfl rfl (near_abo r n hn) rfl rfl rfl rfl rfl rfl rfl (by simp) (fun e => ?_) (fun c e => ?_)
  · simp only [upd, zaa, za]
    refine zaf ?_
    refine zai 1 (by simp only [holes, List.cons_append, List.nil_append]; exact rfl) ?_
    refine zad ?_
    refine zab rfl rfl rfl (op_ldm rfl tb25 (ev1 rfl) rfl rfl) ?_
    refine walk_givf 23 6 8 rfl rfl (fmS_at _) rfl (by simp only [zaa, za]; exact rfl) ?_
    refine zab rfl rfl rfl (zah [] [] [] rfl (ev1 rfl) (ec (ev1 rfl) en) rfl rfl (gath_d (brK r n ((2 * n + 1) * (2 * n + 1))) (brK_valid r n _) (fun s hs => by have := brK_in hs; unfold bdS; omega) (by omega)) rfl rfl rfl rfl rfl rfl) ?_
    refine zab rfl rfl rfl (zac (.inr rfl) (ev1 rfl)) ?_
    refine zae ?_
    refine dwp_ret ?_
    refine kend [0, 1] (rs1 rfl (rv_t rfl)) rfl rfl ?_ ⟨rfl, rfl, trivial⟩
    rfl
  · cases e
end Go.Proofs.YtjgnalfnginjbaaGreatDoor
namespace Go.Proofs.YtjgnalfnginjbaaGreatDoor
set_option maxRecDepth 4000
set_option linter.unusedVariables false
set_option linter.unusedSimpArgs false
open Go.RowKit
set_option maxRecDepth 4000 in
set_option maxHeartbeats 1000000 in
theorem brush_d (r : Bool) (n : Nat) (hn : n ≤ 15) : DFun Tryz.prog 95 [.val (.int .i64 (n : Int)), .val (.bool r)] [] (.slf 3 (brS r n).length ((brS r n).flatMap s3)) [] := by
  refine dcalls_go (N := 8) 0 (by kernel_rfl) Tryz.func95 rfl rfl rfl (by simp only [fr0, Nat.zero_add, Nat.reduceAdd]; exact rfl) rfl fun s0 hs0 => ?_
  refine zaf ?_
  refine zai 2 (by simp only [holes, List.cons_append, List.nil_append]; exact rfl) ?_
  refine zad ?_
  refine zaj rfl rfl rfl (op_boxi 0 rfl (ev1 rfl) rfl) (by simp only [upd, zaa, za]; exact rfl) ?_
  refine zaj rfl rfl rfl (op_boxb 1 rfl (ev1 rfl) rfl) (by simp only [upd, zaa, za]; exact rfl) ?_
  refine zab rfl rfl rfl (zac (.inr rfl) (ev1 rfl)) ?_
  refine zae ?_
  refine zaf ?_
  refine zad ?_
  refine zab rfl rfl rfl (op_ldo rfl tb3 (ev1 rfl) rfl rfl) ?_
  refine zab rfl rfl rfl (op_mkf rfl en (ec (ev1 rfl) (ec (ev1 rfl) en))) ?_
  refine zaj rfl rfl rfl (zah [1, 0] [] [] rfl (ev1 rfl) (ec (ev1 rfl) (ec (ev1 rfl) en)) rfl rfl (about_d r n hn) rfl rfl rfl rfl rfl rfl) (by simp only [upd, zaa, za]; exact rfl) ?_
  refine zab rfl rfl rfl (zac (.inr rfl) (ev1 rfl)) ?_
  refine zae ?_
  refine dwp_ret ?_
  refine kend0 (rs1 rfl (rv_t rfl)) rfl ?_
  rfl
def Sp.sh (p : P2) (s : Sp) : Sp := ⟨s.y + p.y, s.f + p.x, s.t + p.x⟩
def swK (r : Bool) (n : Nat) (l : List P2) : List Sp := l.flatMap fun p => (brS r n).map (Sp.sh p)
def swA (r : Bool) (n : Nat) (l : List P2) : List Sp := normS (swK r n l)
theorem swK_add {r : Bool} {n : Nat} {l : List P2} {i : Nat} (hi : i < l.length) : swK r n (l.take (i + 1)) = swK r n (l.take i) ++ (brS r n).map (Sp.sh l[i]) := by
  unfold swK
  rw [List.take_succ_eq_append_getElem hi, List.flatMap_append]
  simp
theorem swK_len {r : Bool} {n : Nat} (hn : n ≤ 15) : ∀ l : List P2, (swK r n l).length ≤ l.length * 961
  | [] => Nat.le_refl _
  | p :: l => by
    have h1 := swK_len (r := r) hn l
    have h2 := brS_len (r := r) hn
    unfold swK at *
    rw [List.flatMap_cons, List.length_append, List.length_map, List.length_cons, Nat.succ_mul]
    omega
theorem swK_mem {r : Bool} {n : Nat} {l : List P2} {s : Sp} (hs : s ∈ swK r n l) : ∃ p ∈ l, ∃ b ∈ brS r n, s = b.sh p := by
  obtain ⟨p, hp, h⟩ := List.mem_flatMap.1 hs
  obtain ⟨b, hb, rfl⟩ := List.mem_map.1 h
  exact ⟨p, hp, b, hb, rfl⟩
theorem swK_valid (r : Bool) (n : Nat) (l : List P2) : ∀ s ∈ swK r n l, s.f ≤ s.t := fun s hs => by
  obtain ⟨p, hp, b, hb, rfl⟩ := swK_mem hs
  have := (brS_ok r n).1.1 b hb
  show b.f + p.x ≤ b.t + p.x
  omega
theorem drwL_mem {l : List P2} (h : drwL l = true) {p : P2} (hp : p ∈ l) : (-64 ≤ p.x ∧ p.x ≤ 127) ∧ -64 ≤ p.y ∧ p.y ≤ 127 := drwB_iff.1 (List.all_eq_true.1 h p hp)
theorem swK_bd {r : Bool} {n : Nat} (hn : n ≤ 15) {l : List P2} (hd : drwL l = true) : ∀ s ∈ swK r n l, ((-79 ≤ s.y ∧ s.y ≤ 142) ∧ -79 ≤ s.f ∧ s.t ≤ 142) ∧ bdS s := fun s hs => by
  have hv := swK_valid r n l s hs
  obtain ⟨p, hp, b, hb, rfl⟩ := swK_mem hs
  have h1 := brS_in b hb
  have h2 := drwL_mem hd hp
  unfold bdS
  unfold Sp.sh at *
  simp only at *
  omega
theorem swA_ok (r : Bool) (n : Nat) (l : List P2) : okS (swA r n l) ∧ ∀ x y, hasS (swA r n l) x y ↔ ∃ p ∈ l, ((-(n : Int) ≤ x - p.x ∧ x - p.x ≤ n) ∧ -(n : Int) ≤ y - p.y ∧ y - p.y ≤ n) ∧ inBr r n ⟨x - p.x, y - p.y⟩ = true := by
  have h := norm_ok (swK_valid r n l)
  refine ⟨h.1, fun x y => (h.2 x y).trans ?_⟩
  constructor
  · rintro ⟨s, hs, h1, h2, h3⟩
    obtain ⟨p, hp, b, hb, rfl⟩ := swK_mem hs
    refine ⟨p, hp, ((brS_ok r n).2 (x - p.x) (y - p.y)).1 ⟨b, hb, ?_⟩⟩
    unfold Sp.sh at *
    unfold Sp.has
    simp only at *
    omega
  · rintro ⟨p, hp, h1⟩
    obtain ⟨b, hb, h2, h3, h4⟩ := ((brS_ok r n).2 (x - p.x) (y - p.y)).2 h1
    refine ⟨b.sh p, List.mem_flatMap.2 ⟨p, hp, List.mem_map.2 ⟨b, hb, rfl⟩⟩, ?_⟩
    unfold Sp.has Sp.sh
    simp only
    omega
theorem swA_bd {r : Bool} {n : Nat} (hn : n ≤ 15) {l : List P2} (hd : drwL l = true) : ∀ s ∈ swA r n l, (-79 ≤ s.y ∧ s.y ≤ 142) ∧ -79 ≤ s.f ∧ s.t ≤ 142 :=
  has_bd (swA_ok r n l).1.1 (norm_ok (swK_valid r n l)).2 fun s hs => (swK_bd hn hd s hs).1
theorem swA_chk {r : Bool} {n : Nat} (hn : n ≤ 15) {l : List P2} (hd : drwL l = true) : chkS (swA r n l) := by
  refine ⟨fun s hs => ?_, (swA_ok r n l).1.2⟩
  have h1 := swA_bd hn hd s hs
  have h2 := (swA_ok r n l).1.1 s hs
  unfold rchS
  omega
def swB (n : Int) (l : List P2) : Bool := (decide (0 ≤ n) && decide (n ≤ 15)) && drwL l
def swL (r : Bool) (n : Int) (l : List P2) : List Sp := if swB n l = true then swA r n.toNat l else []
def swE (n : Int) (l : List P2) : Int := if swB n l = true then 0 else 2
theorem sw_ok {r : Bool} {n : Int} {l : List P2} (h : swB n l = true) : swL r n l = swA r n.toNat l ∧ swE n l = 0 ∧ (0 ≤ n ∧ n ≤ 15) ∧ drwL l = true := by
  refine ⟨if_pos h, if_pos h, ?_⟩
  unfold swB at h
  simp only [Bool.and_eq_true, decide_eq_true_eq] at h
  exact h
theorem sw_no {r : Bool} {n : Int} {l : List P2} (h : swB n l = false) : swL r n l = [] ∧ swE n l = 2 := by unfold swL swE; rw [h]; exact ⟨rfl, rfl⟩
set_option maxRecDepth 4000 in
set_option maxHeartbeats 1000000 in
theorem sw1_d (p : P2) (s : Sp) (hp : (-64 ≤ p.x ∧ p.x ≤ 127) ∧ -64 ≤ p.y ∧ p.y ≤ 127) (hs : bdS s) : DFun Tryz.prog 97 [.val (.agg #[.int .i64 s.y, .int .i64 s.f, .int .i64 s.t]), .loc 0 0] [.flat 51 [.int .i64 p.x, .int .i64 p.y]] (.val (.agg (s3 (s.sh p)).toArray)) [.flat 51 [.int .i64 p.x, .int .i64 p.y]] := by
  have hb := hs
  unfold bdS at hb
  refine dcalls_go (N := 20) 1 (by kernel_rfl) Tryz.func97 rfl rfl rfl (by simp only [fr0, Nat.zero_add, Nat.reduceAdd]; exact rfl) rfl fun s0 hs0 => ?_
  refine zaf ?_
  refine zai 2 (by simp only [holes, List.cons_append, List.nil_append]; exact rfl) ?_
  refine zad ?_
  refine zaj rfl rfl rfl (op_boxa 1 rfl (ev1 rfl) rfl) (by simp only [upd, zaa, za]; exact rfl) ?_
  refine zaj rfl rfl rfl (op_alloc 2 rfl zr32 rfl) (by simp only [upd, zaa, za]; exact rfl) ?_
  refine zae ?_
  refine zaf ?_
  refine zad ?_
  refine zab rfl rfl rfl (op_fa rfl fo32_0 (ev1 rfl)) ?_
  refine zab rfl rfl rfl (op_ldo rfl tb3 (ev1 rfl) rfl rfl) ?_
  refine zab rfl rfl rfl (op_fa rfl fo51_1 (ev1 rfl)) ?_
  refine zab rfl rfl rfl (op_ldo rfl tb3 (ev1 rfl) rfl rfl) ?_
  refine zab rfl rfl rfl (op_add' rfl (ev1 rfl) (ev1 rfl) (fun _ => IntWalk.i64_in _ (by omega))) ?_
  refine zab rfl rfl rfl (op_fa rfl fo32_1 (ev1 rfl)) ?_
  refine zab rfl rfl rfl (op_ldo rfl tb3 (ev1 rfl) rfl rfl) ?_
  refine zab rfl rfl rfl (op_fa rfl fo51_0 (ev1 rfl)) ?_
  refine zab rfl rfl rfl (op_ldo rfl tb3 (ev1 rfl) rfl rfl) ?_
  refine zab rfl rfl rfl (op_add' rfl (ev1 rfl) (ev1 rfl) (fun _ => IntWalk.i64_in _ (by omega))) ?_
  refine zab rfl rfl rfl (op_fa rfl fo32_2 (ev1 rfl)) ?_
  refine zab rfl rfl rfl (op_ldo rfl tb3 (ev1 rfl) rfl rfl) ?_
  refine zab rfl rfl rfl (op_fa rfl fo51_0 (ev1 rfl)) ?_
  refine zab rfl rfl rfl (op_ldo rfl tb3 (ev1 rfl) rfl rfl) ?_
  refine zab rfl rfl rfl (op_add' rfl (ev1 rfl) (ev1 rfl) (fun _ => IntWalk.i64_in _ (by omega))) ?_
  refine zab rfl rfl rfl (op_build (ps := [(0, .tmp 8), (1, .tmp 13), (2, .tmp 18)]) rfl fl32 zr32 (vc (ev1 rfl) (vc (ev1 rfl) (vc (ev1 rfl) vn))) rfl rfl) ?_
  refine walk_s rfl rfl (op_stwa rfl tb32 (ev1 rfl) (ev1 rfl) rfl rfl rfl rfl) (by simp only [upd, zaa, za]; exact rfl) ?_
  refine zae ?_
  refine dwp_ret ?_
  refine kend [0] (rs1 rfl (rv_w tb32 rfl rfl rfl)) rfl rfl ?_ ⟨rfl, trivial⟩
  rfl
set_option maxRecDepth 4000 in
set_option maxHeartbeats 1000000 in
theorem each_o (l : List Sp) (p : P2) (hp : (-64 ≤ p.x ∧ p.x ≤ 127) ∧ -64 ≤ p.y ∧ p.y ≤ 127) (hb : ∀ s ∈ l, bdS s) (hn : l.length ≤ 1000) : DFun Tryz.prog 96 [.slf 3 l.length (l.flatMap s3), .fn (.func 97) [] [.loc 0 0]] [.flat 51 [.int .i64 p.x, .int .i64 p.y]] (.arr 1) [.flat 51 [.int .i64 p.x, .int .i64 p.y], .arr 32 3 (l.map (Sp.sh p)).length ((l.map (Sp.sh p)).flatMap s3)] := by
  refine dcalls_go (N := 25) 1 (by kernel_rfl) Tryz.func96 rfl rfl rfl (by simp only [fr0, Nat.zero_add, Nat.reduceAdd]; exact rfl) rfl fun s0 hs0 => ?_
  refine dwp_len (t := 0) rfl fun hl0 hL0 => ?_
  refine zaf ?_
  refine zad ?_
  refine zab rfl rfl rfl (zac (.inr rfl) (ev1 rfl)) ?_
  refine zae ?_
  refine zaf ?_
  refine zai 1 (by simp only [holes, List.cons_append, List.nil_append]; exact rfl) ?_
  refine zad ?_
  refine zab rfl rfl rfl (zac (.inl rfl) (ev1 rfl)) ?_
  refine zab rfl rfl rfl (op_len rfl sl25 (ev1 rfl)) ?_
  refine zaj rfl rfl rfl (op_mk0 1 (l.length) rfl sl25 zr32 (ev1 rfl) (ev1 rfl) (fun _ => rfl) (fun _ => rfl) rfl (fun _ => by omega)) (by simp only [upd, zaa, za]; exact rfl) ?_
  refine zab rfl rfl rfl (zac (.inr rfl) (ev1 rfl)) ?_
  refine zae ?_
  refine zaf ?_
  refine zaf ?_
  refine zad ?_
  refine zab rfl rfl rfl (zac (.inl rfl) (ev1 rfl)) ?_
  refine zab rfl rfl rfl (op_len rfl sl25 (ev1 rfl)) ?_
  refine zab rfl rfl rfl (zac (.inl rfl) (ev1 rfl)) ?_
  refine zae ?_
  refine dwp_block ?_
  refine dwp_loopS ⟨hs0, rfl⟩ (α := Nat) (fun i => [(13, .val (.int .i64 (i : Int)))]) [(1, _), (5, _), (11, _), (12, _)] (fun i => [(1, .arr 32 3 ((l.take i).map (Sp.sh p)).length (((l.take i).map (Sp.sh p)).flatMap s3))]) [_, .hole] (fun i => i ≤ l.length) (fun i => l.length - i) 0 [0, 1] (Nat.zero_le _) rfl ⟨rfl, rfl, rfl, rfl, trivial⟩ ⟨rfl, trivial⟩ ⟨rfl, rfl, trivial⟩ ?_
  intro i hx
  simp only [upd, zaa, za, List.cons_append, List.nil_append]
  have hi0 := hx
  have hml : ((l.take i).map (Sp.sh p)).length ≤ 1000 := by rw [List.length_map, List.length_take]; omega
  refine zaf ?_
  refine zad ?_
  refine zab rfl rfl rfl (op_lss rfl (ev1 rfl) (ev1 rfl)) ?_
  refine zae ?_
  refine zaf ?_
  refine dwp_cond rfl (fun c1 => ?_) (fun c1 => ?_)
  · try simp only [decide_eq_true_eq, decide_eq_false_iff_not, beq_iff_eq, bne_iff_ne, beq_eq_false_iff_ne, bne_eq_false_iff_eq, Bool.not_eq_true', Bool.not_eq_false', Bool.and_eq_true, Bool.or_eq_true, Bool.or_eq_false_iff, ne_eq, Decidable.not_not, Int.not_lt, Int.not_le] at c1
    refine zal ?_
    refine zaf ?_
    refine dwp_block ?_
    refine zaf ?_
    have hi : i < l.length := by omega
    refine zai 1 (by simp only [holes, List.cons_append, List.nil_append]; exact rfl) ?_
    refine zad ?_
    refine zab rfl rfl rfl (op_ixsr (j := i) rfl sl25 (ev1 rfl) (ev1 rfl) (fun _ => rfl) (by decide) (by omega) (by omega)) ?_
    refine zab rfl rfl rfl (op_ldwd rfl tb32 (ev1 rfl) rfl) ?_
    refine zaj rfl rfl rfl (op_alloc 2 rfl zr32 rfl) (by simp only [upd, zaa, za]; exact rfl) ?_
    refine walk_s rfl rfl (op_stwa rfl tb32 (ev1 rfl) (ev1 rfl) rfl rfl rfl rfl) (by simp only [upd, zaa, za]; exact rfl) ?_
    refine zae ?_
    refine zai 1 (by simp only [holes, List.cons_append, List.nil_append]; exact rfl) ?_
    refine zad ?_
    refine zab rfl rfl rfl (zac (.inl rfl) (ev1 rfl)) ?_
    refine zab rfl rfl rfl (zac (.inl rfl) (ev1 rfl)) ?_
    refine zab rfl rfl rfl (op_ldw rfl tb32 (ev1 rfl) rfl rfl) ?_
    refine zaj rfl rfl rfl (zah [0] [] [] rfl (ev1 rfl) (ec (ev1 rfl) en) rfl rfl (sw1_d p l[i] hp (hb _ (List.getElem_mem hi))) rfl rfl rfl rfl rfl rfl) (by simp only [upd, zaa, za]; exact rfl) ?_
    refine zab rfl rfl rfl (op_bs (ps := [(0, .tmp 20)]) rfl sl25 zr32 rfl (vc (ev1 rfl) vn) rfl (by decide) (by decide)) ?_
    refine zaj rfl rfl rfl (op_app (j := 3) rfl sl25 zr32 rfl (ev1 rfl) (ev1 rfl) src_slf rfl rfl (fun _ => rfl) (fun _ => ⟨by omega, by omega⟩)) (by simp only [upd, zaa, za]; exact rfl) ?_
    refine zab rfl rfl rfl (zac (.inr rfl) (ev1 rfl)) ?_
    refine zae ?_
    refine zad ?_
    refine zab rfl rfl rfl (op_add' rfl (ev1 rfl) (ev1 rfl) (fun _ => IntWalk.i64_in _ (by omega))) ?_
    refine zab rfl rfl rfl (zac (.inl rfl) (ev1 rfl)) ?_
    refine zae ?_
    refine ⟨i + 1, [0, 3], by omega, by simp only []; omega, rfl, ⟨rfl, rfl, rfl, rfl, rfl, trivial⟩, ⟨rfl, (by rw [List.take_succ_eq_append_getElem hi, List.map_append, List.length_append, List.flatMap_append]; rfl), trivial⟩⟩
  · try simp only [decide_eq_true_eq, decide_eq_false_iff_not, beq_iff_eq, bne_iff_ne, beq_eq_false_iff_ne, bne_eq_false_iff_eq, Bool.not_eq_true', Bool.not_eq_false', Bool.and_eq_true, Bool.or_eq_true, Bool.or_eq_false_iff, ne_eq, Decidable.not_not, Int.not_lt, Int.not_le] at c1
    refine dwp_exit ?_
    refine zaf ?_
    refine zad ?_
    refine zab rfl rfl rfl (zac (.inl rfl) (ev1 rfl)) ?_
    refine zab rfl rfl rfl (zac (.inr rfl) (ev1 rfl)) ?_
    refine zae ?_
    refine dwp_ret ?_
    refine kend [0, 1] (rs1 rfl (rv_t rfl)) rfl rfl ?_ ⟨?_, ?_, trivial⟩
    rfl
    all_goals first | exact rfl | exact (by rw [take_all (by omega)]; rfl)
set_option maxRecDepth 4000 in
set_option maxHeartbeats 1000000 in
theorem sweep_no (l : List P2) (n : Int) (r : Bool) (h : swB n l = false) : DFun Tryz.prog 65 [.slf 2 l.length (l.flatMap p2), .val (.int .i64 n), .val (.bool r)] [] (.tup [.val (.slice none 0 0), .val (.int .i64 2)]) [] := by
  refine dcalls_go (N := 42) 0 (by kernel_rfl) Tryz.func65 rfl rfl rfl (by simp only [fr0, Nat.zero_add, Nat.reduceAdd]; exact rfl) rfl fun s0 hs0 => ?_
  refine dwp_len (t := 0) rfl fun hl0 hL0 => ?_
  refine zaf ?_
  refine zad ?_
  refine zab rfl rfl rfl (zac (.inr rfl) (ev1 rfl)) ?_
  refine zab rfl rfl rfl (zac (.inr rfl) (ev1 rfl)) ?_
  refine zae ?_
  refine zaf ?_
  refine zaf ?_
  refine zad ?_
  refine zab rfl rfl rfl (zac (.inl rfl) (ev1 rfl)) ?_
  refine zab rfl rfl rfl (zah [] [] [] rfl (ev1 rfl) (ec (ev1 rfl) en) rfl rfl (isSize_d _) rfl rfl rfl rfl rfl rfl) ?_
  refine zab rfl rfl rfl (op_not rfl (ev1 rfl)) ?_
  refine zab rfl rfl rfl (zac (.inl rfl) (ev1 rfl)) ?_
  refine zak (gd_f rfl rfl rfl) rfl rfl rfl (zac (.inl rfl) (ev1 rfl)) ?_
  refine zak (gd_f rfl rfl rfl) rfl rfl rfl (zah [] [] [] rfl (ev1 rfl) (ec (ev2 rfl) en) rfl rfl (undrawn_d l) rfl rfl rfl rfl rfl rfl) ?_
  refine zab rfl rfl rfl (op_or rfl (ev1 rfl) (ev3 rfl id)) ?_
  refine zae ?_
  refine dwp_if_t rfl (by unfold swB at h; cases h1 : drwL l <;> simp_all <;> omega) ?_
  refine zaf ?_
  refine zad ?_
  refine zab rfl rfl rfl (zac (.inr rfl) (ev1 rfl)) ?_
  refine zab rfl rfl rfl (zac (.inr rfl) (ev1 rfl)) ?_
  refine zae ?_
  refine dwp_ret ?_
  refine kend0 (rs2 rfl (rv_t rfl) (rv_t rfl)) rfl ?_
  rfl
set_option maxRecDepth 4000 in
set_option maxHeartbeats 1000000 in
theorem sweep_o (l : List P2) (n : Nat) (r : Bool) (hn : n ≤ 15) (hd : drwL l = true) (hl : l.length ≤ 1000) : DFun Tryz.prog 65 [.slf 2 l.length (l.flatMap p2), .val (.int .i64 (n : Int)), .val (.bool r)] [] (.tup [.slf 3 (swA r n l).length ((swA r n l).flatMap s3), .val (.int .i64 0)]) [] := by
  have hbl := brS_len (r := r) hn
  have hbm : (brS r n).length * l.length ≤ 961 * 1000 := Nat.mul_le_mul hbl hl
  have hbz : ((brS r n).length : Int) * (l.length : Int) = (((brS r n).length * l.length : Nat) : Int) := by push_cast; rfl
  have hbd : ∀ s ∈ brS r n, bdS s := fun s hs => by
    have h1 := brS_in s hs
    have h2 := (brS_ok r n).1.1 s hs
    unfold bdS
    omega
  refine dcalls_go (N := 42) 0 (by kernel_rfl) Tryz.func65 rfl rfl rfl (by simp only [fr0, Nat.zero_add, Nat.reduceAdd]; exact rfl) rfl fun s0 hs0 => ?_
  refine dwp_len (t := 0) rfl fun hl0 hL0 => ?_
  refine zaf ?_
  refine zad ?_
  refine zab rfl rfl rfl (zac (.inr rfl) (ev1 rfl)) ?_
  refine zab rfl rfl rfl (zac (.inr rfl) (ev1 rfl)) ?_
  refine zae ?_
  refine zaf ?_
  refine zaf ?_
  refine zad ?_
  refine zab rfl rfl rfl (zac (.inl rfl) (ev1 rfl)) ?_
  refine zab rfl rfl rfl (zah [] [] [] rfl (ev1 rfl) (ec (ev1 rfl) en) rfl rfl (isSize_d _) rfl rfl rfl rfl rfl rfl) ?_
  refine zab rfl rfl rfl (op_not rfl (ev1 rfl)) ?_
  refine zab rfl rfl rfl (zac (.inl rfl) (ev1 rfl)) ?_
  refine zak (gd_f rfl rfl rfl) rfl rfl rfl (zac (.inl rfl) (ev1 rfl)) ?_
  refine zak (gd_f rfl rfl rfl) rfl rfl rfl (zah [] [] [] rfl (ev1 rfl) (ec (ev2 rfl) en) rfl rfl (undrawn_d l) rfl rfl rfl rfl rfl rfl) ?_
  refine zab rfl rfl rfl (op_or rfl (ev1 rfl) (ev3 rfl id)) ?_
  refine zae ?_
  refine dwp_if_f rfl (by rw [hd]; simp; omega) ?_
  refine zal ?_
  refine zaf ?_
  refine zad ?_
  refine zab rfl rfl rfl (zac (.inl rfl) (ev1 rfl)) ?_
  refine zab rfl rfl rfl (zac (.inl rfl) (ev1 rfl)) ?_
  refine zab rfl rfl rfl (zah [] [] [] rfl (ev1 rfl) (ec (ev1 rfl) (ec (ev1 rfl) en)) rfl rfl (brush_d r n hn) rfl rfl rfl rfl rfl rfl) ?_
  refine zab rfl rfl rfl (zac (.inr rfl) (ev1 rfl)) ?_
  refine zae ?_
  refine zaf ?_
  refine zai 1 (by simp only [holes, List.cons_append, List.nil_append]; exact rfl) ?_
  refine zad ?_
  refine zab rfl rfl rfl (zac (.inl rfl) (ev1 rfl)) ?_
  refine zab rfl rfl rfl (op_len rfl sl25 (ev1 rfl)) ?_
  refine zab rfl rfl rfl (zac (.inl rfl) (ev1 rfl)) ?_
  refine zab rfl rfl rfl (op_len rfl sl48 (ev1 rfl)) ?_
  refine zab rfl rfl rfl (op_mul' rfl (ev1 rfl) (ev1 rfl) (fun _ => IntWalk.i64_in _ (by omega))) ?_
  refine zaj rfl rfl rfl (op_mk0 0 ((brS r n).length * l.length) rfl sl25 zr32 (ev1 rfl) (ev1 rfl) (fun _ => rfl) (fun _ => by rw [hbz]) rfl (fun _ => by omega)) (by simp only [upd, zaa, za]; exact rfl) ?_
  refine zab rfl rfl rfl (zac (.inr rfl) (ev1 rfl)) ?_
  refine zae ?_
  refine zaf ?_
  refine zaf ?_
  refine zad ?_
  refine zab rfl rfl rfl (zac (.inl rfl) (ev1 rfl)) ?_
  refine zab rfl rfl rfl (op_len rfl sl48 (ev1 rfl)) ?_
  refine zab rfl rfl rfl (zac (.inl rfl) (ev1 rfl)) ?_
  refine zae ?_
  refine dwp_block ?_
  refine dwp_loopS ⟨hs0, rfl⟩ (α := Nat) (fun i => [(30, .val (.int .i64 (i : Int)))]) [(8, _), (9, _), (28, _), (29, _)] (fun i => [(0, .arr 32 3 (swK r n (l.take i)).length ((swK r n (l.take i)).flatMap s3))]) [.hole] (fun i => i ≤ l.length) (fun i => l.length - i) 0 [0] (Nat.zero_le _) rfl ⟨rfl, rfl, rfl, rfl, trivial⟩ ⟨rfl, trivial⟩ ⟨rfl, trivial⟩ ?_
  intro i hx
  simp only [upd, zaa, za, List.cons_append, List.nil_append]
  have hi0 := hx
  have hsl := swK_len (r := r) hn (l.take i)
  rw [List.length_take] at hsl
  have hs2 : min i l.length * 961 ≤ 1000 * 961 := Nat.mul_le_mul_right _ (by omega)
  refine zaf ?_
  refine zad ?_
  refine zab rfl rfl rfl (op_lss rfl (ev1 rfl) (ev1 rfl)) ?_
  refine zae ?_
  refine zaf ?_
  refine dwp_cond rfl (fun c2 => ?_) (fun c2 => ?_)
  · try simp only [decide_eq_true_eq, decide_eq_false_iff_not, beq_iff_eq, bne_iff_ne, beq_eq_false_iff_ne, bne_eq_false_iff_eq, Bool.not_eq_true', Bool.not_eq_false', Bool.and_eq_true, Bool.or_eq_true, Bool.or_eq_false_iff, ne_eq, Decidable.not_not, Int.not_lt, Int.not_le] at c2
    refine zal ?_
    refine zaf ?_
    refine dwp_block ?_
    refine zaf ?_
    have hi : i < l.length := by omega
    have hpd := drwL_mem hd (List.getElem_mem hi)
    have hml : ((brS r n).map (Sp.sh l[i])).length ≤ 961 := by rw [List.length_map]; exact hbl
    refine zai 1 (by simp only [holes, List.cons_append, List.nil_append]; exact rfl) ?_
    refine zad ?_
    refine zab rfl rfl rfl (op_ixsr (j := i) rfl sl48 (ev1 rfl) (ev1 rfl) (fun _ => rfl) (by decide) (by omega) (by omega)) ?_
    refine zab rfl rfl rfl (op_ldwd rfl tb51 (ev1 rfl) rfl) ?_
    refine zaj rfl rfl rfl (op_alloc 1 rfl zr51 rfl) (by simp only [upd, zaa, za]; exact rfl) ?_
    refine walk_s rfl rfl (op_stwa rfl tb51 (ev1 rfl) (ev1 rfl) rfl rfl rfl rfl) (by simp only [upd, zaa, za]; exact rfl) ?_
    refine zae ?_
    refine zai 2 (by simp only [holes, List.cons_append, List.nil_append]; exact rfl) ?_
    refine zad ?_
    refine zab rfl rfl rfl (zac (.inl rfl) (ev1 rfl)) ?_
    refine zab rfl rfl rfl (zac (.inl rfl) (ev1 rfl)) ?_
    refine zab rfl rfl rfl (op_mkf rfl en (ec (ev1 rfl) en)) ?_
    refine zaj rfl rfl rfl (zah [1] [] [2] rfl (ev1 rfl) (ec (ev1 rfl) (ec (ev1 rfl) en)) rfl rfl (each_o _ l[i] hpd hbd (by omega)) rfl rfl rfl rfl rfl rfl) (by simp only [upd, zaa, za]; exact rfl) ?_
    refine zaj rfl rfl rfl (op_app (j := 3) rfl sl25 zr32 rfl (ev1 rfl) (ev1 rfl) (src_arr rfl) rfl rfl (fun _ => oc3 _) (fun _ => ⟨by omega, by omega⟩)) (by simp only [upd, zaa, za]; exact rfl) ?_
    refine zab rfl rfl rfl (zac (.inr rfl) (ev1 rfl)) ?_
    refine zae ?_
    refine zad ?_
    refine zab rfl rfl rfl (op_add' rfl (ev1 rfl) (ev1 rfl) (fun _ => IntWalk.i64_in _ (by omega))) ?_
    refine zab rfl rfl rfl (zac (.inl rfl) (ev1 rfl)) ?_
    refine zae ?_
    refine ⟨i + 1, [3], by omega, by simp only []; omega, rfl, ⟨rfl, rfl, rfl, rfl, rfl, trivial⟩, ⟨(by rw [swK_add hi, List.length_append, List.flatMap_append]; rfl), trivial⟩⟩
  · try simp only [decide_eq_true_eq, decide_eq_false_iff_not, beq_iff_eq, bne_iff_ne, beq_eq_false_iff_ne, bne_eq_false_iff_eq, Bool.not_eq_true', Bool.not_eq_false', Bool.and_eq_true, Bool.or_eq_true, Bool.or_eq_false_iff, ne_eq, Decidable.not_not, Int.not_lt, Int.not_le] at c2
    refine dwp_exit ?_
    refine zaf ?_
    refine dwp_giveA 9 rfl rfl (by simp only [zaa, za]; exact rfl) ?_
    rw [show swK r n (l.take i) = swK r n l by rw [take_all (by omega)]] at hsl ⊢
    refine zad ?_
    refine zab rfl rfl rfl (zac (.inl rfl) (ev1 rfl)) ?_
    refine zab rfl rfl rfl (zah [] [] [] rfl (ev1 rfl) (ec (ev1 rfl) en) rfl rfl (gath_d _ (swK_valid r n l) (fun s hs => (swK_bd hn hd s hs).2) (by omega)) rfl rfl rfl rfl rfl rfl) ?_
    refine zab rfl rfl rfl (zac (.inr rfl) (ev1 rfl)) ?_
    refine zab rfl rfl rfl (zac (.inr rfl) (ev1 rfl)) ?_
    refine zae ?_
    refine dwp_ret ?_
    refine kend0 (rs2 rfl (rv_t rfl) (rv_t rfl)) rfl ?_
    rfl
theorem sweep_d (l : List P2) (n : Int) (r : Bool) (hl : l.length ≤ 1000) : DFun Tryz.prog 65 [.slf 2 l.length (l.flatMap p2), .val (.int .i64 n), .val (.bool r)] [] (.tup [.slf 3 (swL r n l).length ((swL r n l).flatMap s3), .val (.int .i64 (swE n l))]) [] := by
  cases h : swB n l with
  | true =>
    obtain ⟨e1, e2, e3, e4⟩ := sw_ok (r := r) h
    rw [e1, e2]
    have := sweep_o l n.toNat r (by omega) e4 hl
    rwa [show ((n.toNat : Nat) : Int) = n by omega] at this
  | false =>
    obtain ⟨e1, e2⟩ := sw_no (r := r) h
    rw [e1, e2]
    exact (sweep_no l n r h).wk (Wk.tup (WkL.cons (Wk.slf0 3) (WkL.cons (Wk.refl _) WkL.nil)))
end Go.Proofs.YtjgnalfnginjbaaGreatDoor
namespace Go.Proofs.YtjgnalfnginjbaaGreatDoor
set_option maxRecDepth 4000
set_option linter.unusedVariables false
set_option linter.unusedSimpArgs false
open Go.RowKit
set_option maxRecDepth 4000 in
set_option maxHeartbeats 1000000 in
theorem cloneS (l : List Sp) (h : l.length ≤ 1000000) : DFun Tryz.prog 11 [.slf 3 l.length (l.flatMap s3)] [] (.arr 0) [.arr 32 3 l.length (l.flatMap s3)] := by
  refine dcalls_go (N := 8) 0 (by kernel_rfl) Tryz.func11 rfl rfl rfl (by simp only [fr0, Nat.zero_add, Nat.reduceAdd]; exact rfl) rfl fun s0 hs0 => ?_
  refine dwp_len (t := 0) rfl fun hl0 hL0 => ?_
  refine zaf ?_
  refine zad ?_
  refine zab rfl rfl rfl (zac (.inr rfl) (ev1 rfl)) ?_
  refine zae ?_
  refine zaf ?_
  refine zaf ?_
  refine zad ?_
  refine zab rfl rfl rfl (zac (.inl rfl) (ev1 rfl)) ?_
  refine walk_nil? rfl rfl rfl rfl sl25 (ev1 rfl) fun nb4 hnb4 => ?_
  refine zae ?_
  refine dwp_cond rfl (fun c1 => ?_) (fun c1 => ?_)
  · try simp only [decide_eq_true_eq, decide_eq_false_iff_not, beq_iff_eq, bne_iff_ne, beq_eq_false_iff_ne, bne_eq_false_iff_eq, Bool.not_eq_true', Bool.not_eq_false', Bool.and_eq_true, Bool.or_eq_true, Bool.or_eq_false_iff, ne_eq, Decidable.not_not, Int.not_lt, Int.not_le] at c1
    refine zaf ?_
    refine zad ?_
    refine zab rfl rfl rfl (zac (.inr rfl) (ev1 rfl)) ?_
    refine zae ?_
    refine dwp_adopt 2 32 3 rfl rfl rfl ?_
    refine dwp_ret ?_
    refine kend [0] (rs1 rfl (rv_t rfl)) rfl rfl ?_ ⟨?_, trivial⟩
    rfl
    exact (by obtain ⟨h1, h2⟩ := hnb4 c1; simp_all [MFits, vwB])
  · try simp only [decide_eq_true_eq, decide_eq_false_iff_not, beq_iff_eq, bne_iff_ne, beq_eq_false_iff_ne, bne_eq_false_iff_eq, Bool.not_eq_true', Bool.not_eq_false', Bool.and_eq_true, Bool.or_eq_true, Bool.or_eq_false_iff, ne_eq, Decidable.not_not, Int.not_lt, Int.not_le] at c1
    refine zal ?_
    refine zaf ?_
    refine zai 2 (by simp only [holes, List.cons_append, List.nil_append]; exact rfl) ?_
    refine zad ?_
    refine zaj rfl rfl rfl (op_bsa (ps := []) 0 rfl sl25 zr32 rfl vn rfl (by decide) (by decide) rfl) (by simp only [upd, zaa, za]; exact rfl) ?_
    refine zab rfl rfl rfl (zac (.inl rfl) (ev1 rfl)) ?_
    refine zaj rfl rfl rfl (op_app (j := 1) rfl sl25 zr32 rfl (ev1 rfl) (ev1 rfl) src_slf rfl rfl (fun _ => flat_oc (fun _ => rfl) l) (fun _ => ⟨by omega, by omega⟩)) (by simp only [upd, zaa, za]; exact rfl) ?_
    refine zab rfl rfl rfl (zac (.inr rfl) (ev1 rfl)) ?_
    refine zae ?_
    refine dwp_ret ?_
    refine kend [1] (rs1 rfl (rv_t rfl)) rfl rfl ?_ ⟨?_, trivial⟩
    rfl
    simp [vwB]
theorem cloneS_f (l : List Sp) (h : l.length ≤ 1000000) : DFun Tryz.prog 11 [.slf 3 l.length (l.flatMap s3)] [] (.slf 3 l.length (l.flatMap s3)) [] := freeze (cloneS l h) rfl
set_option maxRecDepth 4000 in
set_option maxHeartbeats 1000000 in
theorem all_d (l : List Sp) (h : l.length ≤ 1000000) : DFun Tryz.prog 107 [.slf 3 l.length (l.flatMap s3)] [] (.fn (.func 125) [] [.loc 0 0]) [.mix 25 [.slf 3 l.length (l.flatMap s3)]] := by
  refine dcalls_go (N := 7) 0 (by kernel_rfl) Tryz.func107 rfl rfl rfl (by simp only [fr0, Nat.zero_add, Nat.reduceAdd]; exact rfl) rfl fun s0 hs0 => ?_
  refine dwp_len (t := 0) rfl fun hl0 hL0 => ?_
  refine zaf ?_
  refine zad ?_
  refine zab rfl rfl rfl (zac (.inr rfl) (ev1 rfl)) ?_
  refine zae ?_
  refine zaf ?_
  refine zai 1 (by simp only [holes, List.cons_append, List.nil_append]; exact rfl) ?_
  refine zad ?_
  refine zab rfl rfl rfl (zac (.inl rfl) (ev1 rfl)) ?_
  refine zab rfl rfl rfl (zah [] [] [] rfl (ev1 rfl) (ec (ev1 rfl) en) rfl rfl (cloneS_f l h) rfl rfl rfl rfl rfl rfl) ?_
  refine zaj rfl rfl rfl (op_alloc 0 rfl zr25 rfl) (by simp only [upd, zaa, za]; exact rfl) ?_
  refine walk_s rfl rfl (op_stfm rfl tb25 (ev1 rfl) (ev1 rfl) (fun s v h => by cases h <;> exact ⟨rfl, rfl⟩) rfl (by decide)) (by simp only [upd, zaa, za]; exact rfl) ?_
  refine zae ?_
  refine zaf ?_
  refine zad ?_
  refine zab rfl rfl rfl (op_mkf rfl en (ec (ev1 rfl) en)) ?_
  refine zab rfl rfl rfl (zac (.inr rfl) (ev1 rfl)) ?_
  refine zae ?_
  refine dwp_ret ?_
  refine kend [0] (rs1 rfl (rv_t rfl)) rfl rfl ?_ ⟨rfl, trivial⟩
  rfl
theorem pts_wd (s : Sp) : s.pts.length = s.wd := by unfold Sp.pts; simp
theorem pts_add {s : Sp} {k : Nat} (hk : k < s.wd) : s.pts.take (k + 1) = s.pts.take k ++ [⟨s.f + (k : Int), s.y⟩] := by
  rw [List.take_succ_eq_append_getElem (by rw [pts_wd]; exact hk)]
  congr 1
  unfold Sp.pts
  simp
theorem ptsS_add {l : List Sp} {i : Nat} (hi : i < l.length) : ptsS (l.take (i + 1)) = ptsS (l.take i) ++ l[i].pts := by
  unfold ptsS
  rw [List.take_succ_eq_append_getElem hi, List.flatMap_append]
  simp
theorem pts_mem2 {l : List Sp} {i k : Nat} (hi : i < l.length) (hk : k < l[i].wd) : (⟨l[i].f + (k : Int), l[i].y⟩ : P2) ∈ ptsS l := by
  refine List.mem_flatMap.2 ⟨l[i], List.getElem_mem hi, List.mem_map.2 ⟨k, List.mem_range.2 hk, rfl⟩⟩
end Go.Proofs.YtjgnalfnginjbaaGreatDoor
namespace Go.Proofs.YtjgnalfnginjbaaGreatDoor
set_option linter.unusedVariables false
set_option linter.unusedSimpArgs false
open Go.RowKit
section
variable {α β : Type}
def entQ (en : α → List Value) (ev : β → List Value) : Nat → List (α × β) → List MapEntry
  | _, [] => []
  | o, (a, v) :: r => { key := .agg (en a).toArray, val := .agg (ev v).toArray, born := o } :: entQ en ev (o + 1) r
def mapQ (en : α → List Value) (ev : β → List Value) (m : List (α × β)) : Obj := .map (entQ en ev 0 m).toArray m.length
theorem entQ_len (en : α → List Value) (ev : β → List Value) : ∀ (m : List (α × β)) (o : Nat), (entQ en ev o m).length = m.length
  | [], _ => rfl
  | (a, v) :: r, o => by simp [entQ, entQ_len en ev r]
theorem entQ_app (en : α → List Value) (ev : β → List Value) (k : α) (v : β) : ∀ (m : List (α × β)) (o : Nat), entQ en ev o (m ++ [(k, v)]) = entQ en ev o m ++ [{ key := .agg (en k).toArray, val := .agg (ev v).toArray, born := o + m.length }]
  | [], o => by simp [entQ]
  | (a, w) :: r, o => by simp [entQ, entQ_app en ev k v r, Nat.add_assoc, Nat.add_comm 1]
theorem entQ_mem (en : α → List Value) (ev : β → List Value) : ∀ (m : List (α × β)) (o : Nat) (e : MapEntry), e ∈ entQ en ev o m → ∃ p k v, m[p]? = some (k, v) ∧ e = { key := .agg (en k).toArray, val := .agg (ev v).toArray, born := o + p }
  | [], o, e, h => by simp [entQ] at h
  | (a, w) :: r, o, e, h => by
    rw [entQ] at h
    rcases List.mem_cons.1 h with rfl | h
    · exact ⟨0, a, w, rfl, rfl⟩
    · obtain ⟨p, k, v, h1, rfl⟩ := entQ_mem en ev r (o + 1) e h
      exact ⟨p + 1, k, v, h1, by rw [show o + 1 + p = o + (p + 1) by omega]⟩
theorem entQ_at (en : α → List Value) (ev : β → List Value) : ∀ (m : List (α × β)) (o p : Nat) (k : α) (v : β), m[p]? = some (k, v) → ({ key := .agg (en k).toArray, val := .agg (ev v).toArray, born := o + p } : MapEntry) ∈ entQ en ev o m
  | [], o, p, k, v, h => by simp at h
  | (a, w) :: r, o, p, k, v, h => by
    rw [entQ]
    cases p with
    | zero => simp at h; obtain ⟨rfl, rfl⟩ := h; exact List.mem_cons_self ..
    | succ p =>
      have := entQ_at en ev r (o + 1) p k v (by simpa using h)
      rw [show o + 1 + p = o + (p + 1) by omega] at this
      exact List.mem_cons_of_mem _ this
theorem entQ_born (en : α → List Value) (ev : β → List Value) : ∀ (m : List (α × β)) (o : Nat), (∀ b ∈ (entQ en ev o m).map (·.born), o ≤ b) ∧ ((entQ en ev o m).map (·.born)).Nodup
  | [], o => by simp [entQ]
  | (a, w) :: r, o => by
    obtain ⟨h1, h2⟩ := entQ_born en ev r (o + 1)
    rw [entQ, List.map_cons]
    refine ⟨fun c hc => ?_, List.nodup_cons.2 ⟨fun hm => ?_, h2⟩⟩
    · rcases List.mem_cons.1 hc with rfl | hc
      · exact Nat.le_refl _
      · have := h1 c hc; omega
    · have := h1 o hm; omega
variable [DecidableEq α] {P : Program} {T : TypeId} {en : α → List Value} {ev : β → List Value}
theorem run_askQ (hk : KeyT P T en) (k : α) (w : World) : ∀ (m : List (α × β)) (o i : Nat), k ∉ m.map (·.1) → (Instr.findAsking T (.agg (en k).toArray) (entQ en ev o m) i).run P w = .ok none w
  | [], o, i, _ => by simp [Instr.findAsking, entQ]
  | (a, v) :: r, o, i, h => by
    have h1 : k ≠ a := fun e => h (by simp [e])
    rw [entQ, Instr.findAsking, Sem.run_bind, hk.eq, Result.andThen_ok]
    simp only [h1, decide_false, Bool.false_eq_true, if_false]
    exact run_askQ hk k w r (o + 1) (i + 1) fun e => h (List.mem_cons_of_mem _ e)
theorem run_findQ (hk : KeyT P T en) (k : α) (m : List (α × β)) (w : World) (h : k ∉ m.map (·.1)) : (Instr.findKey T (.agg (en k).toArray) (entQ en ev 0 m)).run P w = .ok none w := by
  obtain ⟨d, hd, hr⟩ := hk.row
  unfold Instr.findKey
  rw [Sem.run_bind, run_underlying hd, Result.andThen_ok]
  cases m with
  | nil => simp [entQ, Instr.findNow]
  | cons p r =>
    obtain ⟨a, v⟩ := p
    have : Instr.findNow d (.agg (en k).toArray) (entQ en ev 0 ((a, v) :: r)) 0 = none := by
      simp only [entQ, Instr.findNow]
      cases d <;> first | rfl | cases hr
    rw [this]
    have := run_askQ (ev := ev) hk k w ((a, v) :: r) 0 0 h
    simpa using this
end
section
variable {α β : Type} {P : Program} {K E T : TypeId} {en : α → List Value} {ev : β → List Value} {pc : Bool} {o : Oper} {F : Fr} {M : List Blk} {x y z : Operand}
/-- a new map -/
theorem op_mkq (en : α → List Value) (ev : β → List Value) (j : Nat) (ho : o.op = .makeMap T none) (hj : M[j]? = some .hole) : DOp P pc o F M [j] (.hnd j) [(j, .obj (mapQ en ev []))] := by
  intro hp a s hok hops hfp
  have hj' : s.M[j]? = some .hole := by rw [hfp j (by simp)]; exact hj
  have hjl : j < s.β.length := by rw [hok.len]; exact (List.getElem?_eq_some_iff.1 hj').1
  have ht : Tr s ⟨s.β.set j (.map (some s.w.heap.size)), s.I, s.M.set j (.obj (mapQ en ev [])), s.w.alloc (mapQ en ev [])⟩ := by
    refine tr_new hok hj' _ _ _ (by simp) (fun b hb => by simpa [hb] using (Option.some.inj hb).symm) (fun b h => Below.heap_alloc _ _ _ h) (fun b hb => ?_) (by simp) rfl rfl rfl ⟨_, rfl, by simpa using heap_alloc_new s.w _, ⟨_, rfl⟩⟩
    cases hb; simp
  refine dg_step (v := .map (some s.w.heap.size)) ?_ ht rfl (.hnd (by simp [hjl]) (by simp) (by simp))
  unfold execOp
  simp only [ho]
  refine run_v ?_
  simp [Instr.makeMap, mapQ, entQ]
theorem mapQ_at {s : St} (hok : Ok s) {i : Nat} {m : List (α × β)} {v : Value} (hM : s.M[i]? = some (.obj (mapQ en ev m))) (hr : Rep s (.hnd i) v) : ∃ b, v = .map (some b) ∧ s.β[i]? = some (.map (some b)) ∧ s.w.heap[b]? = some (mapQ en ev m) := by
  cases hr with
  | hnd hβ hn =>
    obtain ⟨b, e1, e2, b', e3⟩ := hok.blk i _ _ hM hβ
    subst e3
    cases e1
    exact ⟨b, rfl, hβ, e2⟩
/-- a new key set -/
theorem op_muq [DecidableEq α] {i : Nat} {k : α} {m : List (α × β)} {v : β} (hT : mpT P T = some (K, E)) (hk : KeyT P K en) (ho : o.op = .mapUpdate T x y z) (hx : Ev pc F x (.hnd i)) (hy : Ev pc F y (.val (.agg (en k).toArray))) (hz : Ev pc F z (.val (.agg (ev v).toArray))) (hM : M[i]? = some (.obj (mapQ en ev m))) (hn : pc = true → k ∉ m.map (·.1)) : DOp P pc o F M [i] .junk [(i, .obj (mapQ en ev (m ++ [(k, v)])))] := by
  intro hp a s hok hops hfp
  have hM' : s.M[i]? = some (.obj (mapQ en ev m)) := by rw [hfp i (by simp)]; exact hM
  obtain ⟨b, hv, hβ, hob⟩ := mapQ_at hok hM' (ev_at hp hx (by simp [ho, Op.operands]) hops)
  have hry := (ev_at hp hy (by simp [ho, Op.operands]) hops).val_eq
  have hrz := (ev_at hp hz (by simp [ho, Op.operands]) hops).val_eq
  obtain ⟨_, ht⟩ := tr_map (ob' := mapQ en ev (m ++ [(k, v)])) hok ⟨b, rfl⟩ hM' hβ
  refine dg_skip ?_ ht rfl
  have hf := run_findQ (ev := ev) hk k m s.w (hn hp)
  unfold execOp
  simp only [ho, hv, hry, hrz]
  refine run_u ?_
  unfold Instr.mapUpdate
  rw [Sem.run_bind, run_underlying (mpT_spec hT), Result.andThen_ok]
  simp only [Sem.run_bind, getObj, Sem.run, hob, mapQ, Result.andThen, hk.chk, hf]
  simp [setObj, Sem.run, World.putObj, entQ_app, hob, mapQ]
theorem op_lenq (ho : o.op = .call { callee := .builtin .len, args := #[x], argTypes := #[T] }) {i : Nat} {m : List (α × β)} (hT : mpT P T = some (K, E)) (hx : Ev pc F x (.hnd i)) (hM : M[i]? = some (.obj (mapQ en ev m))) : DOp P pc o F M [i] (.val (.int .i64 m.length)) [] := by
  intro hp a s hok hops hfp
  have hM' : s.M[i]? = some (.obj (mapQ en ev m)) := by rw [hfp i (by simp)]; exact hM
  obtain ⟨b, hv, hβ, hob⟩ := mapQ_at hok hM' (ev_at hp hx (by simp [ho, Op.operands, Call.operands]) hops)
  refine dg_val hok (run_builtin ho (fun cs => rfl) ?_) (.val (.int .i64 m.length))
  simp [Builtin.len_, hv, run_underlying (mpT_spec hT), getObj, Sem.run, hob, mapQ, Result.andThen, Sem.run_bind, entQ_len, goInt]
/-- a walk through it begins -/
theorem op_rgq {i : Nat} {m : List (α × β)} (j : Nat) (ho : o.op = .range T x) (hT : mpT P T = some (K, E)) (hx : Ev pc F x (.hnd i)) (hM : M[i]? = some (.obj (mapQ en ev m))) (hj : M[j]? = some .hole) : DOp P pc o F M [i, j] (.loc j 0) [(j, .mit (.hnd i) m.length [])] := by
  intro hp a s hok hops hfp
  have hM' : s.M[i]? = some (.obj (mapQ en ev m)) := by rw [hfp i (by simp)]; exact hM
  have hj' : s.M[j]? = some .hole := by rw [hfp j (by simp)]; exact hj
  have hjl : j < s.β.length := by rw [hok.len]; exact (List.getElem?_eq_some_iff.1 hj').1
  obtain ⟨b, hv, hβ, hob⟩ := mapQ_at hok hM' (ev_at hp hx (by simp [ho, Op.operands]) hops)
  have hij : j ≠ i := fun e => by subst e; rw [hM'] at hj'; cases hj'
  have ht : Tr s ⟨s.β.set j (.pointer (some ⟨s.w.heap.size, 0, none⟩)), s.I, s.M.set j (.mit (.hnd i) m.length []), s.w.alloc (.mapIter (some b) m.length #[] m.length)⟩ := by
    refine tr_new hok hj' _ _ _ (by simp) (fun c hc => by cases hc; rfl) (fun c h => Below.heap_alloc _ _ _ h) (fun c hc => by cases hc; simp) (by simp) rfl rfl rfl ⟨_, b, rfl, by simpa using heap_alloc_new s.w _, .hnd (by show (s.β.set j _)[i]? = _; rw [List.getElem?_set_ne hij]; exact hβ) (by simp) (by simp)⟩
  refine dg_step (v := .pointer (some ⟨s.w.heap.size, 0, none⟩)) ?_ ht rfl (.loc (by simp [hjl]))
  have hrun := run_range_map (P := P) s.w T K E b (entQ en ev 0 m).toArray m.length (mpT_spec hT) hob
  unfold execOp
  simp only [ho, hv]
  exact run_v hrun
theorem mitQ_at {s : St} (hok : Ok s) {i j n : Nat} {seen : List Nat} {m : List (α × β)} {v : Value} (hMj : s.M[j]? = some (.mit (.hnd i) n seen)) (hM : s.M[i]? = some (.obj (mapQ en ev m))) (hr : Rep s (.loc j 0) v) : ∃ r b, v = .pointer (some ⟨r, 0, none⟩) ∧ s.β[j]? = some (.pointer (some ⟨r, 0, none⟩)) ∧ s.β[i]? = some (.map (some b)) ∧ s.w.heap[r]? = some (.mapIter (some b) n seen.toArray n) ∧ s.w.heap[b]? = some (mapQ en ev m) := by
  cases hr with
  | @loc _ _ r hβ =>
    obtain ⟨r', b, e1, e2, e3⟩ := hok.blk j _ _ hMj hβ
    cases e1
    obtain ⟨b', q1, q2, q3⟩ := mapQ_at hok hM e3
    cases q1
    exact ⟨r, b, rfl, hβ, q2, e2, q3⟩
/-- the next entry, whichever -/
theorem op_nxq {i j : Nat} {seen : List Nat} {m : List (α × β)} (ho : o.op = .next x false) (hx : Ev true F x (.loc j 0)) (hMj : M[j]? = some (.mit (.hnd i) m.length seen)) (hM : M[i]? = some (.obj (mapQ en ev m))) :
    DOpE P o F M [i, j] (fun d wr => (wr = [] ∧ d = .tup [.val (.bool false)] ∧ ∀ p, p < m.length → p ∈ seen) ∨ ∃ p k e, m[p]? = some (k, e) ∧ p ∉ seen ∧ d = .tup [.val (.bool true), .val (.agg (en k).toArray), .val (.agg (ev e).toArray)] ∧ wr = [(j, .mit (.hnd i) m.length (seen ++ [p]))]) := by
  intro a s hok hops hfp
  have hM' : s.M[i]? = some (.obj (mapQ en ev m)) := by rw [hfp i (by simp)]; exact hM
  have hMj' : s.M[j]? = some (.mit (.hnd i) m.length seen) := by rw [hfp j (by simp)]; exact hMj
  obtain ⟨r, b, hv, hβj, hβi, hit, hob⟩ := mitQ_at hok hMj' hM' (ev_at rfl hx (by simp [ho, Op.operands]) hops)
  have hold : ∀ y ∈ ((entQ en ev 0 m).toArray).toList, y.born < m.length := fun y hy => by
    obtain ⟨p, k, v, h1, rfl⟩ := entQ_mem en ev m 0 y (by simpa using hy)
    have := (List.getElem?_eq_some_iff.1 h1).1
    show 0 + p < _
    omega
  have hjl : j < s.M.length := (List.getElem?_eq_some_iff.1 hMj').1
  have hlv : Live s r := live_of hMj' rfl hβj rfl
  have hrl := (hok.lt r hlv).1
  rcases run_next_at (P := P) s.w o.type r b m.length m.length seen.toArray (entQ en ev 0 m).toArray m.length hit hob hold (Nat.le_refl _) with ⟨h0, hrun⟩ | ⟨e, he, w1, hw, hrun⟩
  · refine ⟨_, [], .inl ⟨rfl, rfl, fun p hp => ?_⟩, dg_val hok (by unfold execOp; simp only [ho, hv]; exact run_v hrun) (.tup rfl fun q d v g1 g2 => ?_)⟩
    · have := all_seen (entQ en ev 0 m).toArray seen.toArray h0 _ (by simpa using entQ_at en ev m 0 p m[p].1 m[p].2 (List.getElem?_eq_getElem hp))
      simpa using this
    · match q, g1, g2 with
      | 0, g1, g2 => cases g1; cases g2; exact .val _
  · obtain ⟨hm, hns⟩ := mem_left he
    obtain ⟨p, k, v, h1, rfl⟩ := entQ_mem en ev m 0 e (by simpa using hm)
    have hβe : s.β.set j (.pointer (some ⟨r, 0, none⟩)) = s.β := by
      have : s.β[j]'((List.getElem?_eq_some_iff.1 hβj).1) = .pointer (some ⟨r, 0, none⟩) := (List.getElem?_eq_some_iff.1 hβj).2
      rw [← this, List.set_getElem_self]
    have hji : j ≠ i := fun e => by subst e; rw [hM'] at hMj'; cases hMj'
    have hw1 : w1.heap = s.w.heap ∧ w1.os = s.w.os ∧ w1.tape = s.w.tape ∧ w1.output = s.w.output := by rcases hw with rfl | rfl <;> exact ⟨rfl, rfl, rfl, rfl⟩
    obtain ⟨hwh, hwo, hwt, hwp⟩ := hw1
    have hseen : (seen.toArray.push (0 + p)) = (seen ++ [p]).toArray := by simp
    have hsame : (Go.ChangeMaps.setBlock w1 r (.mapIter (some b) m.length (seen.toArray.push (0 + p)) m.length)).heap[r]? = some (.mapIter (some b) m.length (seen ++ [p]).toArray m.length) := by
      unfold Go.ChangeMaps.setBlock
      rw [← hseen]
      simp [hwh, hrl]
    have hother : ∀ c, c ≠ r → (Go.ChangeMaps.setBlock w1 r (.mapIter (some b) m.length (seen.toArray.push (0 + p)) m.length)).heap[c]? = s.w.heap[c]? := fun c hc => by
      unfold Go.ChangeMaps.setBlock
      simp only [hwh]
      rw [Array.getElem?_setIfInBounds_ne (Ne.symm hc)]
    have ht := step_set hok j s.M (.pointer (some ⟨r, 0, none⟩)) (.mit (.hnd i) m.length (seen ++ [p])) (Go.ChangeMaps.setBlock w1 r (.mapIter (some b) m.length (seen.toArray.push (0 + p)) m.length)) rfl (fun _ _ h => .inl h) hjl (.inr (.inl hβj)) (by simp)
      ⟨r, b, rfl, hsame, .hnd (by show (s.β.set j _)[i]? = _; rw [hβe]; exact hβi) (by simp) (by simp)⟩
      (fun c hc q k h hne h1 h2 h3 h4 => by
        cases hc
        exact hne (hok.inj q j k _ h _ r h1 h2 h3 h4 hMj' rfl hβj rfl))
      (fun c hc => by cases hc; exact .inr hlv) (fun c hc => by cases hc; unfold Go.ChangeMaps.setBlock; simpa [hwh] using hrl) (fun _ => False) (fun _ h => h.elim)
      (fun c hc hne _ => hother c (fun e => hne (by rw [e]; rfl))) hwo hwt hwp (by unfold Go.ChangeMaps.setBlock; simp [hwh])
    rw [hβe] at ht
    refine ⟨_, [(j, .mit (.hnd i) m.length (seen ++ [p]))], .inr ⟨p, k, v, h1, by simpa using hns, rfl, rfl⟩, dg_step (v := .tuple #[.bool true, .agg (en k).toArray, .agg (ev v).toArray]) (by unfold execOp; simp only [ho, hv]; exact run_v hrun) ht rfl (.tup rfl fun q d v' g1 g2 => ?_)⟩
    match q, g1, g2 with
    | 0, g1, g2 => cases g1; cases g2; exact .val _
    | 1, g1, g2 => cases g1; cases g2; exact .val _
    | 2, g1, g2 => cases g1; cases g2; exact .val _
/-- the entry that the step handed out -/
theorem op_etq {i j p : Nat} {k : α} {e : β} {seen : List Nat} {m : List (α × β)} (ho : o.op = .entry x) (hx : Ev pc F x (.loc j 0)) (hMj : M[j]? = some (.mit (.hnd i) m.length (seen ++ [p]))) (hM : M[i]? = some (.obj (mapQ en ev m))) (he : m[p]? = some (k, e)) : DOp P pc o F M [i, j] (.tup [.val (.agg (en k).toArray), .val (.agg (ev e).toArray)]) [] := by
  intro hp a s hok hops hfp
  have hM' : s.M[i]? = some (.obj (mapQ en ev m)) := by rw [hfp i (by simp)]; exact hM
  have hMj' : s.M[j]? = some (.mit (.hnd i) m.length (seen ++ [p])) := by rw [hfp j (by simp)]; exact hMj
  obtain ⟨r, b, hv, hβj, hβi, hit, hob⟩ := mitQ_at hok hMj' hM' (ev_at hp hx (by simp [ho, Op.operands]) hops)
  have hseen : (seen ++ [p]).toArray = seen.toArray.push (0 + p) := by simp
  rw [hseen] at hit
  have hrun := run_entry_at (P := P) s.w r b m.length seen.toArray (entQ en ev 0 m).toArray m.length { key := .agg (en k).toArray, val := .agg (ev e).toArray, born := 0 + p } hit hob (by simpa using entQ_at en ev m 0 p k e he) (by simpa using (entQ_born en ev m 0).2)
  refine dg_val (v := .tuple #[.agg (en k).toArray, .agg (ev e).toArray]) hok (by unfold execOp; simp only [ho, hv]; exact run_v hrun) (.tup rfl fun q d v' g1 g2 => ?_)
  match q, g1, g2 with
  | 0, g1, g2 => cases g1; cases g2; exact .val _
  | 1, g1, g2 => cases g1; cases g2; exact .val _
end
section
variable {P : Program} {pc : Bool} {o : Oper} {F : Fr} {M : List Blk}
/-- a struct of what takes a cell each, stored whole -/
theorem op_stam2 {T T' : TypeId} {x y : Operand} {i k : Nat} {rw' : Bool} {ds : List D} {L : List Value} (ho : o.op = .store T x y) (hT : tyB P T = some (rw', k)) (hx : Ev pc F x (.loc i 0)) (hy : Ev pc F y (.agg ds)) (hM : M[i]? = some (.flat T' L)) (hk : ds.length = k) (hfit : ds.length = L.length) (h1 : ds.all D.oc2 = true) : DOp P pc o F M [i] .junk [(i, .mix T' ds)] := by
  intro hp a s hok hops hfp
  have hr := ev_at hp hx (by simp [ho, Op.operands]) hops
  have hry := ev_at hp hy (by simp [ho, Op.operands]) hops
  have hM' : s.M[i]? = some (.flat T' L) := by rw [hfp i (by simp)]; exact hM
  generalize hv : a.eval x = vx at hr
  generalize hvy : a.eval y = vy at hry
  cases hr with
  | @loc _ _ b h =>
    cases hry with
    | @agg _ vs hvl hd =>
      obtain ⟨b', e1, e2⟩ := hok.blk i _ _ hM' h
      cases e1
      have hcell := cellsAt_block e2 0
      have hoc : ∀ u ∈ vs, u.oneCell' = true := fun u hu => by
        obtain ⟨j, hj, rfl⟩ := List.getElem_of_mem hu
        have hj2 : j < ds.length := by omega
        exact oc2_one (hd j _ _ (List.getElem?_eq_getElem hj2) (List.getElem?_eq_getElem hj)) (List.all_eq_true.1 h1 _ (List.getElem_mem hj2))
      have hrun := run_store (P := P) (w := s.w) (C := vs) ho hT hv hvy rfl (by omega) (fun j hj => by
          have hp' : j < L.length := by omega
          have := hcell j L[j] (by simp [hp'])
          rw [Nat.zero_add] at this
          rw [Nat.zero_add, this]; rfl) (fun j hj => by simp [World.frozen?, e2]) hoc
      have hβ : s.β.set i (.pointer (some ⟨b, 0, none⟩)) = s.β := by
        apply List.ext_getElem?
        intro k
        by_cases e : i = k
        · subst e; rw [List.getElem?_set_self (List.getElem?_eq_some_iff.1 h).1, h]
        · rw [List.getElem?_set_ne e]
      refine dg_skip (s' := ⟨s.β.set i (.pointer (some ⟨b, 0, none⟩)), s.I, s.M.set i (.mix T' ds), s.w.setCells b 0 vs⟩) hrun (tr_store hok hM' rfl h rfl 0 _ ?_) rfl
      have hall : setL L 0 vs = vs := setL_all (by omega)
      have hblk := setCells_block b vs 0 s.w L T' e2
      rw [hall] at hblk
      refine ⟨b, vs, rfl, hblk, hvl, fun j e v hj hv' => ?_⟩
      refine Rep.mono' (s := s) (s' := ⟨s.β.set i (.pointer (some ⟨b, 0, none⟩)), s.I, s.M.set i (.mix T' ds), s.w.setCells b 0 vs⟩) (fun k x hk _ => by show (s.β.set i _)[k]? = _; rw [hβ]; exact hk) (fun _ h => h) (fun b' hI => setCells_other b _ 0 s.w b' fun e => ?_) (hd j e v hj hv')
      subst e
      exact (hok.lt b' (live_of hM' rfl h rfl)).2 hI
/-- a map's handle, into a variable -/
theorem op_stfq {α β : Type} {en : α → List Value} {ev : β → List Value} {m : List (α × β)} {T T' : TypeId} {x y : Operand} {i p q : Nat} {rw' : Bool} {L : List Value} (ho : o.op = .store T x y) (hT : tyB P T = some (rw', 1)) (hx : Ev pc F x (.loc i p)) (hy : Ev pc F y (.hnd q)) (hq : M[q]? = some (.obj (mapQ en ev m))) (hM : M[i]? = some (.flat T' L)) (hfit : p < L.length) : DOp P pc o F M [i, q] .junk [(i, .mix T' ((L.map .val).set p (.hnd q)))] := by
  intro hp a s hok hops hfp
  have hr := ev_at hp hx (by simp [ho, Op.operands]) hops
  have hry := ev_at hp hy (by simp [ho, Op.operands]) hops
  obtain ⟨bq, hvq, _, _⟩ := mapQ_at hok (by rw [hfp q (by simp)]; exact hq) hry
  have hc1 : (a.eval y).cells = #[a.eval y] := by rw [hvq]; rfl
  have hc2 : (a.eval y).oneCell' = true := by rw [hvq]; rfl
  have hM' : s.M[i]? = some (.flat T' L) := by rw [hfp i (by simp)]; exact hM
  generalize hv : a.eval x = vx at hr
  cases hr with
  | @loc _ _ b h =>
    obtain ⟨b', e1, e2⟩ := hok.blk i _ _ hM' h
    cases e1
    obtain ⟨vs, hvs⟩ : ∃ vs, vs = L := ⟨_, rfl⟩
    rw [← hvs] at e2 hfit
    have e3 : vs.length = (L.map D.val).length := by rw [hvs]; simp
    have e4 : ∀ (j : Nat) d v, (L.map D.val)[j]? = some d → vs[j]? = some v → Rep s d v := fun j d v h1 h2 => by
      rw [hvs] at h2
      simp [h2] at h1
      subst h1
      exact .val _
    have hcell := cellsAt_block e2 0
    have hrun := run_store (P := P) (w := s.w) (C := [a.eval y]) ho hT hv rfl (by rw [hc1]) rfl (fun j hj => by
        have hj0 : j = 0 := by simp at hj; exact hj
        subst hj0
        have hp' : p < vs.length := by omega
        have := hcell p vs[p] (by simp [hp'])
        rw [Nat.zero_add] at this
        rw [Nat.add_zero, this]; rfl) (fun j hj => by simp [World.frozen?, e2]) (fun u hu => by rw [List.mem_singleton.1 hu]; exact hc2)
    refine dg_skip (s' := ⟨s.β.set i (.pointer (some ⟨b, 0, none⟩)), s.I, s.M.set i (.mix T' ((L.map .val).set p (.hnd q))), s.w.setCells b p [a.eval y]⟩) hrun (tr_store hok hM' rfl h rfl p _ ?_) rfl
    refine ⟨b, vs.set p (a.eval y), rfl, setCells_block b _ p s.w vs T' e2, by simp [e3], fun j e v hj hv' => ?_⟩
    have hβ : s.β.set i (.pointer (some ⟨b, 0, none⟩)) = s.β := by
      apply List.ext_getElem?
      intro k
      by_cases e : i = k
      · subst e; rw [List.getElem?_set_self (List.getElem?_eq_some_iff.1 h).1, h]
      · rw [List.getElem?_set_ne e]
    have lift : ∀ {e : D} {v : Value}, Rep s e v → Rep ⟨s.β.set i (.pointer (some ⟨b, 0, none⟩)), s.I, s.M.set i (.mix T' ((L.map .val).set p (.hnd q))), s.w.setCells b p [a.eval y]⟩ e v := by
      intro e v hr
      refine Rep.mono' (s := s) (s' := ⟨s.β.set i (.pointer (some ⟨b, 0, none⟩)), s.I, s.M.set i (.mix T' ((L.map .val).set p (.hnd q))), s.w.setCells b p [a.eval y]⟩) (fun k x hk _ => by show (s.β.set i _)[k]? = _; rw [hβ]; exact hk) (fun _ h => h) (fun b' hI => setCells_other b _ p s.w b' fun e => ?_) hr
      subst e
      exact (hok.lt b' (live_of hM' rfl h rfl)).2 hI
    by_cases e' : p = j
    · subst e'
      rw [List.getElem?_set_self (by omega)] at hj
      rw [List.getElem?_set_self (by omega)] at hv'
      cases hj; cases hv'
      exact lift hry
    · rw [List.getElem?_set_ne e'] at hj hv'
      exact lift (e4 j e v hj hv')
/-- a variable that stays, whole -/
theorem op_ldg {T : TypeId} {x : Operand} {g i k : Nat} {L : List Value} (ho : o.op = .load T x) (hT : tyB P T = some (true, k)) (hx : Ev pc F x (.val (.pointer (some ⟨g, 0, none⟩)))) (hM : M[i]? = some (.glob g L)) (hk : L.length = k) : DOp P pc o F M [i] (.val (.agg L.toArray)) [] := by
  intro hp a s hok hops hfp
  have hr := (ev_at hp hx (by simp [ho, Op.operands]) hops).val_eq
  have hM' : s.M[i]? = some (.glob g L) := by rw [hfp i (by simp)]; exact hM
  have hil : i < s.β.length := by rw [hok.len]; exact (List.getElem?_eq_some_iff.1 hM').1
  obtain ⟨_, hI, hc⟩ := hok.blk i _ _ hM' (List.getElem?_eq_getElem hil)
  have := cellsAt_range hc 0 k (by simpa using (show L.take k = L by subst hk; simp))
  exact dg_val hok (run_load_row ho hT hr (by simpa using this) hk) (.val _)
end
end Go.Proofs.YtjgnalfnginjbaaGreatDoor
namespace Go.Proofs.YtjgnalfnginjbaaGreatDoor
set_option linter.unusedVariables false
set_option linter.unusedSimpArgs false
open Go.RowKit
theorem lk_key : ∀ {F : Fr} {t : Nat} {d : D}, lk F t = some d → ∃ p ∈ F, p.1 = t
  | [], _, _, h => by cases h
  | (t', d') :: F, t, d, h => by
    by_cases e : t' = t
    · exact ⟨(t', d'), List.mem_cons_self .., e⟩
    · have h2 : lk F t = some d := by
        unfold lk at h
        have e2 : Nat.beq t' t = false := Bool.eq_false_iff.2 fun q => e (Nat.eq_of_beq_eq_true q)
        rw [e2] at h
        exact h
      obtain ⟨p, hp, h3⟩ := lk_key h2
      exact ⟨p, List.mem_cons_of_mem _ hp, h3⟩
/-- what does nothing -/
def nopO : Oper := { dst := none, op := .move (.const (.bool true)), type := 0, pos := "", after := #[], guard := none }
theorem nop_d {P : Program} {pc : Bool} {F : Fr} {M : List Blk} : DOp P pc nopO F M [] (.val (.bool true)) [] := zac (.inl rfl) (ev1 rfl)
theorem nop_n (ops : Array Oper) : namesOf ops nopO = [] := rfl
/-- behind some number all stand behind the one that panics; what isn't forced ahead of it changes nothing, and it doesn't ask for it -/
def drawOkR (n : Nat) (lf : List Oper) (m N : Nat) (fps : List (List Nat × List Nat)) : Bool :=
  let bs := befL lf []
  fps.length == N && Nat.blt m N && Nat.ble N lf.length && (match fps[m]? with | some f => f.1.isEmpty && f.2.isEmpty | none => false) && ((List.range lf.length).all fun j => match lf[j]? with
    | some oj => oj.after.all (fun e => !Region.binds .any e || Nat.blt e.on j) && (Nat.blt j N || (bs.getD j 0).testBit m)
    | none => false) && ((List.range N).all fun i => i == m || match lf[i]?, fps[i]?, lf[m]? with
    | some oi, some fi, some om => (bs.getD m 0).testBit i || (fi.2.isEmpty && !meet oi.dst.toList (namesOf lf.toArray om))
    | _, _, _ => false) && (List.range N).all fun j => j == m ||
    match lf[j]?, fps[j]? with
    | some oj, some fj => dstB n oj.dst && noDef oj.op && fj.2.all (fun x => fj.1.contains x) && (List.range j).all fun i => i == m ||
      match lf[i]?, fps[i]? with
      | some oi, some fi => pairOk lf.toArray (bs.getD j 0) i oi oj fi fj
      | _, _ => false
    | _, _ => false
/-- **A region that draws its order, and panics**: what is not forced ahead of the panic only reads. -/
theorem dwp_drawR {P : Program} {s0 : St} {n : Cx} {id : Nat} {lf : List Oper} {op : Oper} {F : Fr} {M : List Blk} {K : Cont} (m N : Nat) (fps : List (List Nat × List Nat)) (hm : P.follows .mixedOrders = true) (hB : drawOkR n.n lf m N fps = true) (hfr : (F.all fun p => (lf.take N).all fun o => match o.dst with | some t => !Nat.beq t p.1 | none => true) = true) (hopn : lf[m]? = some op) (hndm : noDef op.op = true)
    (h : Lex P lf.toArray ((lf.take N).set m nopO) fps F M (fun F1 M1 => ∃ fp d wr, op.guard = none ∧ DOpP P true op F1 M1 fp d wr ∧ K (.panic d) F (upd M1 wr))) :
    dwp P s0 n (.region id lf.toArray true) F M K := by
  intro a w hi
  refine wpIn_region_any hm ?_
  simp only [drawOkR, Bool.and_eq_true, beq_iff_eq, List.all_eq_true, List.mem_range] at hB
  obtain ⟨⟨⟨⟨⟨⟨hlen0, hml⟩, hNl⟩, hfm⟩, hedge⟩, hpre0⟩, hB⟩ := hB
  have hml := Nat.blt_eq.mp hml
  have hNl := Nat.ble_eq.mp hNl
  have hfm2 : ∀ f, fps[m]? = some f → f.1 = [] ∧ f.2 = [] := fun f hf => by
    rw [hf] at hfm
    simpa using hfm
  obtain ⟨l, hl⟩ : ∃ l, l = (lf.take N).set m nopO := ⟨_, rfl⟩
  have hllen : l.length = N := by rw [hl, List.length_set, List.length_take]; omega
  rw [← hl] at h
  have hlen : fps.length = l.length := by omega
  have htk : ∀ i, i < l.length → i ≠ m → l[i]? = lf[i]? := fun i hi hne => by rw [hl, List.getElem?_set_ne (Ne.symm hne), List.getElem?_take, if_pos (by omega)]
  have hmk : l[m]? = some nopO := by rw [hl, List.getElem?_set_self (by rw [List.length_take]; omega)]
  have hon : ∀ (j : Nat) o, lf[j]? = some o → ∀ e ∈ o.after.toList, Region.binds .any e = true → e.on < j := by
    intro j o ho e he hb
    have h1 := hedge j (List.getElem?_eq_some_iff.1 ho).1
    rw [ho] at h1
    simp only [Bool.and_eq_true] at h1
    have := Array.all_eq_true_iff_forall_mem.1 h1.1 e (by simpa using he)
    rw [hb] at this
    exact Nat.blt_eq.mp (by simpa using this)
  have hbeh : ∀ i, l.length ≤ i → i < lf.length → ahead lf m i = true := by
    intro i h1 h2
    have h3 := hedge i h2
    rw [List.getElem?_eq_getElem h2] at h3
    simp only [Bool.and_eq_true, Bool.or_eq_true] at h3
    rcases h3.2 with h4 | h4
    · have := Nat.blt_eq.mp h4; omega
    · exact h4
  have hpre : ∀ (j : Nat) oj fj, lf[j]? = some oj → fps[j]? = some fj → j < l.length → j ≠ m → ahead lf j m = true ∨ (fj.2 = [] ∧ meet oj.dst.toList (namesOf lf.toArray op) = false) := fun j oj fj ho hf hj hne => by
    have h1 := hpre0 j (by omega)
    rw [ho, hf, hopn] at h1
    simp only [Bool.or_eq_true, Bool.and_eq_true, Bool.not_eq_true', List.isEmpty_iff, beq_iff_eq, hne, false_or] at h1
    exact h1
  subst hllen
  obtain ⟨E, e1, e2, e3⟩ := lex_recs l fps F M hlen h
  have at_ : ∀ k, k < l.length → ∃ o f, l[k]? = some o ∧ fps[k]? = some f := fun k hk => ⟨l[k], fps[k], List.getElem?_eq_getElem hk, List.getElem?_eq_getElem (by omega)⟩
  have hone : ∀ (j : Nat) o f, l[j]? = some o → fps[j]? = some f → (∀ e ∈ o.after.toList, Region.binds .any e = true → e.on < j) ∧ dstB n.n o.dst = true ∧ noDef o.op = true ∧ (∀ x ∈ f.2, x ∈ f.1) ∧ ∀ (i : Nat) oi fi, i < j → l[i]? = some oi → fps[i]? = some fi → ahead lf i j = true ∨ (meet oi.dst.toList (namesOf lf.toArray o) = false ∧ meet (namesOf lf.toArray oi) o.dst.toList = false ∧ meet fi.2 f.1 = false ∧ meet fi.1 f.2 = false) := by
    intro j o f ho hf
    have hj : j < l.length := (List.getElem?_eq_some_iff.1 ho).1
    by_cases ejm : j = m
    · subst ejm
      rw [hmk] at ho
      obtain rfl := Option.some.inj ho
      obtain ⟨k1, k2⟩ := hfm2 f hf
      refine ⟨fun e he => by simp [nopO] at he, rfl, rfl, fun x hx => (by rw [k2] at hx; cases hx), fun i oi fi hij hoi hfi => .inr ⟨?_, ?_, ?_, ?_⟩⟩
      · rw [nop_n]; simp [meet]
      · simp [meet, nopO]
      · rw [k1]; simp [meet]
      · rw [k2]; simp [meet]
    have h1 := hB j hj
    have ho2 := ho
    rw [htk j hj ejm] at ho2
    rw [ho2, hf] at h1
    simp only [Bool.and_eq_true, List.all_eq_true, List.mem_range, Bool.or_eq_true, beq_iff_eq, ejm, false_or] at h1
    obtain ⟨⟨⟨h2, hnd⟩, h3⟩, h4⟩ := h1
    refine ⟨hon j o ho2, h2, hnd, fun x hx => by simpa using h3 x hx, fun i oi fi hij hoi hfi => ?_⟩
    by_cases eim : i = m
    · subst eim
      rw [hmk] at hoi
      obtain rfl := Option.some.inj hoi
      obtain ⟨k1, k2⟩ := hfm2 fi hfi
      refine .inr ⟨?_, ?_, ?_, ?_⟩
      · simp [meet, nopO]
      · rw [nop_n]; simp [meet]
      · rw [k2]; simp [meet]
      · rw [k1]; simp [meet]
    have h5 := h4 i hij
    rw [← htk i (by omega) eim, hoi, hfi] at h5
    simp only [eim, false_or, pairOk, Bool.or_eq_true, Bool.not_eq_true', Bool.or_eq_false_iff] at h5
    rcases h5 with h5 | h5
    · exact .inl h5
    · exact .inr ⟨h5.1.1.1, h5.1.1.2, h5.1.2, h5.2⟩
  have meet_no : ∀ {x : List Nat} {y : List Nat} {t : Nat}, meet x y = false → t ∈ x → t ∈ y → False := by
    intro x y t hm hx hy
    simp only [meet, List.any_eq_false] at hm
    exact hm t hx (by simpa using hy)
  -- the state when some have been done
  have main : ∀ (f : Nat) (listed : Array Bool) (b : Act) (s : St), Ok s0 → listed.size = lf.length → (∀ k, l.length ≤ k → listed.getD k false = false) → listed.getD m false = false → unl listed lf.length = f → Tr s0 s →
      (∀ t d, lkS l E F (fun k => listed.getD k false) t l.length = some d → Rep s d (slot b t)) → s.M.length = M.length → (∀ i, i < M.length → s.M[i]? = memS E M (fun k => listed.getD k false) i l.length) →
      b.tmps.size = n.n → DfOk s0 s n.mks n.U b.defers → (∀ j i, listed.getD j false = true → j < l.length → ahead lf i j = true → listed.getD i false = true) →
      wpAnyIn (wd (n.ρ s0)) 0 P .any lf.toArray (PostK s0 n K) f listed b s.w := by
    intro f
    induction f with
    | zero =>
      intro listed b s h0 hs hbig hm0 hu ht hF hMl hM hn hd _
      have hall := unl_zero _ hu
      have h1 := hall m (by omega)
      rw [hm0] at h1
      cases h1
    | succ f ih =>
      intro listed b s h0 hs hbig hm0 hu ht hF hMl hM hn hd hcl
      refine ⟨fun hnone => ?_, fun i hi => ?_⟩
      · exfalso
        obtain ⟨i, h1, h2, h3⟩ := unl_some lf.length (listed := listed) (by omega)
        obtain ⟨o, ho⟩ : ∃ o, lf[i]? = some o := ⟨lf[i], List.getElem?_eq_getElem h1⟩
        have g1 := hon i o ho
        have : i ∈ Region.ready .any lf.toArray listed := mem_ready.2 ⟨by rw [getD_tf hs h1]; exact h2, o, by simpa using ho, fun e he hb => h3 _ (g1 e (by simpa using he) hb)⟩
        rw [hnone] at this
        cases this
      · obtain ⟨hun, o, ho, hall⟩ := mem_ready.1 hi
        have hof : lf[i]? = some o := by simpa using ho
        have hilf : i < lf.length := (List.getElem?_eq_some_iff.1 hof).1
        rw [getD_tf hs hilf] at hun
        have done0 : ∀ j, ahead lf j i = true → listed.getD j false = true := by
          intro j hj
          obtain ⟨e, he, hb, hcase⟩ := ahead_step hof hj
          have h1 := hall e (by simpa using he) hb
          rcases hcase with rfl | ⟨h2, h3⟩
          · exact h1
          · refine hcl e.on j h1 ?_ h3
            refine Classical.byContradiction fun hno => ?_
            rw [hbig e.on (by omega)] at h1
            cases h1
        by_cases hgt : l.length ≤ i
        · exfalso
          have h1 := done0 m (hbeh i hgt hilf)
          rw [hm0] at h1
          cases h1
        by_cases him : i = m
        · rw [him] at hof done0
          rw [hof] at hopn
          obtain rfl := Option.some.inj hopn
          obtain ⟨fp, d, wr, q1, q2, q3⟩ := e2
          have hMk : s.M = Mup E M l.length := by
            refine List.ext_getElem? fun i => ?_
            by_cases hi : i < M.length
            · rw [hM i hi, mup_at i hi]
              refine memS_congr _ fun j rj hj hrj hwj => ?_
              obtain ⟨oj, fj, hoj, hfj⟩ := at_ j hj
              have hsoft : ahead lf j m = true ∨ fj.2 = [] := by
                by_cases ejm : j = m
                · subst ejm; exact .inr (hfm2 fj hfj).2
                · exact (hpre j oj fj (by rw [← htk j hj ejm]; exact hoj) hfj hj ejm).imp_right (·.1)
              rcases hsoft with h1 | h1
              · exact done0 j h1
              · exfalso
                obtain ⟨_, _, r', hr', _, _, _, hw', _⟩ := e3 j oj fj hoj hfj
                rw [hrj] at hr'
                obtain rfl := Option.some.inj hr'
                rw [h1] at hw'
                rw [wrAt_none _ _ (by rw [hw']; simp)] at hwj
                cases hwj
            · rw [List.getElem?_eq_none (by omega), List.getElem?_eq_none (by rw [Mup_len]; omega)]
          have hslot : ∀ t d, t ∈ namesOf lf.toArray o → lk (Fup l E F l.length) t = some d → Rep s d (slot b t) := by
            intro t d' ht hd'
            refine hF t d' ?_
            rw [← hd', fup_lk]
            refine lkS_congr _ fun j oj hj hoj hjd => ?_
            obtain ⟨oj', fj, hoj', hfj⟩ := at_ j hj
            rw [hoj] at hoj'
            obtain rfl := Option.some.inj hoj'
            have ejm : j ≠ m := fun e => by
              subst e
              rw [hmk] at hoj
              obtain rfl := Option.some.inj hoj
              cases hjd
            rcases hpre j oj fj (by rw [← htk j hj ejm]; exact hoj) hfj hj ejm with h1 | ⟨_, h1⟩
            · exact done0 j h1
            · exact (meet_no h1 (by simp [hjd]) ht).elim
          have hFk : FOk s F b := fun t d' hd' => hF t d' (by
            rw [lkS_cut 0 l.length (Nat.zero_le _) fun j oj _ h2 hj hjd => ?_]
            · exact hd'
            · exfalso
              have ejm : j ≠ m := fun e => by
                subst e
                rw [hmk] at hj
                obtain rfl := Option.some.inj hj
                cases hjd
              obtain ⟨p, hp, rfl⟩ := lk_key hd'
              have h3 := List.all_eq_true.1 (List.all_eq_true.1 hfr p hp) oj (List.mem_of_getElem? (i := j) (by rw [List.getElem?_take, if_pos h2, ← htk j h2 ejm]; exact hj))
              rw [hjd] at h3
              simp at h3)
          unfold wpOpIn
          rw [ho]
          simp only
          have hw : Region.wanted o (yielded lf.toArray b.tmps) = true := by unfold Region.wanted; rw [q1]
          rw [if_pos hw]
          refine dgives_inP hndm (q2 rfl b s ht.ok (fun x hx d' hd' => ?_) (fun i _ => by rw [hMk])) fun s' v ht' ⟨w1, w2⟩ => ?_
          · cases x with
            | tmp t => exact hslot t d' (List.mem_append_left _ (List.mem_append_left _ (List.mem_filterMap.2 ⟨.tmp t, by simpa using hx, rfl⟩))) hd'
            | const v => obtain rfl := Option.some.inj hd'; exact .val v
            | func g => obtain rfl := Option.some.inj hd'; exact Rep.fn (vs := []) (us := []) rfl rfl (fun j d v h => by simp at h) (fun j d v h => by simp at h)
            | global g => obtain rfl := Option.some.inj hd'; exact .val _
          · exact ⟨F, upd (Mup E M l.length) wr, d, ⟨h0, s', v, w1.trans (by rw [hMk]), rfl, ht.trans ht', hFk.mono ht.ok ht', hn, hd.mono ht.ok ht', rfl, w2⟩, q3⟩
        have hil : i < l.length := by omega
        have ho' : l[i]? = some o := by rw [htk i hil him]; exact hof
        obtain ⟨fi, hfi⟩ : ∃ fi, fps[i]? = some fi := ⟨fps[i], List.getElem?_eq_getElem (by omega)⟩
        obtain ⟨pc, d, r, hr, hrd, hg, hop, hwi, hgw⟩ := e3 i o fi ho' hfi
        obtain ⟨g1, g2, hnd, g3, g4⟩ := hone i o fi ho' hfi
        have done := done0
        have undone : ∀ j, j < l.length → ahead lf i j = true → listed.getD j false = false := by
          intro j hj h1
          cases e : listed.getD j false with
          | false => rfl
          | true => rw [hcl j i e hj h1] at hun; cases hun
        have tset : ∀ t, t ∈ namesOf lf.toArray o → lkS l E F (fun k => listed.getD k false) t l.length = lkS l E F (fun _ => true) t i := by
          intro t ht
          rw [lkS_cut i l.length (by omega) fun j oj h1 h2 hj hjd => ?_]
          · refine lkS_congr i fun j oj hj hoj hjd => ?_
            obtain ⟨fj, hfj⟩ : ∃ fj, fps[j]? = some fj := ⟨fps[j], List.getElem?_eq_getElem (by omega)⟩
            rcases g4 j oj fj hj hoj hfj with h1 | h1
            · exact done j h1
            · exact (meet_no h1.1 (by simp [hjd]) ht).elim
          · by_cases e : j = i
            · subst e; exact hun
            · obtain ⟨fj, hfj⟩ : ∃ fj, fps[j]? = some fj := ⟨fps[j], List.getElem?_eq_getElem (by omega)⟩
              rcases (hone j oj fj hj hfj).2.2.2.2 i o fi (by omega) ho' hfi with h3 | h3
              · exact undone j h2 h3
              · exact (meet_no h3.2.1 ht (by simp [hjd])).elim
        have mset : ∀ x, x ∈ fi.1 → memS E M (fun k => listed.getD k false) x l.length = memS E M (fun _ => true) x i := by
          intro x hx
          have wmem : ∀ (j : Nat) rj fj, E[j]? = some rj → fps[j]? = some fj → j < l.length → (wrAt rj.wr x).isSome = true → x ∈ fj.2 := by
            intro j rj fj hrj hfj hj hw
            obtain ⟨oj, _, hoj, _⟩ := at_ j hj
            obtain ⟨_, _, r', hr', _, _, _, hw', _⟩ := e3 j oj fj hoj hfj
            rw [hrj] at hr'
            obtain rfl := Option.some.inj hr'
            rw [← hw']
            refine Classical.byContradiction fun hno => ?_
            rw [wrAt_none _ _ hno] at hw
            cases hw
          rw [memS_cut i l.length (by omega) fun j rj h1 h2 hrj hw => ?_]
          · refine memS_congr i fun j rj hj hrj hw => ?_
            obtain ⟨oj, fj, hoj, hfj⟩ := at_ j (by omega)
            rcases g4 j oj fj hj hoj hfj with h1 | h1
            · exact done j h1
            · exact (meet_no h1.2.2.1 (wmem j rj fj hrj hfj (by omega) hw) hx).elim
          · by_cases e : j = i
            · subst e; exact hun
            · obtain ⟨oj, fj, hoj, hfj⟩ := at_ j (by omega)
              rcases (hone j oj fj hoj hfj).2.2.2.2 i o fi (by omega) ho' hfi with h3 | h3
              · exact undone j h2 h3
              · exact (meet_no h3.2.2.2 hx (wmem j rj fj hrj hfj h2 hw)).elim
        have hslot : ∀ t d, t ∈ o.looksAt lf.toArray → lk (Fup l E F i) t = some d → Rep s d (slot b t) := by
          intro t d' ht hd'
          refine hF t d' ?_
          rw [tset t (List.mem_append_left _ ht), ← fup_lk]
          exact hd'
        have next : ∀ (s' : St) (v : Value), Tr s s' → s'.M = upd s.M r.wr → Rep s' r.d v → wpAnyIn (wd (n.ρ s0)) 0 P .any lf.toArray (PostK s0 n K) f (listed.setIfInBounds i true) (b.put o.dst v) s'.w := by
          intro s' v ht' hM' hrep
          have hset : ∀ k, (listed.setIfInBounds i true).getD k false = if i = k then true else listed.getD k false := fun k => getD_set _ _ _ (by rw [hs]; exact hilf)
          refine ih _ _ s' h0 (by simp [hs]) (fun k hk => by rw [hset, if_neg (by omega)]; exact hbig k hk) (by rw [hset, if_neg him]; exact hm0) ?_ (ht.trans ht') ?_ (by rw [hM', upd_len, hMl]) ?_ (by rw [put_size]; exact hn) (by rw [put_def]; exact hd.mono ht.ok ht') ?_
          · have := unl_set (by rw [hs]; exact hilf) hun lf.length
            rw [if_pos hilf] at this
            omega
          · intro t d' hd'
            by_cases htd : o.dst = some t
            · have e : lkS l E F (fun k => (listed.setIfInBounds i true).getD k false) t l.length = some r.d := by
                rw [lkS_cut (i + 1) l.length (by omega) fun j oj h1 h2 hj hjd => ?_]
                · unfold lkS
                  rw [ho', hr]
                  simp only
                  rw [if_pos ⟨by rw [hset, if_pos rfl], htd⟩]
                · rw [hset, if_neg (by omega)]
                  obtain ⟨fj, hfj⟩ : ∃ fj, fps[j]? = some fj := ⟨fps[j], List.getElem?_eq_getElem (by omega)⟩
                  rcases (hone j oj fj hj hfj).2.2.2.2 i o fi (by omega) ho' hfi with h3 | h3
                  · exact undone j h2 h3
                  · exact (meet_no (t := t) h3.2.1 (List.mem_append_right _ (by simp [htd])) (by simp [hjd])).elim
              rw [e] at hd'
              obtain rfl := Option.some.inj hd'
              have hsz : t < b.tmps.size := by
                rw [htd] at g2
                rw [hn]
                exact Nat.blt_eq.mp g2
              rw [htd, slot_put, if_pos ⟨rfl, hsz⟩]
              exact hrep
            · have e : slot (b.put o.dst v) t = slot b t := by
                cases hod : o.dst with
                | none => rfl
                | some x => rw [slot_put, if_neg (fun q => htd (by rw [hod, q.1]))]
              rw [e]
              refine (hF t d' ?_).mono ht.ok ht'
              rw [← hd']
              refine lkS_congr _ fun j oj hj hoj hjd => ?_
              rw [hset]
              by_cases ej : i = j
              · subst ej
                rw [ho'] at hoj
                obtain rfl := Option.some.inj hoj
                exact absurd hjd htd
              · rw [if_neg ej]
          · intro x hx
            rw [hM', upd_get _ _ _ (by omega), hM x hx]
            cases hw : wrAt r.wr x with
            | none =>
              rw [Option.none_or]
              refine memS_congr _ fun j rj hj hrj hwj => ?_
              rw [hset]
              by_cases ej : i = j
              · subst ej
                rw [hr] at hrj
                obtain rfl := Option.some.inj hrj
                rw [hw] at hwj; cases hwj
              · rw [if_neg ej]
            | some k =>
              rw [Option.some_or]
              have hxw : x ∈ fi.2 := by
                rw [← hwi]
                refine Classical.byContradiction fun hno => ?_
                rw [wrAt_none _ _ hno] at hw
                cases hw
              rw [memS_cut (i + 1) l.length (by omega) fun j rj h1 h2 hrj hwj => ?_]
              · unfold memS
                rw [hr]
                simp only
                rw [if_pos (by rw [hset, if_pos rfl]), hw, Option.some_or]
              · rw [hset, if_neg (by omega)]
                obtain ⟨oj, fj, hoj, hfj⟩ := at_ j (by omega)
                rcases (hone j oj fj hoj hfj).2.2.2.2 i o fi (by omega) ho' hfi with h3 | h3
                · exact undone j h2 h3
                · refine (meet_no h3.2.2.2 (g3 x hxw) ?_).elim
                  obtain ⟨_, _, r', hr', _, _, _, hw', _⟩ := e3 j oj fj hoj hfj
                  rw [hrj] at hr'
                  obtain rfl := Option.some.inj hr'
                  rw [← hw']
                  refine Classical.byContradiction fun hno => ?_
                  rw [wrAt_none _ _ hno] at hwj
                  cases hwj
          · intro j k hj hjl hk
            rw [hset] at hj ⊢
            by_cases e : i = k
            · rw [if_pos e]
            · rw [if_neg e]
              by_cases ej : i = j
              · subst ej; exact done k hk
              · rw [if_neg ej] at hj
                exact hcl j k hj hjl hk
        unfold wpOpIn
        rw [ho]
        simp only
        rw [gd_wanted hg hslot]
        cases pc with
        | true =>
          rw [if_pos rfl]
          refine dgives_in hnd (hop rfl b s ht.ok (fun x hx d' hd' => ?_) (fun x hx => ?_)) fun s' v ht' ⟨q1, q2⟩ => next s' v ht' q1 ?_
          · cases x with
            | tmp t => exact hslot t d' (List.mem_append_left _ (List.mem_filterMap.2 ⟨.tmp t, by simpa using hx, rfl⟩)) hd'
            | const v => obtain rfl := Option.some.inj hd'; exact .val v
            | func g => obtain rfl := Option.some.inj hd'; exact Rep.fn (vs := []) (us := []) rfl rfl (fun j d v h => by simp at h) (fun j d v h => by simp at h)
            | global g => obtain rfl := Option.some.inj hd'; exact .val _
          · by_cases hxl : x < M.length
            · rw [hM x hxl, mup_at x hxl, mset x hx]
            · rw [List.getElem?_eq_none (by omega), List.getElem?_eq_none (by rw [Mup_len]; omega)]
          · rw [hrd]
            unfold gdd
            split
            · exact q2
            · exact .opt (fun _ => q2) (fun h => by cases h)
        | false =>
          rw [if_neg (by simp)]
          have hgs : o.guard.isSome = true := by
            unfold Gd at hg
            cases e : o.guard with
            | none => rw [e] at hg; cases hg
            | some x => rfl
          refine ⟨fun _ _ => trivial, next s undef (Tr.refl ht.ok) (by rw [hgw rfl]; rfl) ?_⟩
          rw [hrd]
          unfold gdd
          split
          · rename_i e; rw [e] at hgs; cases hgs
          · exact .opt (fun h => by cases h) (fun _ => rfl)
  obtain ⟨h0, s, h1, h2, h3, h4, h5, h6⟩ := hi
  subst h1 h2
  have hst := step_same h3.ok { s.w with drawn := s.w.drawn + 1 } rfl rfl rfl rfl
  have hno : ∀ k, (Array.replicate lf.toArray.size false).getD k false = false := fun k => by
    simp only [Array.getD_eq_getD_getElem?, Array.getElem?_replicate]
    split <;> rfl
  have := main lf.length (Array.replicate lf.toArray.size false) a ⟨s.β, s.I, s.M, { s.w with drawn := s.w.drawn + 1 }⟩ h0 (by simp) (fun k _ => hno k) (hno m) (by
      have := unl_start lf.toArray.size lf.length (by simp)
      exact this) (h3.trans hst) (fun t d hd => ?_) rfl (fun i hi => ?_) h5 (h6.mono h3.ok hst) (fun j i hj => by rw [hno] at hj; cases hj)
  · simpa using this
  · rw [lkS_cut 0 l.length (by omega) fun j o _ _ _ _ => hno j] at hd
    exact (h4 t d hd).mono h3.ok hst
  · rw [memS_cut 0 l.length (by omega) fun j r _ _ _ _ => hno j]
    rfl
end Go.Proofs.YtjgnalfnginjbaaGreatDoor
namespace Go.Proofs.YtjgnalfnginjbaaGreatDoor
set_option maxRecDepth 4000
set_option linter.unusedVariables false
set_option linter.unusedSimpArgs false
open Go.RowKit
theorem fl122 : fdL Tryz.prog 122 = some [(0, 1)] := by kernel_rfl
theorem fl85 : fdL Tryz.prog 85 = some [(0, 1)] := by kernel_rfl
theorem fo122_0 : fdO Tryz.prog 122 0 = some 0 := by kernel_rfl
theorem ni122 : niF Tryz.prog 122 = true := by kernel_rfl
theorem tb122 : tyB Tryz.prog 122 = some (true, 1) := by kernel_rfl
theorem tb34 : tyB Tryz.prog 34 = some (false, 1) := by kernel_rfl
theorem tb85 : tyB Tryz.prog 85 = some (true, 1) := by kernel_rfl
theorem zr122 : zrC Tryz.prog 122 = some [.int .i64 0] := by kernel_rfl
theorem zr85 : zrC Tryz.prog 85 = some [.pointer none] := by kernel_rfl
theorem zv122 : zrV Tryz.prog 122 = some (.agg #[.int .i64 0]) := by kernel_rfl
theorem getC_put {w h : Int} {us : List TL} {d : Dt} (hc : CvOk w h us) (ho : onS w h d.x d.y = true) : getC w (putC w h us d) d.x d.y = d.c := by
  have hp := hc.pl ho
  have hq := (on_pl hc.may ho).2.2.2
  unfold getC putC
  rw [if_pos ho, tl_at (by simpa using hp), List.getElem_set_self]
  unfold TL.get TL.set
  rw [List.getD_eq_getElem?_getD, List.getElem?_set_self (by rw [TL.h]; exact hq)]
  rfl
def lastF (x y : Int) (l : List Dt) : C4 × Bool := l.foldl (fun s d => if d.x = x ∧ d.y = y then (d.c, true) else s) (zC4, false)
theorem lastF_add {x y : Int} {l : List Dt} {k : Nat} (h : k < l.length) : lastF x y (l.take (k + 1)) = if l[k].x = x ∧ l[k].y = y then (l[k].c, true) else lastF x y (l.take k) := by
  rw [List.take_succ_eq_append_getElem h, lastF, List.foldl_append]; rfl
theorem pl_inj {w h x y x2 y2 : Int} (hm : mayS w h = true) (ho : onS w h x y = true) (ho2 : onS w h x2 y2 = true) (h1 : plN w x y = plN w x2 y2) : x / 8 = x2 / 8 ∧ y / 8 = y2 / 8 := by
  have hb := mayS_b hm
  have e1 := (on_pl hm ho).1
  have e2 := (on_pl hm ho2).1
  have g1 := onS_iff.1 ho
  have g2 := onS_iff.1 ho2
  rw [h1] at e1
  have hw : w = 1 ∨ w = 2 ∨ w = 3 ∨ w = 4 := by omega
  rcases hw with rfl | rfl | rfl | rfl <;> omega
theorem px_inj {w h x y x2 y2 : Int} (hm : mayS w h = true) (ho : onS w h x y = true) (ho2 : onS w h x2 y2 = true) (h1 : plN w x y = plN w x2 y2) (h2 : pxN x y = pxN x2 y2) : x = x2 ∧ y = y2 := by
  have e1 := (on_pl hm ho).2.2.1
  have e2 := (on_pl hm ho2).2.2.1
  have e3 := pl_inj hm ho ho2 h1
  rw [h2] at e1
  omega
theorem getC_putne {w h x y : Int} {us : List TL} {d : Dt} (hc : CvOk w h us) (ho : onS w h x y = true) (hne : ¬ (d.x = x ∧ d.y = y)) : getC w (putC w h us d) x y = getC w us x y := by
  unfold putC
  split
  · rename_i hd
    unfold getC
    by_cases e : plN w d.x d.y = plN w x y
    · have e2 : pxN d.x d.y ≠ pxN x y := fun e2 => hne (px_inj hc.may hd ho e e2)
      have hp := hc.pl ho
      rw [e, tl_at (by simpa using hp), List.getElem_set_self]
      unfold TL.get TL.set
      rw [List.getD_eq_getElem?_getD, List.getElem?_set_ne e2, ← List.getD_eq_getElem?_getD]
    · rw [List.getD_eq_getElem?_getD, List.getElem?_set_ne e, ← List.getD_eq_getElem?_getD]
  · rfl
theorem getC_puts {w h x y : Int} {us : List TL} (hc : CvOk w h us) (ho : onS w h x y = true) (l : List Dt) : getC w (putsC w h us l) x y = if (lastF x y l).2 = true then (lastF x y l).1 else getC w us x y := by
  have key : ∀ k, k ≤ l.length → getC w (putsC w h us (l.take k)) x y = if (lastF x y (l.take k)).2 = true then (lastF x y (l.take k)).1 else getC w us x y := fun k => by
    induction k with
    | zero => intro _; rfl
    | succ k ih =>
      intro hk
      rw [putsC_take (by omega), lastF_add (by omega)]
      by_cases hd : l[k].x = x ∧ l[k].y = y
      · rw [if_pos hd]
        obtain ⟨rfl, rfl⟩ := hd
        rw [getC_put (hc.puts _) ho]
        rfl
      · rw [if_neg hd, getC_putne (hc.puts _) ho hd, ih (by omega)]
  have := key l.length (Nat.le_refl _)
  rwa [List.take_length] at this
theorem lastG_no {x y : Int} : ∀ {l : List Dt} (s : C4 × Bool), (∀ d ∈ l, ¬ (d.x = x ∧ d.y = y)) → l.foldl (fun s d => if d.x = x ∧ d.y = y then (d.c, true) else s) s = s
  | [], _, _ => rfl
  | d :: l, s, h => by rw [List.foldl_cons, if_neg (h d (by simp))]; exact lastG_no s fun e he => h e (List.mem_cons_of_mem _ he)
theorem lastG_yes {x y : Int} {c : C4} : ∀ {l : List Dt} (s : C4 × Bool), (∃ d ∈ l, d.x = x ∧ d.y = y) → (∀ d ∈ l, d.x = x ∧ d.y = y → d.c = c) → l.foldl (fun s d => if d.x = x ∧ d.y = y then (d.c, true) else s) s = (c, true)
  | [], _, h, _ => by obtain ⟨d, hd, _⟩ := h; cases hd
  | d :: l, s, h, hc => by
    rw [List.foldl_cons]
    by_cases hl : ∃ d ∈ l, d.x = x ∧ d.y = y
    · exact lastG_yes _ hl fun e he => hc e (List.mem_cons_of_mem _ he)
    · rw [lastG_no _ fun e he k => hl ⟨e, he, k⟩]
      obtain ⟨e, he, k⟩ := h
      rcases List.mem_cons.1 he with rfl | he
      · rw [if_pos k, hc e (by simp) k]
      · exact absurd ⟨e, he, k⟩ hl
theorem lastF_no {x y : Int} {l : List Dt} (h : ∀ d ∈ l, ¬ (d.x = x ∧ d.y = y)) : lastF x y l = (zC4, false) := lastG_no _ h
theorem lastF_yes {x y : Int} {c : C4} {l : List Dt} (he : ∃ d ∈ l, d.x = x ∧ d.y = y) (hc : ∀ d ∈ l, d.x = x ∧ d.y = y → d.c = c) : lastF x y l = (c, true) := lastG_yes _ he hc
theorem cv_ext {w h : Int} {ts us : List TL} (hc : CvOk w h ts) (hd : CvOk w h us) (he : ∀ x y, onS w h x y = true → getC w ts x y = getC w us x y) : ts = us := by
  have hb := mayS_b hc.may
  have : sameF w h ts us = true := by
    unfold sameF allEq
    refine List.all_eq_true.2 fun y hy => ?_
    unfold rowEq
    refine List.all_eq_true.2 fun x hx => ?_
    have h1 := List.mem_range.1 hy
    have h2 := List.mem_range.1 hx
    exact decide_eq_true (he _ _ (onS_iff.2 ⟨by omega, by omega⟩))
  rw [sameF_iff hc hd] at this
  simpa using this
def tsRng (ts : List TL) : Prop := ∀ t ∈ ts, ∀ c ∈ t.l, c.rng
def cmC (k : Bool) (u c : C4) : C4 := if k = true then overC u c else c
def dtK (k : Bool) (w : Int) (ts : List TL) (c : C4) (p : P2) : Dt := ⟨p.x, p.y, cmC k (getC w ts p.x p.y) c⟩
def mpK (k : Bool) (w : Int) (ts : List TL) (c : C4) (P : List P2) : List (P2 × C4) := P.map fun p => (p, cmC k (getC w ts p.x p.y) c)
theorem mpK_add (k : Bool) (w : Int) (ts : List TL) (c : C4) (P : List P2) (p : P2) : mpK k w ts c P ++ [(p, cmC k (getC w ts p.x p.y) c)] = mpK k w ts c (P ++ [p]) := by unfold mpK; rw [List.map_append]; rfl
theorem mpK_keys (k : Bool) (w : Int) (ts : List TL) (c : C4) (P : List P2) : (mpK k w ts c P).map (·.1) = P := by unfold mpK; rw [List.map_map]; exact List.map_id' _
theorem mpK_len (k : Bool) (w : Int) (ts : List TL) (c : C4) (P : List P2) : (mpK k w ts c P).length = P.length := by unfold mpK; simp
def lowS (H : Int) (l : List Sp) : List Sp := l.filter fun s => decide (s.y < H)
def lowB (H : Int) (l : List Sp) : Bool := l.all fun s => decide (s.y < H)
theorem lowS_all {H : Int} {l : List Sp} (h : lowB H l = true) : lowS H l = l := List.filter_eq_self.2 fun s hs => List.all_eq_true.1 h s hs
theorem lowB_add {H : Int} {l : List Sp} {i : Nat} (hi : i < l.length) (h : lowB H (l.take i) = true) (hg : l[i].y < H) : lowB H (l.take (i + 1)) = true := by
  unfold lowB at *
  rw [List.take_succ_eq_append_getElem hi, List.all_append, h]
  simpa using hg
theorem lowB_no {H : Int} {l : List Sp} {i : Nat} (hi : i < l.length) (hg : ¬ l[i].y < H) : lowB H l = false := List.all_eq_false.2 ⟨_, List.getElem_mem hi, by simpa using hg⟩
theorem lowS_stop {H : Int} {l : List Sp} (hc : chkS l) {i : Nat} (hi : i < l.length) (h : lowB H (l.take i) = true) (hg : ¬ l[i].y < H) : lowS H l = l.take i := by
  have e : l = l.take i ++ l.drop i := (List.take_append_drop i l).symm
  have h2 : lowS H (l.drop i) = [] := List.filter_eq_nil_iff.2 fun s hs => by
    obtain ⟨j, hj, rfl⟩ := List.getElem_of_mem hs
    rw [List.length_drop] at hj
    rw [List.getElem_drop]
    by_cases e : j = 0
    · subst e; simpa using hg
    · have h3 := List.pairwise_iff_getElem.1 hc.2 i (i + j) hi (by omega) (by omega)
      unfold apS at h3
      simp
      omega
  have h1 := lowS_all h
  unfold lowS at *
  rw [e, List.filter_append, h2, List.append_nil]
  rw [← e]
  exact h1
theorem lowS_mem {H : Int} {l : List Sp} {p : P2} : p ∈ ptsS (lowS H l) ↔ p ∈ ptsS l ∧ p.y < H := by
  rw [ptsS_mem, ptsS_mem]
  unfold hasS lowS
  constructor
  · rintro ⟨s, hs, h⟩
    obtain ⟨h1, h2⟩ := List.mem_filter.1 hs
    have h3 : s.y < H := by simpa using h2
    have h4 := h.1
    exact ⟨⟨s, h1, h⟩, by omega⟩
  · rintro ⟨⟨s, hs, h⟩, h2⟩
    have h4 := h.1
    exact ⟨s, List.mem_filter.2 ⟨hs, by simp; omega⟩, h⟩
theorem fresh {P Q : List P2} {q : P2} {k : Nat} (h : (P ++ Q).Nodup) (hk : k < Q.length) (hq : Q[k] = q) : q ∉ P ++ Q.take k := fun hm => by
  subst hq
  obtain ⟨h1, h2, h3⟩ := List.nodup_append.1 h
  rcases List.mem_append.1 hm with hm | hm
  · exact h3 _ hm _ (List.getElem_mem hk) rfl
  · obtain ⟨j, hj, e⟩ := List.mem_take_iff_getElem.1 hm
    have := (List.getElem_inj h2 (h₀ := by omega) (h₁ := hk)).1 e
    omega
theorem puts_tell {w h : Int} {ts : List TL} (hc : CvOk w h ts) {f : P2 → C4} {l : List Dt} (hl : ∀ d ∈ l, d.c = f ⟨d.x, d.y⟩) {x y : Int} (ho : onS w h x y = true) : getC w (putsC w h ts l) x y = if ∃ d ∈ l, d.x = x ∧ d.y = y then f ⟨x, y⟩ else getC w ts x y := by
  rw [getC_puts hc ho]
  by_cases e : ∃ d ∈ l, d.x = x ∧ d.y = y
  · rw [if_pos e, lastF_yes (c := f ⟨x, y⟩) e fun d hd e => by rw [hl d hd, e.1, e.2], if_pos rfl]
  · rw [if_neg e, lastF_no fun d hd g => e ⟨d, hd, g⟩]
    rfl
theorem puts_ext {w h : Int} {ts : List TL} (hc : CvOk w h ts) {f : P2 → C4} {l r : List Dt} (hl : ∀ d ∈ l, d.c = f ⟨d.x, d.y⟩) (hr : ∀ d ∈ r, d.c = f ⟨d.x, d.y⟩) (he : ∀ x y, onS w h x y = true → ((∃ d ∈ l, d.x = x ∧ d.y = y) ↔ ∃ d ∈ r, d.x = x ∧ d.y = y)) : putsC w h ts l = putsC w h ts r :=
  cv_ext (hc.puts l) (hc.puts r) fun x y ho => by
    rw [puts_tell hc hl ho, puts_tell hc hr ho]
    have this := he x y ho
    by_cases e : ∃ d ∈ l, d.x = x ∧ d.y = y
    · rw [if_pos e, if_pos (this.1 e)]
    · rw [if_neg e, if_neg fun g => e (this.2 g)]
theorem ptsS_nd {l : List Sp} (hl : chkS l) (i : Nat) : (ptsS (l.take i)).Nodup := ptsS_nodup ⟨fun s hs => hl.ok.1 s (List.mem_of_mem_take hs), hl.ok.2.sublist (List.take_sublist ..)⟩
theorem mpK_get {k : Bool} {w : Int} {ts : List TL} {c : C4} {P : List P2} {p : Nat} {q : P2} {e : C4} (h : (mpK k w ts c P)[p]? = some (q, e)) : P[p]? = some q ∧ e = cmC k (getC w ts q.x q.y) c := by
  unfold mpK at h
  rw [List.getElem?_map] at h
  cases h1 : P[p]? with
  | none => rw [h1] at h; cases h
  | some a => rw [h1] at h; cases h; exact ⟨rfl, rfl⟩
def drwC (k : Bool) (w h : Int) (ts : List TL) (c : C4) (l : List Sp) : List TL := putsC w h ts ((ptsS l).map (dtK k w ts c))
theorem dtK_tell (k : Bool) (w : Int) (ts : List TL) (c : C4) (P : List P2) : ∀ d ∈ P.map (dtK k w ts c), d.c = (fun p : P2 => cmC k (getC w ts p.x p.y) c) ⟨d.x, d.y⟩ := fun d hd => by
  obtain ⟨p, _, rfl⟩ := List.mem_map.1 hd
  rfl
theorem dtK_at {k : Bool} {w : Int} {ts : List TL} {c : C4} {P : List P2} {x y : Int} : (∃ d ∈ P.map (dtK k w ts c), d.x = x ∧ d.y = y) ↔ (⟨x, y⟩ : P2) ∈ P := by
  constructor
  · rintro ⟨d, hd, h1, h2⟩
    obtain ⟨p, hp, rfl⟩ := List.mem_map.1 hd
    obtain ⟨a, b⟩ := p
    change a = x at h1
    change b = y at h2
    subst h1 h2
    exact hp
  · exact fun h => ⟨_, List.mem_map.2 ⟨_, h, rfl⟩, rfl, rfl⟩
def dlN (k : Bool) (w : Int) (ts : List TL) (c : C4) (P : List P2) (sn : List Nat) : List Dt := sn.map fun p => dtK k w ts c (P.getD p zP2)
theorem dlN_add {k : Bool} {w : Int} {ts : List TL} {c : C4} {P : List P2} {sn : List Nat} {p : Nat} {q : P2} (h : P[p]? = some q) : dlN k w ts c P (sn ++ [p]) = dlN k w ts c P sn ++ [dtK k w ts c q] := by
  unfold dlN
  rw [List.map_append, List.map_cons, List.map_nil, List.getD_eq_getElem?_getD, h]
  rfl
theorem dlN_len (k : Bool) (w : Int) (ts : List TL) (c : C4) (P : List P2) (sn : List Nat) : (dlN k w ts c P sn).length = sn.length := by unfold dlN; simp
theorem dlN_puts {k : Bool} {w h : Int} {ts : List TL} (hc : CvOk w h ts) (c : C4) {l L : List Sp} (hL : ∀ x y, onS w h x y = true → ((⟨x, y⟩ : P2) ∈ ptsS L ↔ (⟨x, y⟩ : P2) ∈ ptsS l)) {sn : List Nat} (hlt : ∀ p ∈ sn, p < (ptsS L).length) (hall : ∀ p, p < (ptsS L).length → p ∈ sn) : putsC w h ts (dlN k w ts c (ptsS L) sn) = drwC k w h ts c l := by
  have e : dlN k w ts c (ptsS L) sn = (sn.map fun p => (ptsS L).getD p zP2).map (dtK k w ts c) := by unfold dlN; rw [List.map_map]; rfl
  unfold drwC
  rw [e]
  refine puts_ext hc (f := fun p : P2 => cmC k (getC w ts p.x p.y) c) (fun d hd => dtK_tell k w ts c _ d hd) (fun d hd => dtK_tell k w ts c _ d hd) fun x y ho => ?_
  rw [dtK_at, dtK_at, ← hL x y ho, List.mem_map]
  constructor
  · rintro ⟨p, hp, e⟩
    rw [List.getD_eq_getElem?_getD, List.getElem?_eq_getElem (hlt p hp)] at e
    exact e ▸ List.getElem_mem _
  · intro hm
    obtain ⟨j, hj, e⟩ := List.getElem_of_mem hm
    exact ⟨j, hall j hj, by rw [List.getD_eq_getElem?_getD, List.getElem?_eq_getElem hj]; exact e⟩
theorem low_len {H : Int} {l : List Sp} (hl : chkS l) (hn : l.length ≤ 1000000) : (ptsS (lowS H l)).length ≤ 600000000 := by
  have h1 : ((lowS H l).map Sp.wd).sum ≤ (l.map Sp.wd).sum := by
    unfold lowS
    induction l with
    | nil => exact Nat.le_refl _
    | cons a l ih =>
      have := ih ⟨fun s hs => hl.1 s (List.mem_cons_of_mem _ hs), (List.pairwise_cons.1 hl.2).2⟩ (by simp at hn; omega)
      rw [List.filter_cons]
      split
      · simp only [List.map_cons, List.sum_cons]; omega
      · simp only [List.map_cons, List.sum_cons]; omega
  have h2 := cnt_le hl l.length
  rw [List.take_length] at h2
  rw [ptsS_len]
  unfold cntS at *
  omega
theorem clip_chk {c : Bx} {l : List Sp} (h : chkS l) : chkS (clipS c l) := by
  have hk := clip_ok (c := c) h.ok
  refine ⟨fun s hs => ⟨?_, hk.1 s hs⟩, hk.2⟩
  obtain ⟨h1, h2⟩ := List.mem_filter.1 hs
  obtain ⟨r, hr, rfl⟩ := List.mem_map.1 h1
  have h3 := h.1 r hr
  have h4 := hk.1 _ hs
  unfold rchS at *
  unfold Sp.clip at *
  simp only at *
  omega
def eqP2 (a b : P2) : Bool := (a.x == b.x) && ((a.y == b.y) && true)
theorem eqP2_iff {a b : P2} : eqP2 a b = decide (a = b) := by
  obtain ⟨x, y⟩ := a
  obtain ⟨x', y'⟩ := b
  rw [Bool.eq_iff_iff]
  simp [eqP2]
theorem keyP : KeyT Tryz.prog 51 p2 where
  row := ⟨_, Tryz.underlying51, rfl⟩
  eq a b w := by
    have e : eqT Tryz.prog 9 51 (p2 a) (p2 b) = some (eqP2 a b) := by kernel_rfl
    have := eqT_run (P := Tryz.prog) 9 9991 51 _ _ _ w e
    rw [row_val tb51, row_val tb51, eqP2_iff] at this
    exact this
  chk b a w := by kernel_rfl
  bits a := by simp [Instr.sameBits, p2]
set_option maxRecDepth 4000 in
set_option maxHeartbeats 1000000 in
theorem dtold_no : DFun Tryz.prog 47 [.val .nilIface] [] (.val (.int .i64 0)) [] := by
  refine dcalls_go (N := 13) 0 (by kernel_rfl) Tryz.func47 rfl rfl rfl (by simp only [fr0, Nat.zero_add, Nat.reduceAdd]; exact rfl) rfl fun s0 hs0 => ?_
  refine zaf ?_
  refine zad ?_
  refine zab rfl rfl rfl (zac (.inr rfl) (ev1 rfl)) ?_
  refine zae ?_
  refine zaf ?_
  refine zaf ?_
  refine zai 1 (by simp only [holes, List.cons_append, List.nil_append]; exact rfl) ?_
  refine zad ?_
  refine zab rfl rfl rfl (zac (.inl rfl) (ev1 rfl)) ?_
  refine zab rfl rfl rfl (op_tan rfl ni122 zv122 (ev1 rfl)) ?_
  refine zab rfl rfl rfl (zac (.inl rfl) (ev1 rfl)) ?_
  refine zab rfl rfl rfl (op_ext rfl (ev1 rfl) rfl) ?_
  refine zab rfl rfl rfl (op_ext rfl (ev1 rfl) rfl) ?_
  refine zaj rfl rfl rfl (op_alloc 0 rfl zr122 rfl) (by simp only [upd, zaa, za]; exact rfl) ?_
  refine walk_s rfl rfl (op_stwa rfl tb122 (ev1 rfl) (ev1 rfl) rfl rfl rfl rfl) (by simp only [upd, zaa, za]; exact rfl) ?_
  refine zab rfl rfl rfl (zac (.inr rfl) (ev1 rfl)) ?_
  refine zae ?_
  refine zaf ?_
  refine zad ?_
  refine zab rfl rfl rfl (zac (.inl rfl) (ev1 rfl)) ?_
  refine zae ?_
  refine dwp_if_f rfl (rfl) ?_
  refine zal ?_
  refine zaf ?_
  refine zad ?_
  refine zab rfl rfl rfl (zac (.inr rfl) (ev1 rfl)) ?_
  refine zae ?_
  refine dwp_ret ?_
  refine kend0 (rs1 rfl (rv_t rfl)) rfl ?_
  rfl
set_option maxRecDepth 4000 in
set_option maxHeartbeats 1000000 in
theorem dtold_w (n : Int) : DFun Tryz.prog 47 [.ifc 122 (.val (.agg #[.int .i64 n]))] [] (.val (.int .i64 n)) [] := by
  refine dcalls_go (N := 13) 0 (by kernel_rfl) Tryz.func47 rfl rfl rfl (by simp only [fr0, Nat.zero_add, Nat.reduceAdd]; exact rfl) rfl fun s0 hs0 => ?_
  refine zaf ?_
  refine zad ?_
  refine zab rfl rfl rfl (zac (.inr rfl) (ev1 rfl)) ?_
  refine zae ?_
  refine zaf ?_
  refine zaf ?_
  refine zai 1 (by simp only [holes, List.cons_append, List.nil_append]; exact rfl) ?_
  refine zad ?_
  refine zab rfl rfl rfl (zac (.inl rfl) (ev1 rfl)) ?_
  refine zab rfl rfl rfl (op_tay rfl ni122 (ev1 rfl)) ?_
  refine zab rfl rfl rfl (zac (.inl rfl) (ev1 rfl)) ?_
  refine zab rfl rfl rfl (op_ext rfl (ev1 rfl) rfl) ?_
  refine zab rfl rfl rfl (op_ext rfl (ev1 rfl) rfl) ?_
  refine zaj rfl rfl rfl (op_alloc 0 rfl zr122 rfl) (by simp only [upd, zaa, za]; exact rfl) ?_
  refine walk_s rfl rfl (op_stwa rfl tb122 (ev1 rfl) (ev1 rfl) rfl rfl rfl rfl) (by simp only [upd, zaa, za]; exact rfl) ?_
  refine zab rfl rfl rfl (zac (.inr rfl) (ev1 rfl)) ?_
  refine zae ?_
  refine zaf ?_
  refine zad ?_
  refine zab rfl rfl rfl (zac (.inl rfl) (ev1 rfl)) ?_
  refine zae ?_
  refine dwp_if_t rfl (rfl) ?_
  refine zaf ?_
  refine zad ?_
  refine zab rfl rfl rfl (op_fa rfl fo122_0 (ev1 rfl)) ?_
  refine zab rfl rfl rfl (op_ldo rfl tb34 (ev1 rfl) rfl rfl) ?_
  refine zab rfl rfl rfl (zac (.inr rfl) (ev1 rfl)) ?_
  refine zae ?_
  refine dwp_ret ?_
  refine kend0 (rs1 rfl (rv_t rfl)) rfl ?_
  rfl
set_option maxRecDepth 4000 in
set_option maxHeartbeats 1000000 in
theorem dpaint1_caught (e n : Int) : DDef Tryz.prog 46 [.loc 0 0] [.flat 34 [.int .i64 e]] (some (.ifc 122 (.val (.agg #[.int .i64 n])))) none [.flat 34 [.int .i64 n]] := by
  refine ddef_go1 (dr := .tup []) (t := 1) (N := 3) 1 (by kernel_rfl) Tryz.func46 rfl rfl rfl (by simp only [fr0, Nat.zero_add, Nat.reduceAdd]; exact rfl) rfl rfl rfl rfl rfl fun s0 hs0 => ?_
  refine zab rfl rfl rfl (zah [] [] [] rfl (ev1 rfl) (ec (ev1 rfl) en) rfl rfl (dtold_w n) rfl rfl rfl rfl rfl rfl) ?_
  refine walk_s rfl rfl (op_stwi rfl tb34 (ev1 rfl) (ev1 rfl) rfl) (by simp only [upd, zaa, za]; exact rfl) ?_
  refine zae ?_
  refine kend [0] (res_none rfl) rfl rfl ?_ ⟨rfl, trivial⟩
  rfl
set_option maxRecDepth 4000 in
set_option maxHeartbeats 1000000 in
theorem dstroke1_idle (e : Int) : DDef Tryz.prog 63 [.loc 0 0] [.flat 34 [.int .i64 e]] none none [.flat 34 [.int .i64 0]] := by
  refine ddef_go1 (dr := .tup []) (t := 1) (N := 3) 1 (by kernel_rfl) Tryz.func63 rfl rfl rfl (by simp only [fr0, Nat.zero_add, Nat.reduceAdd]; exact rfl) rfl rfl rfl rfl rfl fun s0 hs0 => ?_
  refine zab rfl rfl rfl (zah [] [] [] rfl (ev1 rfl) (ec (ev1 rfl) en) rfl rfl (dtold_no) rfl rfl rfl rfl rfl rfl) ?_
  refine walk_s rfl rfl (op_stwi rfl tb34 (ev1 rfl) (ev1 rfl) rfl) (by simp only [upd, zaa, za]; exact rfl) ?_
  refine zae ?_
  refine kend [0] (res_none rfl) rfl rfl ?_ ⟨rfl, trivial⟩
  rfl
set_option maxRecDepth 4000 in
set_option maxHeartbeats 1000000 in
theorem dstroke1_caught (e n : Int) : DDef Tryz.prog 63 [.loc 0 0] [.flat 34 [.int .i64 e]] (some (.ifc 122 (.val (.agg #[.int .i64 n])))) none [.flat 34 [.int .i64 n]] := by
  refine ddef_go1 (dr := .tup []) (t := 1) (N := 3) 1 (by kernel_rfl) Tryz.func63 rfl rfl rfl (by simp only [fr0, Nat.zero_add, Nat.reduceAdd]; exact rfl) rfl rfl rfl rfl rfl fun s0 hs0 => ?_
  refine zab rfl rfl rfl (zah [] [] [] rfl (ev1 rfl) (ec (ev1 rfl) en) rfl rfl (dtold_w n) rfl rfl rfl rfl rfl rfl) ?_
  refine walk_s rfl rfl (op_stwi rfl tb34 (ev1 rfl) (ev1 rfl) rfl) (by simp only [upd, zaa, za]; exact rfl) ?_
  refine zae ?_
  refine kend [0] (res_none rfl) rfl rfl ?_ ⟨rfl, trivial⟩
  rfl
set_option maxRecDepth 4000 in
set_option maxHeartbeats 1000000 in
theorem dline1_idle (e : Int) : DDef Tryz.prog 67 [.loc 0 0] [.flat 34 [.int .i64 e]] none none [.flat 34 [.int .i64 0]] := by
  refine ddef_go1 (dr := .tup []) (t := 1) (N := 3) 1 (by kernel_rfl) Tryz.func67 rfl rfl rfl (by simp only [fr0, Nat.zero_add, Nat.reduceAdd]; exact rfl) rfl rfl rfl rfl rfl fun s0 hs0 => ?_
  refine zab rfl rfl rfl (zah [] [] [] rfl (ev1 rfl) (ec (ev1 rfl) en) rfl rfl (dtold_no) rfl rfl rfl rfl rfl rfl) ?_
  refine walk_s rfl rfl (op_stwi rfl tb34 (ev1 rfl) (ev1 rfl) rfl) (by simp only [upd, zaa, za]; exact rfl) ?_
  refine zae ?_
  refine kend [0] (res_none rfl) rfl rfl ?_ ⟨rfl, trivial⟩
  rfl
set_option maxRecDepth 4000 in
set_option maxHeartbeats 1000000 in
theorem drect1_idle (e : Int) : DDef Tryz.prog 70 [.loc 0 0] [.flat 34 [.int .i64 e]] none none [.flat 34 [.int .i64 0]] := by
  refine ddef_go1 (dr := .tup []) (t := 1) (N := 3) 1 (by kernel_rfl) Tryz.func70 rfl rfl rfl (by simp only [fr0, Nat.zero_add, Nat.reduceAdd]; exact rfl) rfl rfl rfl rfl rfl fun s0 hs0 => ?_
  refine zab rfl rfl rfl (zah [] [] [] rfl (ev1 rfl) (ec (ev1 rfl) en) rfl rfl (dtold_no) rfl rfl rfl rfl rfl rfl) ?_
  refine walk_s rfl rfl (op_stwi rfl tb34 (ev1 rfl) (ev1 rfl) rfl) (by simp only [upd, zaa, za]; exact rfl) ?_
  refine zae ?_
  refine kend [0] (res_none rfl) rfl rfl ?_ ⟨rfl, trivial⟩
  rfl
set_option maxRecDepth 4000 in
set_option maxHeartbeats 1000000 in
theorem dframe1_idle (e : Int) : DDef Tryz.prog 72 [.loc 0 0] [.flat 34 [.int .i64 e]] none none [.flat 34 [.int .i64 0]] := by
  refine ddef_go1 (dr := .tup []) (t := 1) (N := 3) 1 (by kernel_rfl) Tryz.func72 rfl rfl rfl (by simp only [fr0, Nat.zero_add, Nat.reduceAdd]; exact rfl) rfl rfl rfl rfl rfl fun s0 hs0 => ?_
  refine zab rfl rfl rfl (zah [] [] [] rfl (ev1 rfl) (ec (ev1 rfl) en) rfl rfl (dtold_no) rfl rfl rfl rfl rfl rfl) ?_
  refine walk_s rfl rfl (op_stwi rfl tb34 (ev1 rfl) (ev1 rfl) rfl) (by simp only [upd, zaa, za]; exact rfl) ?_
  refine zae ?_
  refine kend [0] (res_none rfl) rfl rfl ?_ ⟨rfl, trivial⟩
  rfl
set_option maxRecDepth 4000 in
set_option maxHeartbeats 1000000 in
theorem mustS_d (l : List Sp) : DFun Tryz.prog 64 [.slf 3 l.length (l.flatMap s3), .val (.int .i64 0)] [] (.slf 3 l.length (l.flatMap s3)) [] := by
  refine dcalls_go (N := 11) 0 (by kernel_rfl) Tryz.func64 rfl rfl rfl (by simp only [fr0, Nat.zero_add, Nat.reduceAdd]; exact rfl) rfl fun s0 hs0 => ?_
  refine dwp_len (t := 0) rfl fun hl0 hL0 => ?_
  refine zaf ?_
  refine zad ?_
  refine zab rfl rfl rfl (zac (.inr rfl) (ev1 rfl)) ?_
  refine zae ?_
  refine zaf ?_
  refine zaf ?_
  refine zad ?_
  refine zab rfl rfl rfl (zac (.inl rfl) (ev1 rfl)) ?_
  refine zab rfl rfl rfl (op_neq rfl (ev1 rfl) (ev1 rfl)) ?_
  refine zae ?_
  refine dwp_if_f rfl (rfl) ?_
  refine zal ?_
  refine zaf ?_
  refine zad ?_
  refine zab rfl rfl rfl (zac (.inl rfl) (ev1 rfl)) ?_
  refine zab rfl rfl rfl (zac (.inr rfl) (ev1 rfl)) ?_
  refine zae ?_
  refine dwp_ret ?_
  refine kend0 (rs1 rfl (rv_t rfl)) rfl ?_
  rfl
set_option maxRecDepth 4000 in
set_option maxHeartbeats 1000000 in
theorem mustP_d (l : List P2) : DFun Tryz.prog 68 [.slf 2 l.length (l.flatMap p2), .val (.int .i64 0)] [] (.slf 2 l.length (l.flatMap p2)) [] := by
  refine dcalls_go (N := 11) 0 (by kernel_rfl) Tryz.func68 rfl rfl rfl (by simp only [fr0, Nat.zero_add, Nat.reduceAdd]; exact rfl) rfl fun s0 hs0 => ?_
  refine dwp_len (t := 0) rfl fun hl0 hL0 => ?_
  refine zaf ?_
  refine zad ?_
  refine zab rfl rfl rfl (zac (.inr rfl) (ev1 rfl)) ?_
  refine zae ?_
  refine zaf ?_
  refine zaf ?_
  refine zad ?_
  refine zab rfl rfl rfl (zac (.inl rfl) (ev1 rfl)) ?_
  refine zab rfl rfl rfl (op_neq rfl (ev1 rfl) (ev1 rfl)) ?_
  refine zae ?_
  refine dwp_if_f rfl (rfl) ?_
  refine zal ?_
  refine zaf ?_
  refine zad ?_
  refine zab rfl rfl rfl (zac (.inl rfl) (ev1 rfl)) ?_
  refine zab rfl rfl rfl (zac (.inr rfl) (ev1 rfl)) ?_
  refine zae ?_
  refine dwp_ret ?_
  refine kend0 (rs1 rfl (rv_t rfl)) rfl ?_
  rfl
set_option maxRecDepth 4000 in
set_option maxHeartbeats 1000000 in
theorem mustS_p (l : List Sp) (n : Int) (hn : n ≠ 0) : DPan Tryz.prog 64 [.slf 3 l.length (l.flatMap s3), .val (.int .i64 n)] [] (.ifc 122 (.val (.agg #[.int .i64 n]))) [] := by
  refine dcalls_go (N := 11) 0 (by kernel_rfl) Tryz.func64 rfl rfl rfl (by simp only [fr0, Nat.zero_add, Nat.reduceAdd]; exact rfl) rfl fun s0 hs0 => ?_
  refine dwp_len (t := 0) rfl fun hl0 hL0 => ?_
  refine zaf ?_
  refine zad ?_
  refine zab rfl rfl rfl (zac (.inr rfl) (ev1 rfl)) ?_
  refine zae ?_
  refine zaf ?_
  refine zaf ?_
  refine zad ?_
  refine zab rfl rfl rfl (zac (.inl rfl) (ev1 rfl)) ?_
  refine zab rfl rfl rfl (op_neq rfl (ev1 rfl) (ev1 rfl)) ?_
  refine zae ?_
  refine dwp_if_t rfl (by simpa using hn) ?_
  refine zad ?_
  refine zab rfl rfl rfl (zac (.inl rfl) (ev1 rfl)) ?_
  refine zab rfl rfl rfl (op_build (ps := [(0, .tmp 7)]) rfl fl122 zr122 (vc (ev1 rfl) vn) rfl rfl) ?_
  refine zab rfl rfl rfl (op_mi rfl ni122 (ev1 rfl)) ?_
  refine walk_p rfl (op_pan rfl (ev1 rfl)) rfl ?_
  refine kpan0 rfl ?_
  rfl
set_option maxRecDepth 4000 in
set_option maxHeartbeats 1000000 in
theorem easel_d (w h : Int) (ds : List D) : DFun Tryz.prog 48 [cvD w h ds] [] (.agg [cvD w h ds]) [] := by
  refine dcalls_go (N := 9) 0 (by kernel_rfl) Tryz.func48 rfl rfl rfl (by simp only [fr0, Nat.zero_add, Nat.reduceAdd]; exact rfl) rfl fun s0 hs0 => ?_
  refine zaf ?_
  refine zai 1 (by simp only [holes, List.cons_append, List.nil_append]; exact rfl) ?_
  refine zad ?_
  refine zaj rfl rfl rfl (op_alloc 0 rfl zr85 rfl) (by simp only [upd, zaa, za]; exact rfl) ?_
  refine zae ?_
  refine zaf ?_
  refine zaf ?_
  refine zad ?_
  refine zab rfl rfl rfl (zac (.inl rfl) (ev1 rfl)) ?_
  refine zab rfl rfl rfl (op_pnilm rfl pt33 (ev1 rfl)) ?_
  refine zae ?_
  refine dwp_if_f rfl (by simp) ?_
  refine zal ?_
  refine zaf ?_
  refine zad ?_
  refine zab rfl rfl rfl (zac (.inl rfl) (ev1 rfl)) ?_
  refine zab rfl rfl rfl (op_bldD (ps := [(0, .tmp 7)]) rfl fl85 zr85 (ec (ev1 rfl) en) rfl rfl rfl) ?_
  refine walk_s rfl rfl (op_stam2 rfl tb85 (ev1 rfl) (ev1 rfl) rfl rfl rfl rfl) (by simp only [upd, zaa, za]; exact rfl) ?_
  refine zae ?_
  refine dwp_ret ?_
  refine kend0 (rs1 rfl (rv_mw tb85 rfl rfl rfl)) rfl ?_
  rfl
set_option maxRecDepth 4000 in
set_option maxHeartbeats 1000000 in
theorem easel_p : DPan Tryz.prog 48 [.val (.pointer none)] [] (.ifc 122 (.val (.agg #[.int .i64 1]))) [] := by
  refine dcalls_go (N := 9) 0 (by kernel_rfl) Tryz.func48 rfl rfl rfl (by simp only [fr0, Nat.zero_add, Nat.reduceAdd]; exact rfl) rfl fun s0 hs0 => ?_
  refine zaf ?_
  refine zai 1 (by simp only [holes, List.cons_append, List.nil_append]; exact rfl) ?_
  refine zad ?_
  refine zaj rfl rfl rfl (op_alloc 0 rfl zr85 rfl) (by simp only [upd, zaa, za]; exact rfl) ?_
  refine zae ?_
  refine zaf ?_
  refine zaf ?_
  refine zad ?_
  refine zab rfl rfl rfl (zac (.inl rfl) (ev1 rfl)) ?_
  refine zab rfl rfl rfl (op_pnil0 rfl pt33 (ev1 rfl)) ?_
  refine zae ?_
  refine dwp_if_t rfl (rfl) ?_
  refine zad ?_
  refine zab rfl rfl rfl (op_build (ps := [(0, .const (.int .i64 1))]) rfl fl122 zr122 (vc (ev1 rfl) vn) rfl rfl) ?_
  refine zab rfl rfl rfl (op_mi rfl ni122 (ev1 rfl)) ?_
  refine walk_p rfl (op_pan rfl (ev1 rfl)) rfl ?_
  refine kpan0 rfl ?_
  rfl
set_option maxRecDepth 4000 in
set_option maxHeartbeats 1000000 in
theorem paints_d (cc : C4) : DFun Tryz.prog 50 [.val (.agg (c4 cc).toArray)] [] (.fn (.func 86) [] [.loc 0 0]) [.flat 27 (c4 cc)] := by
  refine dcalls_go (N := 4) 0 (by kernel_rfl) Tryz.func50 rfl rfl rfl (by simp only [fr0, Nat.zero_add, Nat.reduceAdd]; exact rfl) rfl fun s0 hs0 => ?_
  refine zaf ?_
  refine zai 1 (by simp only [holes, List.cons_append, List.nil_append]; exact rfl) ?_
  refine zad ?_
  refine zaj rfl rfl rfl (op_boxa 0 rfl (ev1 rfl) rfl) (by simp only [upd, zaa, za]; exact rfl) ?_
  refine zab rfl rfl rfl (zac (.inr rfl) (ev1 rfl)) ?_
  refine zae ?_
  refine zaf ?_
  refine zad ?_
  refine zab rfl rfl rfl (op_mkf rfl en (ec (ev1 rfl) en)) ?_
  refine zab rfl rfl rfl (zac (.inr rfl) (ev1 rfl)) ?_
  refine zae ?_
  refine dwp_ret ?_
  refine kend [0] (rs1 rfl (rv_t rfl)) rfl rfl ?_ ⟨rfl, trivial⟩
  rfl
set_option maxRecDepth 4000 in
set_option maxHeartbeats 1000000 in
theorem come_p (cc u : C4) : DFun Tryz.prog 86 [.val (.agg (c4 u).toArray), .loc 0 0] [.flat 27 (c4 cc)] (.val (.agg (c4 cc).toArray)) [.flat 27 (c4 cc)] := by
  refine dcalls_go (N := 5) 1 (by kernel_rfl) Tryz.func86 rfl rfl rfl (by simp only [fr0, Nat.zero_add, Nat.reduceAdd]; exact rfl) rfl fun s0 hs0 => ?_
  refine zaf ?_
  refine zai 2 (by simp only [holes, List.cons_append, List.nil_append]; exact rfl) ?_
  refine zad ?_
  refine zaj rfl rfl rfl (op_boxa 1 rfl (ev1 rfl) rfl) (by simp only [upd, zaa, za]; exact rfl) ?_
  refine zaj rfl rfl rfl (op_alloc 2 rfl zr27 rfl) (by simp only [upd, zaa, za]; exact rfl) ?_
  refine zae ?_
  refine zaf ?_
  refine zad ?_
  refine zab rfl rfl rfl (op_ldw rfl tb27 (ev1 rfl) rfl rfl) ?_
  refine walk_s rfl rfl (op_stwa rfl tb27 (ev1 rfl) (ev1 rfl) rfl rfl rfl rfl) (by simp only [upd, zaa, za]; exact rfl) ?_
  refine zae ?_
  refine dwp_ret ?_
  refine kend [0] (rs1 rfl (rv_w tb27 rfl rfl rfl)) rfl rfl ?_ ⟨rfl, trivial⟩
  rfl
end Go.Proofs.YtjgnalfnginjbaaGreatDoor
namespace Go.Proofs.YtjgnalfnginjbaaGreatDoor
set_option maxRecDepth 4000
set_option linter.unusedVariables false
set_option linter.unusedSimpArgs false
open Go.RowKit
theorem fl147 : fdL Tryz.prog 147 = some [(0, 1), (1, 1), (2, 1), (3, 1)] := by kernel_rfl
theorem fo85_0 : fdO Tryz.prog 85 0 = some 0 := by kernel_rfl
theorem mp124 : mpT Tryz.prog 124 = some (51, 27) := by kernel_rfl
theorem tb124 : tyB Tryz.prog 124 = some (false, 1) := by kernel_rfl
theorem tb148 : tyB Tryz.prog 148 = some (false, 1) := by kernel_rfl
theorem tb88 : tyB Tryz.prog 88 = some (false, 1) := by kernel_rfl
theorem zr147 : zrC Tryz.prog 147 = some [.int .i64 0, .int .i64 0, .int .i64 0, .int .i64 0] := by kernel_rfl
set_option maxRecDepth 4000 in
set_option maxHeartbeats 1000000 in
theorem pixels_d (w h : Int) (ds : List D) (ts : List TL) (hr : RowOk ds ts) (hc : CvOk w h ts) (l : List Sp) (hl : chkS l) (hn : l.length ≤ 1000000) : DFun Tryz.prog 84 [.agg [cvD w h ds], .slf 3 l.length (l.flatMap s3)] [] (.fn (.func 106) [] [.loc 0 0, .loc 1 0, .loc 2 0]) [.mix 25 [.slf 3 (clipS (⟨0, 0, w * 8 - 1, 255⟩ : Bx) l).length ((clipS (⟨0, 0, w * 8 - 1, 255⟩ : Bx) l).flatMap s3)], .flat 3 [.int .i64 (h * 8)], .mix 85 [cvD w h ds]] := by
  have hb := mayS_b hc.may
  refine dcalls_go (N := 23) 0 (by kernel_rfl) Tryz.func84 rfl rfl rfl (by simp only [fr0, Nat.zero_add, Nat.reduceAdd]; exact rfl) rfl fun s0 hs0 => ?_
  refine dwp_len (t := 1) rfl fun hl1 hL1 => ?_
  refine zaf ?_
  refine zai 1 (by simp only [holes, List.cons_append, List.nil_append]; exact rfl) ?_
  refine zad ?_
  refine zaj rfl rfl rfl (op_boxam 0 rfl (ev1 rfl) rfl) (by simp only [upd, zaa, za]; exact rfl) ?_
  refine zab rfl rfl rfl (zac (.inr rfl) (ev1 rfl)) ?_
  refine zae ?_
  refine zaf ?_
  refine zai 1 (by simp only [holes, List.cons_append, List.nil_append]; exact rfl) ?_
  refine zad ?_
  refine zab rfl rfl rfl (op_fa rfl fo85_0 (ev1 rfl)) ?_
  refine zab rfl rfl rfl (op_ldm rfl tb33 (ev1 rfl) rfl rfl) ?_
  refine zab rfl rfl rfl (zah [] [] [] rfl (ev1 rfl) (ec (ev1 rfl) en) rfl rfl (size_d w h ds ts hr hc) rfl rfl rfl rfl rfl rfl) ?_
  refine zab rfl rfl rfl (zac (.inl rfl) (ev1 rfl)) ?_
  refine zab rfl rfl rfl (op_ext rfl (ev1 rfl) rfl) ?_
  refine zab rfl rfl rfl (op_ext rfl (ev1 rfl) rfl) ?_
  refine zaj rfl rfl rfl (op_alloc 1 rfl zr3 rfl) (by simp only [upd, zaa, za]; exact rfl) ?_
  refine zab rfl rfl rfl (zac (.inr rfl) (ev1 rfl)) ?_
  refine walk_s rfl rfl (op_stwi rfl tb3 (ev1 rfl) (ev1 rfl) rfl) (by simp only [upd, zaa, za]; exact rfl) ?_
  refine zae ?_
  refine zaf ?_
  refine zai 1 (by simp only [holes, List.cons_append, List.nil_append]; exact rfl) ?_
  refine zad ?_
  refine zab rfl rfl rfl (zac (.inl rfl) (ev1 rfl)) ?_
  refine zab rfl rfl rfl (zac (.inl rfl) (ev1 rfl)) ?_
  refine zab rfl rfl rfl (op_sub' rfl (ev1 rfl) (ev1 rfl) (fun _ => IntWalk.i64_in _ (by omega))) ?_
  refine zab rfl rfl rfl (op_build (ps := [(2, .tmp 16), (3, .const (.int .i64 255))]) rfl fl147 zr147 (vc (ev1 rfl) (vc (ev1 rfl) vn)) rfl rfl) ?_
  refine zab rfl rfl rfl (zah [] [] [] rfl (ev1 rfl) (ec (ev1 rfl) (ec (ev1 rfl) en)) rfl rfl (clip_d l (⟨0, 0, w * 8 - 1, 255⟩ : Bx) hn) rfl rfl rfl rfl rfl rfl) ?_
  refine zab rfl rfl rfl ((op_ext rfl (ev1 rfl) rfl).cast (d' := .slf 3 (clipS (⟨0, 0, w * 8 - 1, 255⟩ : Bx) l).length ((clipS (⟨0, 0, w * 8 - 1, 255⟩ : Bx) l).flatMap s3)) (by rw [clipL_ok hl])) ?_
  refine zab rfl rfl rfl ((op_ext rfl (ev1 rfl) rfl).cast (d' := .val (.int .i64 0)) (by rw [chkE_ok hl])) ?_
  refine zab rfl rfl rfl (zah [] [] [] rfl (ev1 rfl) (ec (ev1 rfl) (ec (ev1 rfl) en)) rfl rfl (mustS_d (clipS (⟨0, 0, w * 8 - 1, 255⟩ : Bx) l)) rfl rfl rfl rfl rfl rfl) ?_
  refine zaj rfl rfl rfl (op_alloc 2 rfl zr25 rfl) (by simp only [upd, zaa, za]; exact rfl) ?_
  refine walk_s rfl rfl (op_stfm rfl tb25 (ev1 rfl) (ev1 rfl) (fun s v h => by cases h <;> exact ⟨rfl, rfl⟩) rfl (by decide)) (by simp only [upd, zaa, za]; exact rfl) ?_
  refine zae ?_
  refine zaf ?_
  refine zad ?_
  refine zab rfl rfl rfl (op_mkf rfl en (ec (ev1 rfl) (ec (ev1 rfl) (ec (ev1 rfl) en)))) ?_
  refine zab rfl rfl rfl (zac (.inr rfl) (ev1 rfl)) ?_
  refine zae ?_
  refine dwp_ret ?_
  refine kend [2, 1, 0] (rs1 rfl (rv_t rfl)) rfl rfl ?_ ⟨rfl, rfl, rfl, trivial⟩
  rfl
noncomputable def earA : Code := rfA (pth [1, 1, 0, 1, 0] (bodyOf Tryz.f83))
noncomputable def earB : Code := rfB (pth [1, 1, 0, 1, 0] (bodyOf Tryz.f83))
set_option maxRecDepth 4000 in
set_option maxHeartbeats 1000000 in
theorem eaRound_p (cc : C4) (m : List (P2 × C4)) (p : P2) (u : C4) (hn : p ∉ m.map (·.1)) : DRound Tryz.prog 0 [.val (.agg #[.int .i64 p.x, .int .i64 p.y]), .val (.agg (c4 u).toArray)] [.lp 18 [(3, .loc 1 0), (5, .loc 2 0)] #[10, 11] earA earB .ready none, .mix 88 [.fn (.func 86) [] [.loc 4 0]], .mix 124 [.hnd 3], .obj (mapQ p2 c4 (m)), .flat 27 (c4 cc)] true [.lp 18 [(3, .loc 1 0), (5, .loc 2 0)] #[10, 11] earA earB .ready none, .mix 88 [.fn (.func 86) [] [.loc 4 0]], .mix 124 [.hnd 3], .obj (mapQ p2 c4 (m ++ [(p, cc)])), .flat 27 (c4 cc)] := by
  refine dround_go 5 rfl rfl (by simp) rfl rfl fun s0 hs0 => ?_
  refine zaf ?_
  refine zai 1 (by simp only [holes, List.cons_append, List.nil_append]; exact rfl) ?_
  refine zad ?_
  refine zaj rfl rfl rfl (op_alloc 5 rfl zr51 rfl) (by simp only [upd, zaa, za]; exact rfl) ?_
  refine walk_s rfl rfl (op_stwa rfl tb51 (ev1 rfl) (ev1 rfl) rfl rfl rfl rfl) (by simp only [upd, zaa, za]; exact rfl) ?_
  refine zae ?_
  refine zai 1 (by simp only [holes, List.cons_append, List.nil_append]; exact rfl) ?_
  refine zad ?_
  refine zaj rfl rfl rfl (op_alloc 6 rfl zr27 rfl) (by simp only [upd, zaa, za]; exact rfl) ?_
  refine walk_s rfl rfl (op_stwa rfl tb27 (ev1 rfl) (ev1 rfl) rfl rfl rfl rfl) (by simp only [upd, zaa, za]; exact rfl) ?_
  refine zae ?_
  refine ⟨rfl, ?_⟩
  simp only [zaa, za]
  refine dwp_block ?_
  refine dwp_draw [([2], []), ([5], []), ([1], []), ([6], []), ([4], [4]), ([3], [3])] mixed (by kernel_rfl) ?_
  refine zag rfl rfl (op_ldm rfl tb124 (ev1 rfl) rfl rfl) ?_
  refine zag rfl rfl (op_ldw rfl tb51 (ev1 rfl) rfl rfl) ?_
  refine zag rfl rfl (op_ldm rfl tb88 (ev1 rfl) rfl rfl) ?_
  refine zag rfl rfl (op_ldw rfl tb27 (ev1 rfl) rfl rfl) ?_
  refine lex_w rfl rfl (zah [4] [] [] rfl (ev1 rfl) (ec (ev1 rfl) en) rfl rfl (come_p cc u) rfl rfl rfl rfl rfl rfl) rfl (by simp only [upd, zaa, za]; exact rfl) ?_
  refine lex_s rfl rfl (op_muq (k := p) (v := cc) mp124 keyP rfl (ev1 rfl) (ev1 rfl) (ev1 rfl) rfl (fun _ => hn)) rfl (by simp only [upd, zaa, za]; exact rfl) ?_
  refine lex_nil ?_
  refine ⟨by first | rfl | assumption | simp_all, rfl, [0, 1, 2, 3, 4], rfl, ⟨rfl, rfl, rfl, rfl, rfl, trivial⟩⟩
noncomputable def pxrA : Code := rfA (pth [1, 0, 1, 1, 0] (bodyOf Tryz.f106))
noncomputable def pxrB : Code := rfB (pth [1, 0, 1, 1, 0] (bodyOf Tryz.f106))
set_option maxRecDepth 4000 in
set_option maxHeartbeats 1000000 in
theorem pxRound_p_go (w h : Int) (ds : List D) (ts : List TL) (hr : RowOk ds ts) (hc : CvOk w h ts) (cc : C4) (p : P2) (m : List (P2 × C4)) (hy : p.y < h * 8) (ho : onS w h p.x p.y = true) (hn : p ∉ m.map (·.1)) : DRound Tryz.prog 0 [.val (.agg #[.int .i64 p.x, .int .i64 p.y])] [.lp 33 [(2, .loc 1 0), (3, .loc 2 0), (4, .loc 3 0)] #[10] pxrA pxrB .ready none, .flat 3 [.int .i64 (h * 8)], .mix 85 [cvD w h ds], .mix 148 [.yld 4], .lp 18 [(3, .loc 5 0), (5, .loc 6 0)] #[10, 11] earA earB .ready none, .mix 88 [.fn (.func 86) [] [.loc 8 0]], .mix 124 [.hnd 7], .obj (mapQ p2 c4 (m)), .flat 27 (c4 cc)] true [.lp 33 [(2, .loc 1 0), (3, .loc 2 0), (4, .loc 3 0)] #[10] pxrA pxrB .ready none, .flat 3 [.int .i64 (h * 8)], .mix 85 [cvD w h ds], .mix 148 [.yld 4], .lp 18 [(3, .loc 5 0), (5, .loc 6 0)] #[10, 11] earA earB .ready none, .mix 88 [.fn (.func 86) [] [.loc 8 0]], .mix 124 [.hnd 7], .obj (mapQ p2 c4 (m ++ [(p, cmC false (getC w ts p.x p.y) cc)])), .flat 27 (c4 cc)] := by
  refine dround_go 9 rfl rfl (by simp) rfl rfl fun s0 hs0 => ?_
  refine zai 1 (by simp only [holes, List.cons_append, List.nil_append]; exact rfl) ?_
  refine zad ?_
  refine zaj rfl rfl rfl (op_alloc 9 rfl zr51 rfl) (by simp only [upd, zaa, za]; exact rfl) ?_
  refine walk_s rfl rfl (op_stwa rfl tb51 (ev1 rfl) (ev1 rfl) rfl rfl rfl rfl) (by simp only [upd, zaa, za]; exact rfl) ?_
  refine zae ?_
  refine ⟨rfl, ?_⟩
  simp only [zaa, za]
  refine dwp_block ?_
  refine zaf ?_
  refine zaf ?_
  refine zad ?_
  refine zab rfl rfl rfl (op_fa rfl fo51_1 (ev1 rfl)) ?_
  refine zab rfl rfl rfl (op_ldo rfl tb3 (ev1 rfl) rfl rfl) ?_
  refine zab rfl rfl rfl (op_ldo rfl tb3 (ev1 rfl) rfl rfl) ?_
  refine zab rfl rfl rfl (op_geq rfl (ev1 rfl) (ev1 rfl)) ?_
  refine zae ?_
  refine dwp_if_f rfl (by simp at hy ⊢; omega) ?_
  refine zal ?_
  refine zaf ?_
  refine zai 1 (by simp only [holes, List.cons_append, List.nil_append]; exact rfl) ?_
  refine zad ?_
  refine zab rfl rfl rfl (op_fa rfl fo85_0 (ev1 rfl)) ?_
  refine zab rfl rfl rfl (op_ldm rfl tb33 (ev1 rfl) rfl rfl) ?_
  refine zab rfl rfl rfl (op_fa rfl fo51_0 (ev1 rfl)) ?_
  refine zab rfl rfl rfl (op_ldo rfl tb3 (ev1 rfl) rfl rfl) ?_
  refine zab rfl rfl rfl (op_fa rfl fo51_1 (ev1 rfl)) ?_
  refine zab rfl rfl rfl (op_ldo rfl tb3 (ev1 rfl) rfl rfl) ?_
  refine zab rfl rfl rfl (zah [] [] [] rfl (ev1 rfl) (ec (ev1 rfl) (ec (ev1 rfl) (ec (ev1 rfl) en))) rfl rfl (at_d w h ds ts hr hc p.x p.y) rfl rfl rfl rfl rfl rfl) ?_
  refine zab rfl rfl rfl (zac (.inl rfl) (ev1 rfl)) ?_
  refine zab rfl rfl rfl ((op_ext rfl (ev1 rfl) rfl).cast (d' := .val (.agg (c4 (getC w ts p.x p.y)).toArray)) (by rw [if_pos ho])) ?_
  refine zab rfl rfl rfl ((op_ext rfl (ev1 rfl) rfl).cast (d' := .val (.bool true)) (by rw [ho])) ?_
  refine zaj rfl rfl rfl (op_alloc 10 rfl zr27 rfl) (by simp only [upd, zaa, za]; exact rfl) ?_
  refine walk_s rfl rfl (op_stwa rfl tb27 (ev1 rfl) (ev1 rfl) rfl rfl rfl rfl) (by simp only [upd, zaa, za]; exact rfl) ?_
  refine zab rfl rfl rfl (zac (.inr rfl) (ev1 rfl)) ?_
  refine zae ?_
  refine zaf ?_
  refine zad ?_
  refine zab rfl rfl rfl (zac (.inl rfl) (ev1 rfl)) ?_
  refine zab rfl rfl rfl (zac (.inl rfl) (ev1 rfl)) ?_
  refine walk_k (gd_t (b := true) rfl rfl rfl) rfl rfl rfl (op_ldm rfl tb148 (ev1 rfl) rfl rfl) (by simp only [upd, zaa, za]; exact rfl) ?_
  refine walk_k (gd_t (b := true) rfl rfl rfl) rfl rfl rfl (op_ldw rfl tb51 (ev1 rfl) rfl rfl) (by simp only [upd, zaa, za]; exact rfl) ?_
  refine walk_k (gd_t (b := true) rfl rfl rfl) rfl rfl rfl (op_ldw rfl tb27 (ev1 rfl) rfl rfl) (by simp only [upd, zaa, za]; exact rfl) ?_
  refine walk_k (gd_t (b := true) rfl rfl rfl) rfl rfl rfl (op_y (i := 0) [4, 5, 6, 7, 8] [] [] rfl (ev2 rfl) (ec (ev2 rfl) (ec (ev2 rfl) en)) rfl rfl rfl (eaRound_p cc m p (getC w ts p.x p.y) hn) rfl rfl rfl rfl rfl) (by simp only [upd, zaa, za]; exact rfl) ?_
  refine walk_k (gd_t (b := true) rfl rfl rfl) rfl rfl rfl ((op_not rfl (ev2 rfl)).cast (d' := .val (.bool false)) (by kernel_rfl)) (by simp only [upd, zaa, za]; exact rfl) ?_
  refine zab rfl rfl rfl ((op_and rfl (ev1 rfl) (ev3 rfl (fun _ => rfl))).cast (d' := .val (.bool false)) (by rfl)) ?_
  refine zae ?_
  refine dwp_if_f rfl (rfl) ?_
  refine zal ?_
  refine ⟨by first | rfl | assumption | simp_all, rfl, [0, 1, 2, 3, 4, 5, 6, 7, 8], rfl, ⟨rfl, rfl, rfl, rfl, rfl, rfl, rfl, rfl, rfl, trivial⟩⟩
set_option maxRecDepth 4000 in
set_option maxHeartbeats 1000000 in
theorem pxRound_p_no (w h : Int) (ds : List D) (ts : List TL) (hr : RowOk ds ts) (hc : CvOk w h ts) (cc : C4) (p : P2) (m : List (P2 × C4)) (hy : ¬ p.y < h * 8) : DRound Tryz.prog 0 [.val (.agg #[.int .i64 p.x, .int .i64 p.y])] [.lp 33 [(2, .loc 1 0), (3, .loc 2 0), (4, .loc 3 0)] #[10] pxrA pxrB .ready none, .flat 3 [.int .i64 (h * 8)], .mix 85 [cvD w h ds], .mix 148 [.yld 4], .lp 18 [(3, .loc 5 0), (5, .loc 6 0)] #[10, 11] earA earB .ready none, .mix 88 [.fn (.func 86) [] [.loc 8 0]], .mix 124 [.hnd 7], .obj (mapQ p2 c4 (m)), .flat 27 (c4 cc)] false [.lp 33 [(2, .loc 1 0), (3, .loc 2 0), (4, .loc 3 0)] #[10] pxrA pxrB .done (some (.exit 0)), .flat 3 [.int .i64 (h * 8)], .mix 85 [cvD w h ds], .mix 148 [.yld 4], .lp 18 [(3, .loc 5 0), (5, .loc 6 0)] #[10, 11] earA earB .ready none, .mix 88 [.fn (.func 86) [] [.loc 8 0]], .mix 124 [.hnd 7], .obj (mapQ p2 c4 (m)), .flat 27 (c4 cc)] := by
  refine dround_go 9 rfl rfl (by simp) rfl rfl fun s0 hs0 => ?_
  refine zai 1 (by simp only [holes, List.cons_append, List.nil_append]; exact rfl) ?_
  refine zad ?_
  refine zaj rfl rfl rfl (op_alloc 9 rfl zr51 rfl) (by simp only [upd, zaa, za]; exact rfl) ?_
  refine walk_s rfl rfl (op_stwa rfl tb51 (ev1 rfl) (ev1 rfl) rfl rfl rfl rfl) (by simp only [upd, zaa, za]; exact rfl) ?_
  refine zae ?_
  refine ⟨rfl, ?_⟩
  simp only [zaa, za]
  refine dwp_block ?_
  refine zaf ?_
  refine zaf ?_
  refine zad ?_
  refine zab rfl rfl rfl (op_fa rfl fo51_1 (ev1 rfl)) ?_
  refine zab rfl rfl rfl (op_ldo rfl tb3 (ev1 rfl) rfl rfl) ?_
  refine zab rfl rfl rfl (op_ldo rfl tb3 (ev1 rfl) rfl rfl) ?_
  refine zab rfl rfl rfl (op_geq rfl (ev1 rfl) (ev1 rfl)) ?_
  refine zae ?_
  refine dwp_if_t rfl (by simp at hy ⊢; omega) ?_
  refine dwp_exit ?_
  refine ⟨by first | rfl | assumption | simp_all, rfl, [0, 1, 2, 3, 4, 5, 6, 7, 8], rfl, ⟨rfl, rfl, rfl, rfl, rfl, rfl, rfl, rfl, rfl, trivial⟩⟩
end Go.Proofs.YtjgnalfnginjbaaGreatDoor
