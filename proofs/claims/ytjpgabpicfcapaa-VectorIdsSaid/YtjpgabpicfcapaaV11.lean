/- walks: what one vector takes of another one -/
import Derived.Test.YtjpgabpicfcapaaV10
namespace Go.Proofs.Ytjpgabpicfcapaa
open Go.RowKit Go.Shelf
attribute [local go_sem] Oper.semAt_some

def mergeStep (c : Int → Int → Int) (o u : V) (x : S8) : V := u.set x.nat (c (u x.nat) (o x.nat))
def mergeL (c : Int → Int → Int) (o v : V) (l : List S8) : V := l.foldl (mergeStep c o) v
theorem merge_snoc (c : Int → Int → Int) (o v : V) (l : List S8) (x : S8) : mergeL c o v (l ++ [x]) = mergeStep c o (mergeL c o v l) x := by unfold mergeL; rw [List.foldl_append]; rfl
def comeTo (c : Int → Int → Int) (v o : V) : V := mergeL c o v all8
abbrev fnV (f : Nat) : Value := .func (.func f) #[] #[]
def merI (c : Int → Int → Int) (f : Nat) (o v : V) (b n : Nat) (pre : List S8) (W : World) : Prop := vecIn W b (mergeL c o v pre) ∧ holds W n [.pointer (some ⟨b, 0, none⟩)] ∧ vecIn W (n + 1) o ∧ holds W (n + 1 + 1) [fnV f]
theorem merI_own (c : Int → Int → Int) (f : Nat) (o v : V) (b n : Nat) : Own (merI c f o v b n) := fun s A B row ⟨h1, h2, h3, h4⟩ hg hr =>
  ⟨holds_own b (fun l : List S8 => vecL (mergeL c o v l)) s A B row h1 hg hr, holds_own n (fun _ : List S8 => [.pointer (some ⟨b, 0, none⟩)]) s A B row h2 hg hr, holds_own (n + 1) (fun _ : List S8 => vecL o) s A B row h3 hg hr, holds_own (n + 1 + 1) (fun _ : List S8 => [fnV f]) s A B row h4 hg hr⟩

theorem come_join (x y : Int) (w : World) : Calls Try.prog 43 #[.int .u64 x, .int .u64 y] w fun e w' => e = .returned (.int .u64 (max x y)) ∧ Below w.heap.size w w' := by
  go_enter Try.func43, Try.ntmps43
  have hc : max x y = if x < y then y else x := by rw [Int.max_def]; split <;> split <;> omega
  rw [hc]
  clear hc
  by_cases h : x < y
  · have hd : decide (x < y) = true := decide_eq_true h
    rw [if_pos h]
    go_wp2
    go_ret
    exact ⟨rfl, Below.refl _ _⟩
  · have hd : decide (x < y) = false := decide_eq_false h
    rw [if_neg h]
    go_wp2
    go_ret
    exact ⟨rfl, Below.refl _ _⟩

set_option maxRecDepth 4000 in
set_option maxHeartbeats 2000000 in
theorem merge_join (v o : V) (b : Nat) (w : World) (hv : vecIn w b v) : Calls Try.prog 54 #[.pointer (some ⟨b, 0, none⟩), vec o, fnV 43] w fun e w' => e = .returned (.tuple #[]) ∧ vecIn w' b (comeTo (fun x y : Int => max x y) v o) ∧ Below b w w' := by
  have lb := hv.lt
  refine (callsIn_wide (n := 4)).1 ?_
  refine callsIn_of_wp_marks Try.func54 rfl trivial ?_ rfl
  simp only [Try.ntmps54, List.size_toArray, List.length_cons, List.length_nil, Nat.reduceAdd, Nat.reduceSub, Array.replicate_succ, Array.replicate_zero, List.push_toArray, List.append_toArray, List.nil_append, List.cons_append]
  refine wpIn_wide.2 ?_
  go_wp2_with fail
  try (go_step3; go_wp2_with fail)
  refine (sites_any _).mono ?_
  rintro e w2 ⟨rfl, rfl⟩
  obtain ⟨w1, hw1⟩ : ∃ w1, (((w.alloc (.cells #[.pointer (some ⟨b, 0, none⟩)] 62)).alloc (.cells (vecA o) 24)).alloc (.cells #[fnV 43] 70)) = w1 := ⟨_, rfl⟩
  have hst : merI (fun x y : Int => max x y) 43 o v b w.heap.size [] w1 := by
    rw [← hw1]
    refine ⟨holds_alloc (holds_alloc (holds_alloc hv _) _) _, holds_alloc (holds_alloc (holds_new _ _ _) _) _, holds_alloc ?_ _, ?_⟩
    · have := vecIn_new (w.alloc (.cells #[.pointer (some ⟨b, 0, none⟩)] 62)) o
      rwa [World.size_alloc] at this
    · have := holds_new ((w.alloc (.cells #[.pointer (some ⟨b, 0, none⟩)] 62)).alloc (.cells (vecA o) 24)) #[fnV 43] 70
      rwa [World.size_alloc, World.size_alloc] at this
  have hB3 : Below b w w1 := by
    rw [← hw1]; exact (((Below.refl _ _).alloc (by omega) _).alloc (by simp; omega) _).alloc (by simp; omega) _
  have hs1 : w.heap.size + 3 = w1.heap.size := by rw [← hw1]; simp
  try rw [hw1]
  clear hw1
  go_wp2_with fail
  refine (wpIn_wide (n := 4)).1 ?_
  refine wpIn_rangeFunc_ownF (F := Fence.wide) (Kp := fun _ _ => True) rfl (by omega) (gf := 55) (lb := #[]) rfl trivial (enters_of Try.func55 (by kernel_rfl) rfl)
    (sites_stops Fence.wide 3 trivial rfl (by omega) w1) (fun _ _ => trivial) (fun _ _ _ _ _ _ _ _ => trivial) (Below.refl _ _) (fun _ => rfl)
    (fun pre W => merI (fun x y : Int => max x y) 43 o v b w.heap.size pre W ∧ Below b w W)
    (fun _ _ _ => False)
    (OwnFrom.and (Own.from (merI_own (fun x y : Int => max x y) 43 o v b w.heap.size) _) (ownFrom_below (by omega) (by omega)))
    (fun c => fun s A B row h _ _ => h)
    ⟨hst, hB3⟩
    (fun x => { tmps := #[.pointer (some ⟨b, 0, none⟩), vec o, fnV 43, .pointer (some ⟨w.heap.size, 0, none⟩), .pointer (some ⟨w.heap.size + 1, 0, none⟩), .pointer (some ⟨w.heap.size + 1 + 1, 0, none⟩), .int .i64 x.no, .func (.func 55) #[] #[], .int .i64 x.no, undef, undef, undef, undef, undef, undef, undef, undef, undef, undef, undef, undef, undef, undef, undef, undef], defers := [] }) ?assign ?body ?done ?stop
  case assign =>
    intro l x W K hK
    unfold encSite
    gi_wp2
    exact hK
  case body =>
    rintro l pre x W ⟨⟨h1, h2, h3, h4⟩, hB⟩ hlen
    obtain ⟨k1, k8⟩ := x.bd
    have hsn := merge_snoc (fun x y : Int => max x y) o v pre x
    have hone : mergeStep (fun x y : Int => max x y) o (mergeL (fun x y : Int => max x y) o v pre) x = (mergeL (fun x y : Int => max x y) o v pre).set x.nat (max (mergeL (fun x y : Int => max x y) o v pre x.nat) (o x.nat)) := rfl
    rw [hone] at hsn
    rw [S8.no_eq]
    generalize mergeL (fun x y : Int => max x y) o v pre = u at *
    generalize x.nat = k at *
    have l1 := h1.lt
    have l2 := h2.lt
    have l3 := h3.lt
    have l4 := h4.lt
    have kk : (k : Int) < 9 := by omega
    have kn : k < 9 := by omega
    have a1 := h1.at k kn
    have a2 : W.cell? ⟨w.heap.size, 0, none⟩ = some (.pointer (some ⟨b, 0, none⟩)) := h2.cell 0 (by simp)
    have a3 := h3.at k kn
    have a4 : W.cell? ⟨w.heap.size + 1 + 1, 0, none⟩ = some (fnV 43) := h4.cell 0 (by simp)
    have n1 := fun (n : Near W.heap.size W) => near_cell W.heap.size n b k l1
    have n2 := fun (n : Near W.heap.size W) => near_cell W.heap.size n w.heap.size 0 l2
    have n3 := fun (n : Near W.heap.size W) => near_cell W.heap.size n (w.heap.size + 1) k l3
    have n4 := fun (n : Near W.heap.size W) => near_cell W.heap.size n (w.heap.size + 1 + 1) 0 l4
    have H1 := Lib.hid h1
    have H2 := Lib.hid h2
    have H3 := Lib.hid h3
    have H4 := Lib.hid h4
    have HS := Lib.hid hsn
    clear h1 h2 h3 h4 hst hB3 hsn hone hv
    refine wpIn_block ?_
    apply wpIn_region_dep W.heap.size 16 (by kernel_rfl) (by kernel_rfl) (by rfl) (by rfl) (Nat.le_refl _) ?_
    simp only [List.take_succ_cons, List.take_zero, List.drop_succ_cons, List.drop_zero]
    iterate 12 (refine wpDep_plain (by rfl) (fun K hK => ?_); go_simp; (refine hK _ ?_; clear hK K))
    refine wpDep_plain (by rfl) (fun K hK => ?_); go_simp
    refine ⟨_, fun n => callsTo_of (come_join _ _ _), ?_⟩
    refine hK _ ?_; clear hK K
    iterate 3 (refine wpDep_plain (by rfl) (fun K hK => ?_); go_simp; (refine hK _ ?_; clear hK K))
    refine wpDep_nil ?_
    intro f m _
    simp only [fillV]
    have g1 : vecIn m.u b u := holds_below H1.out m.h l1
    have g2 := holds_below H2.out m.h l2
    have g3 := holds_below H3.out m.h l3
    have g4 := holds_below H4.out m.h l4
    have q1 : m.u.cell? ⟨b, k, none⟩ = some (.int .u64 (u k)) := g1.at k kn
    have q2 : m.u.frozen? ⟨b, k, none⟩ = false := g1.free k kn
    have lm := g1.lt
    have hBm := hB.trans (m.h.mono (by have := hB.size; omega))
    clear n1 n2 n3 n4
    gi_wp2
    refine ⟨(keepsOthers_below m.h).trans (KeepsOthers.setCell _ _ _), trivial, ⟨?_, holds_other g2 (by omega) _, holds_other g3 (by omega) _, holds_other g4 (by omega) _⟩, hBm.setCell (by dsimp only; omega) _⟩
    rw [HS.out]
    exact vecIn_set g1 k kn _
  case done =>
    rintro D ys W hD rfl ⟨⟨h1, h2, h3, h4⟩, hB⟩ hK
    have hlD : D < W.heap.size := (Array.getElem?_eq_some_iff.1 hK).1
    have hv' := Own.from (merI_own (fun x y : Int => max x y) 43 o v b w.heap.size) 0 all8 W _ _ ⟨h1, h2, h3, h4⟩ (grownBy_putObj' W D (Obj.deferred none)) (fun r hr => by cases hr; exact ⟨Nat.zero_le _, _, hK, rfl⟩)
    go_wp2
    refine ⟨by simp, .inl ⟨_, _, rfl, run_takeDeferred hK, ?_⟩⟩
    exact ⟨_, results_none rfl _ _ _, rfl, hv'.1, hB.trans (belowK_b (w := w) (by omega) W D _ _ (by omega) hK rfl rfl)⟩
  case stop =>
    rintro D c pre W hD ⟨k, hk, rfl⟩ h hK
    exact h.elim

theorem come_meet (x y : Int) (w : World) : Calls Try.prog 44 #[.int .u64 x, .int .u64 y] w fun e w' => e = .returned (.int .u64 (min x y)) ∧ Below w.heap.size w w' := by
  go_enter Try.func44, Try.ntmps44
  have hc : min x y = if y < x then y else x := by rw [Int.min_def]; split <;> split <;> omega
  rw [hc]
  clear hc
  by_cases h : y < x
  · have hd : decide (y < x) = true := decide_eq_true h
    rw [if_pos h]
    go_wp2
    go_ret
    exact ⟨rfl, Below.refl _ _⟩
  · have hd : decide (y < x) = false := decide_eq_false h
    rw [if_neg h]
    go_wp2
    go_ret
    exact ⟨rfl, Below.refl _ _⟩

set_option maxRecDepth 4000 in
set_option maxHeartbeats 2000000 in
theorem merge_meet (v o : V) (b : Nat) (w : World) (hv : vecIn w b v) : Calls Try.prog 54 #[.pointer (some ⟨b, 0, none⟩), vec o, fnV 44] w fun e w' => e = .returned (.tuple #[]) ∧ vecIn w' b (comeTo (fun x y : Int => min x y) v o) ∧ Below b w w' := by
  have lb := hv.lt
  refine (callsIn_wide (n := 4)).1 ?_
  refine callsIn_of_wp_marks Try.func54 rfl trivial ?_ rfl
  simp only [Try.ntmps54, List.size_toArray, List.length_cons, List.length_nil, Nat.reduceAdd, Nat.reduceSub, Array.replicate_succ, Array.replicate_zero, List.push_toArray, List.append_toArray, List.nil_append, List.cons_append]
  refine wpIn_wide.2 ?_
  go_wp2_with fail
  try (go_step3; go_wp2_with fail)
  refine (sites_any _).mono ?_
  rintro e w2 ⟨rfl, rfl⟩
  obtain ⟨w1, hw1⟩ : ∃ w1, (((w.alloc (.cells #[.pointer (some ⟨b, 0, none⟩)] 62)).alloc (.cells (vecA o) 24)).alloc (.cells #[fnV 44] 70)) = w1 := ⟨_, rfl⟩
  have hst : merI (fun x y : Int => min x y) 44 o v b w.heap.size [] w1 := by
    rw [← hw1]
    refine ⟨holds_alloc (holds_alloc (holds_alloc hv _) _) _, holds_alloc (holds_alloc (holds_new _ _ _) _) _, holds_alloc ?_ _, ?_⟩
    · have := vecIn_new (w.alloc (.cells #[.pointer (some ⟨b, 0, none⟩)] 62)) o
      rwa [World.size_alloc] at this
    · have := holds_new ((w.alloc (.cells #[.pointer (some ⟨b, 0, none⟩)] 62)).alloc (.cells (vecA o) 24)) #[fnV 44] 70
      rwa [World.size_alloc, World.size_alloc] at this
  have hB3 : Below b w w1 := by
    rw [← hw1]; exact (((Below.refl _ _).alloc (by omega) _).alloc (by simp; omega) _).alloc (by simp; omega) _
  have hs1 : w.heap.size + 3 = w1.heap.size := by rw [← hw1]; simp
  try rw [hw1]
  clear hw1
  go_wp2_with fail
  refine (wpIn_wide (n := 4)).1 ?_
  refine wpIn_rangeFunc_ownF (F := Fence.wide) (Kp := fun _ _ => True) rfl (by omega) (gf := 55) (lb := #[]) rfl trivial (enters_of Try.func55 (by kernel_rfl) rfl)
    (sites_stops Fence.wide 3 trivial rfl (by omega) w1) (fun _ _ => trivial) (fun _ _ _ _ _ _ _ _ => trivial) (Below.refl _ _) (fun _ => rfl)
    (fun pre W => merI (fun x y : Int => min x y) 44 o v b w.heap.size pre W ∧ Below b w W)
    (fun _ _ _ => False)
    (OwnFrom.and (Own.from (merI_own (fun x y : Int => min x y) 44 o v b w.heap.size) _) (ownFrom_below (by omega) (by omega)))
    (fun c => fun s A B row h _ _ => h)
    ⟨hst, hB3⟩
    (fun x => { tmps := #[.pointer (some ⟨b, 0, none⟩), vec o, fnV 44, .pointer (some ⟨w.heap.size, 0, none⟩), .pointer (some ⟨w.heap.size + 1, 0, none⟩), .pointer (some ⟨w.heap.size + 1 + 1, 0, none⟩), .int .i64 x.no, .func (.func 55) #[] #[], .int .i64 x.no, undef, undef, undef, undef, undef, undef, undef, undef, undef, undef, undef, undef, undef, undef, undef, undef], defers := [] }) ?assign ?body ?done ?stop
  case assign =>
    intro l x W K hK
    unfold encSite
    gi_wp2
    exact hK
  case body =>
    rintro l pre x W ⟨⟨h1, h2, h3, h4⟩, hB⟩ hlen
    obtain ⟨k1, k8⟩ := x.bd
    have hsn := merge_snoc (fun x y : Int => min x y) o v pre x
    have hone : mergeStep (fun x y : Int => min x y) o (mergeL (fun x y : Int => min x y) o v pre) x = (mergeL (fun x y : Int => min x y) o v pre).set x.nat (min (mergeL (fun x y : Int => min x y) o v pre x.nat) (o x.nat)) := rfl
    rw [hone] at hsn
    rw [S8.no_eq]
    generalize mergeL (fun x y : Int => min x y) o v pre = u at *
    generalize x.nat = k at *
    have l1 := h1.lt
    have l2 := h2.lt
    have l3 := h3.lt
    have l4 := h4.lt
    have kk : (k : Int) < 9 := by omega
    have kn : k < 9 := by omega
    have a1 := h1.at k kn
    have a2 : W.cell? ⟨w.heap.size, 0, none⟩ = some (.pointer (some ⟨b, 0, none⟩)) := h2.cell 0 (by simp)
    have a3 := h3.at k kn
    have a4 : W.cell? ⟨w.heap.size + 1 + 1, 0, none⟩ = some (fnV 44) := h4.cell 0 (by simp)
    have n1 := fun (n : Near W.heap.size W) => near_cell W.heap.size n b k l1
    have n2 := fun (n : Near W.heap.size W) => near_cell W.heap.size n w.heap.size 0 l2
    have n3 := fun (n : Near W.heap.size W) => near_cell W.heap.size n (w.heap.size + 1) k l3
    have n4 := fun (n : Near W.heap.size W) => near_cell W.heap.size n (w.heap.size + 1 + 1) 0 l4
    have H1 := Lib.hid h1
    have H2 := Lib.hid h2
    have H3 := Lib.hid h3
    have H4 := Lib.hid h4
    have HS := Lib.hid hsn
    clear h1 h2 h3 h4 hst hB3 hsn hone hv
    refine wpIn_block ?_
    apply wpIn_region_dep W.heap.size 16 (by kernel_rfl) (by kernel_rfl) (by rfl) (by rfl) (Nat.le_refl _) ?_
    simp only [List.take_succ_cons, List.take_zero, List.drop_succ_cons, List.drop_zero]
    iterate 12 (refine wpDep_plain (by rfl) (fun K hK => ?_); go_simp; (refine hK _ ?_; clear hK K))
    refine wpDep_plain (by rfl) (fun K hK => ?_); go_simp
    refine ⟨_, fun n => callsTo_of (come_meet _ _ _), ?_⟩
    refine hK _ ?_; clear hK K
    iterate 3 (refine wpDep_plain (by rfl) (fun K hK => ?_); go_simp; (refine hK _ ?_; clear hK K))
    refine wpDep_nil ?_
    intro f m _
    simp only [fillV]
    have g1 : vecIn m.u b u := holds_below H1.out m.h l1
    have g2 := holds_below H2.out m.h l2
    have g3 := holds_below H3.out m.h l3
    have g4 := holds_below H4.out m.h l4
    have q1 : m.u.cell? ⟨b, k, none⟩ = some (.int .u64 (u k)) := g1.at k kn
    have q2 : m.u.frozen? ⟨b, k, none⟩ = false := g1.free k kn
    have lm := g1.lt
    have hBm := hB.trans (m.h.mono (by have := hB.size; omega))
    clear n1 n2 n3 n4
    gi_wp2
    refine ⟨(keepsOthers_below m.h).trans (KeepsOthers.setCell _ _ _), trivial, ⟨?_, holds_other g2 (by omega) _, holds_other g3 (by omega) _, holds_other g4 (by omega) _⟩, hBm.setCell (by dsimp only; omega) _⟩
    rw [HS.out]
    exact vecIn_set g1 k kn _
  case done =>
    rintro D ys W hD rfl ⟨⟨h1, h2, h3, h4⟩, hB⟩ hK
    have hlD : D < W.heap.size := (Array.getElem?_eq_some_iff.1 hK).1
    have hv' := Own.from (merI_own (fun x y : Int => min x y) 44 o v b w.heap.size) 0 all8 W _ _ ⟨h1, h2, h3, h4⟩ (grownBy_putObj' W D (Obj.deferred none)) (fun r hr => by cases hr; exact ⟨Nat.zero_le _, _, hK, rfl⟩)
    go_wp2
    refine ⟨by simp, .inl ⟨_, _, rfl, run_takeDeferred hK, ?_⟩⟩
    exact ⟨_, results_none rfl _ _ _, rfl, hv'.1, hB.trans (belowK_b (w := w) (by omega) W D _ _ (by omega) hK rfl rfl)⟩
  case stop =>
    rintro D c pre W hD ⟨k, hk, rfl⟩ h hK
    exact h.elim
end Go.Proofs.Ytjpgabpicfcapaa
