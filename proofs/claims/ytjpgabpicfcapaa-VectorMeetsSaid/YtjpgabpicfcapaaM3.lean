/- The document's answers of layer 13: Lacks, Many. -/
import Derived.Test.YtjpgabpicfcapaaM1
import Derived.Test.YtjpgabpicfcapaaOwn
import Derived.Test.YtjpgabpicfcapaaDep3
namespace Go.Proofs.Ytjpgabpicfcapaa
open Go.RowKit

theorem all8_step (k : Nat) (h1 : 1 ≤ k) (h8 : k ≤ 8) : ∃ x : S8, x.nat = k ∧ all8.take (k + 1 - 1) = all8.take (k - 1) ++ [x] := by
  match k, h1, h8 with
  | 1, _, _ => exact ⟨.s1, rfl, rfl⟩
  | 2, _, _ => exact ⟨.s2, rfl, rfl⟩
  | 3, _, _ => exact ⟨.s3, rfl, rfl⟩
  | 4, _, _ => exact ⟨.s4, rfl, rfl⟩
  | 5, _, _ => exact ⟨.s5, rfl, rfl⟩
  | 6, _, _ => exact ⟨.s6, rfl, rfl⟩
  | 7, _, _ => exact ⟨.s7, rfl, rfl⟩
  | 8, _, _ => exact ⟨.s8, rfl, rfl⟩

set_option maxRecDepth 4000 in
set_option maxHeartbeats 2000000 in
theorem refLacks_noa (a b : V) (ra : a.rng) (ma : a.may = false) (w : World) : Calls Try.prog 24 #[vec a, vec b] w fun e w' => e = .returned (.slice none 0 0) ∧ Below w.heap.size w w' := by
  have hra := fun W => refRight_any a ra W
  simp only [ma] at hra
  have HRA := Lib.hid hra
  clear hra ra ma
  have ha0 : vecIn ((w.alloc (.cells (vecA a) 24)).alloc (.cells (vecA b) 24)) w.heap.size a := holds_alloc (vecIn_new w a) _
  have hb0 : vecIn ((w.alloc (.cells (vecA a) 24)).alloc (.cells (vecA b) 24)) (w.heap.size + 1) b := by
    have := vecIn_new (w.alloc (.cells (vecA a) 24)) b
    rwa [World.size_alloc] at this
  have hB0 : Below w.heap.size w ((w.alloc (.cells (vecA a) 24)).alloc (.cells (vecA b) 24)) := ((Below.refl _ _).alloc (Nat.le_refl _) _).alloc (by simp) _
  have HA0 := Lib.hid ha0
  have HB0 := Lib.hid hb0
  have HW0 := Lib.hid hB0
  clear ha0 hb0 hB0
  go_enter Try.func24, Try.ntmps24
  go_wp2_with fail
  go_loopw [5, 6] (fun ov i wr => ∃ k : Nat, 1 ≤ k ∧ k ≤ 9 ∧ i = .int .i64 k ∧ ov = .slice none 0 0 ∧ vecIn wr w.heap.size a ∧ vecIn wr (w.heap.size + 1) b ∧ Below w.heap.size w wr)
    (fun _ i _ => 9 - (intOf i).toNat)
  case atStart => exact ⟨1, by omega, by omega, rfl, rfl, HA0.out, HB0.out, HW0.out⟩
  case round =>
    obtain ⟨k, k1, k9, rfl, rfl, h2, h3, hB⟩ := hrel
    clear HA0 HB0 HW0
    have H2 := Lib.hid h2
    have H3 := Lib.hid h3
    have HB := Lib.hid hB
    by_cases hk : k ≤ 8
    · obtain ⟨a0, a1, a2, a3, a4, a5, a6, a7, a8⟩ := vecIn.cells h2
      obtain ⟨b0, b1, b2, b3, b4, b5, b6, b7, b8⟩ := vecIn.cells h3
      have l2 := h2.lt
      have l3 := h3.lt
      clear h2 h3 hB
      have hn2 := fun (n : Near wr.heap.size wr) (j : Nat) => near_cell wr.heap.size n w.heap.size j l2
      have hn3 := fun (n : Near wr.heap.size wr) (j : Nat) => near_cell wr.heap.size n (w.heap.size + 1) j l3
      have hra := HRA.out
      go_wp2_with fail
      refine wp_region_dep wr.heap.size 15 (by kernel_rfl) (by kernel_rfl) (by rfl) (Nat.le_refl _) ?_
      simp only [List.take_succ_cons, List.take_zero, List.drop_succ_cons, List.drop_zero]
      iterate 1 (refine wpDep_plain (by rfl) (fun K hK => ?_); go_simp; (refine hK _ ?_; clear hK K))
      refine wpDep_plain (by rfl) (fun K hK => ?_); go_simp; refine ⟨_, fun n => callsTo_of (hra _), ?_⟩; (refine hK _ ?_; clear hK K)
      iterate 13 (refine wpDep_plain (by rfl) (fun K hK => ?_); go_simp; (refine hK _ ?_; clear hK K))
      refine wpDep_nil ?_
      intro f m _
      simp only [fillV]
      have e2 := Lib.hid (holds_below H2.out m.h l2)
      have e3 := Lib.hid (holds_below H3.out m.h l3)
      have eB := Lib.hid (HB.out.trans (m.h.mono HB.out.size))
      clear hn2 hn3 hra 
      clear a0 a1 a2 a3 a4 a5 a6 a7 a8 b0 b1 b2 b3 b4 b5 b6 b7 b8
      go_wp2_with fail
      refine ⟨⟨k + 1, by omega, by omega, by go_num, rfl, e2.out, e3.out, eB.out⟩, ?_⟩
      simp [intOf]; omega
    · clear h2 h3 hB
      go_wp2
      go_ret
      exact ⟨rfl, HB.out⟩

set_option maxRecDepth 4000 in
set_option maxHeartbeats 2000000 in
theorem refLacks_nob (a b : V) (ra : a.rng) (rb : b.rng) (ma : a.may = true) (mb : b.may = false) (w : World) : Calls Try.prog 24 #[vec a, vec b] w fun e w' => e = .returned (.slice none 0 0) ∧ Below w.heap.size w w' := by
  have hra := fun W => refRight_any a ra W
  simp only [ma] at hra
  have hrb := fun W => refRight_any b rb W
  simp only [mb] at hrb
  have HRB := Lib.hid hrb
  clear hrb rb mb
  have HRA := Lib.hid hra
  clear hra ra ma
  have ha0 : vecIn ((w.alloc (.cells (vecA a) 24)).alloc (.cells (vecA b) 24)) w.heap.size a := holds_alloc (vecIn_new w a) _
  have hb0 : vecIn ((w.alloc (.cells (vecA a) 24)).alloc (.cells (vecA b) 24)) (w.heap.size + 1) b := by
    have := vecIn_new (w.alloc (.cells (vecA a) 24)) b
    rwa [World.size_alloc] at this
  have hB0 : Below w.heap.size w ((w.alloc (.cells (vecA a) 24)).alloc (.cells (vecA b) 24)) := ((Below.refl _ _).alloc (Nat.le_refl _) _).alloc (by simp) _
  have HA0 := Lib.hid ha0
  have HB0 := Lib.hid hb0
  have HW0 := Lib.hid hB0
  clear ha0 hb0 hB0
  go_enter Try.func24, Try.ntmps24
  go_wp2_with fail
  go_loopw [5, 6] (fun ov i wr => ∃ k : Nat, 1 ≤ k ∧ k ≤ 9 ∧ i = .int .i64 k ∧ ov = .slice none 0 0 ∧ vecIn wr w.heap.size a ∧ vecIn wr (w.heap.size + 1) b ∧ Below w.heap.size w wr)
    (fun _ i _ => 9 - (intOf i).toNat)
  case atStart => exact ⟨1, by omega, by omega, rfl, rfl, HA0.out, HB0.out, HW0.out⟩
  case round =>
    obtain ⟨k, k1, k9, rfl, rfl, h2, h3, hB⟩ := hrel
    clear HA0 HB0 HW0
    have H2 := Lib.hid h2
    have H3 := Lib.hid h3
    have HB := Lib.hid hB
    by_cases hk : k ≤ 8
    · obtain ⟨a0, a1, a2, a3, a4, a5, a6, a7, a8⟩ := vecIn.cells h2
      obtain ⟨b0, b1, b2, b3, b4, b5, b6, b7, b8⟩ := vecIn.cells h3
      have l2 := h2.lt
      have l3 := h3.lt
      clear h2 h3 hB
      have hn2 := fun (n : Near wr.heap.size wr) (j : Nat) => near_cell wr.heap.size n w.heap.size j l2
      have hn3 := fun (n : Near wr.heap.size wr) (j : Nat) => near_cell wr.heap.size n (w.heap.size + 1) j l3
      have hra := HRA.out
      have hrb := HRB.out
      go_wp2_with fail
      refine wp_region_dep wr.heap.size 15 (by kernel_rfl) (by kernel_rfl) (by rfl) (Nat.le_refl _) ?_
      simp only [List.take_succ_cons, List.take_zero, List.drop_succ_cons, List.drop_zero]
      iterate 1 (refine wpDep_plain (by rfl) (fun K hK => ?_); go_simp; (refine hK _ ?_; clear hK K))
      refine wpDep_plain (by rfl) (fun K hK => ?_); go_simp; refine ⟨_, fun n => callsTo_of (hra _), ?_⟩; (refine hK _ ?_; clear hK K)
      iterate 2 (refine wpDep_plain (by rfl) (fun K hK => ?_); go_simp; (refine hK _ ?_; clear hK K))
      refine wpDep_plain (by rfl) (fun K hK => ?_); go_simp; refine ⟨_, fun n => callsTo_of (hrb _), ?_⟩; (refine hK _ ?_; clear hK K)
      iterate 10 (refine wpDep_plain (by rfl) (fun K hK => ?_); go_simp; (refine hK _ ?_; clear hK K))
      refine wpDep_nil ?_
      intro f m _
      simp only [fillV]
      have e2 := Lib.hid (holds_below H2.out m.h l2)
      have e3 := Lib.hid (holds_below H3.out m.h l3)
      have eB := Lib.hid (HB.out.trans (m.h.mono HB.out.size))
      clear hn2 hn3 hra hrb
      clear a0 a1 a2 a3 a4 a5 a6 a7 a8 b0 b1 b2 b3 b4 b5 b6 b7 b8
      go_wp2_with fail
      refine ⟨⟨k + 1, by omega, by omega, by go_num, rfl, e2.out, e3.out, eB.out⟩, ?_⟩
      simp [intOf]; omega
    · clear h2 h3 hB
      go_wp2
      go_ret
      exact ⟨rfl, HB.out⟩

set_option maxRecDepth 4000 in
set_option maxHeartbeats 4000000 in
theorem refLacks_yes (a b : V) (ra : a.rng) (rb : b.rng) (ma : a.may = true) (mb : b.may = true) (w : World) : Calls Try.prog 24 #[vec a, vec b] w fun e w' => ∃ a0 cap, e = .returned (.slice a0 (lackL a b all8).length cap) ∧ rowV w' a0 (lackL a b all8).length 3 enT (lackL a b all8) ∧ Below w.heap.size w w' := by
  have hra := fun W => refRight_any a ra W
  simp only [ma] at hra
  have hrb := fun W => refRight_any b rb W
  simp only [mb] at hrb
  have HRA := Lib.hid hra
  have HRB := Lib.hid hrb
  have RA := Lib.hid ra
  have MB := Lib.hid (may_le mb)
  clear hra hrb ra rb ma mb
  have ha0 : vecIn ((w.alloc (.cells (vecA a) 24)).alloc (.cells (vecA b) 24)) w.heap.size a := holds_alloc (vecIn_new w a) _
  have hb0 : vecIn ((w.alloc (.cells (vecA a) 24)).alloc (.cells (vecA b) 24)) (w.heap.size + 1) b := by
    have := vecIn_new (w.alloc (.cells (vecA a) 24)) b
    rwa [World.size_alloc] at this
  have hB0 : Below w.heap.size w ((w.alloc (.cells (vecA a) 24)).alloc (.cells (vecA b) 24)) := ((Below.refl _ _).alloc (Nat.le_refl _) _).alloc (by simp) _
  have HA0 := Lib.hid ha0
  have HB0 := Lib.hid hb0
  have HW0 := Lib.hid hB0
  clear ha0 hb0 hB0
  go_enter Try.func24, Try.ntmps24
  go_wp2_with fail
  go_loopw [5, 6] (fun ov i wr => ∃ k : Nat, 1 ≤ k ∧ k ≤ 9 ∧ i = .int .i64 k ∧ wr.ownsRow (w.heap.size + 1 + 1) 51 3 ov (lackL a b (all8.take (k - 1))).length ((lackL a b (all8.take (k - 1))).flatMap enT) ∧ vecIn wr w.heap.size a ∧ vecIn wr (w.heap.size + 1) b ∧ Below w.heap.size w wr)
    (fun _ i _ => 9 - (intOf i).toNat)
  case atStart => exact ⟨1, by omega, by omega, rfl, owns_nil _ _ _ _, HA0.out, HB0.out, HW0.out⟩
  case round =>
    obtain ⟨k, k1, k9, rfl, h5, h2, h3, hB⟩ := hrel
    clear HA0 HB0 HW0
    have H2 := Lib.hid h2
    have H3 := Lib.hid h3
    have HB := Lib.hid hB
    have H5 := Lib.hid h5
    by_cases hk : k ≤ 8
    · obtain ⟨x, hx, hst⟩ := all8_step k k1 hk
      have hlk := lack_len a b (all8.take (k - 1))
      have hln : (all8.take (k - 1)).length ≤ 8 := by rw [List.length_take]; exact Nat.le_trans (Nat.min_le_right _ _) (by decide)
      have hsn := lack_snoc a b (all8.take (k - 1)) x
      rw [← hst] at hsn
      have hone : lackOne a b x = if a k < b k then [⟨k, a k + 1, b k⟩] else [] := by rw [← hx]; rfl
      have HS := Lib.hid hsn
      have HO := Lib.hid hone
      clear hst hsn hone hx
      obtain ⟨a0, a1, a2, a3, a4, a5, a6, a7, a8⟩ := vecIn.cells h2
      obtain ⟨b0, b1, b2, b3, b4, b5, b6, b7, b8⟩ := vecIn.cells h3
      have l2 := h2.lt
      have l3 := h3.lt
      have ck := h2.at k (by omega)
      have dk := h3.at k (by omega)
      have hak := (RA.out k (by omega)).1
      have hbk := MB.out k (by omega)
      have kk : (k : Int) < 9 := by omega
      have kn : k < 9 := by omega
      clear h2 h3 hB h5
      generalize all8.take (k - 1) = pre at *
      have hn2 := fun (n : Near wr.heap.size wr) (j : Nat) => near_cell wr.heap.size n w.heap.size j l2
      have hn3 := fun (n : Near wr.heap.size wr) (j : Nat) => near_cell wr.heap.size n (w.heap.size + 1) j l3
      have hra := HRA.out
      have hrb := HRB.out
      by_cases hlt : a k < b k
      · have hone : lackOne a b x = [⟨k, a k + 1, b k⟩] := by rw [HO.out, if_pos hlt]
        have HO1 := Lib.hid hone
        clear hone
        have hd : decide (a k < b k) = true := decide_eq_true hlt
        go_wp2_with fail
        refine wp_region_dep wr.heap.size 15 (by kernel_rfl) (by kernel_rfl) (by rfl) (Nat.le_refl _) ?_
        simp only [List.take_succ_cons, List.take_zero, List.drop_succ_cons, List.drop_zero]
        iterate 1 (refine wpDep_plain (by rfl) (fun K hK => ?_); go_simp; (refine hK _ ?_; clear hK K))
        refine wpDep_plain (by rfl) (fun K hK => ?_); go_simp; refine ⟨_, fun n => callsTo_of (hra _), ?_⟩; (refine hK _ ?_; clear hK K)
        iterate 2 (refine wpDep_plain (by rfl) (fun K hK => ?_); go_simp; (refine hK _ ?_; clear hK K))
        refine wpDep_plain (by rfl) (fun K hK => ?_); go_simp; refine ⟨_, fun n => callsTo_of (hrb _), ?_⟩; (refine hK _ ?_; clear hK K)
        iterate 10 (refine wpDep_plain (by rfl) (fun K hK => ?_); go_simp; (refine hK _ ?_; clear hK K))
        refine wpDep_nil ?_
        intro f m _
        simp only [fillV]
        have e2 := Lib.hid (show vecIn m.u w.heap.size a from holds_below H2.out m.h l2)
        have e3 := Lib.hid (show vecIn m.u (w.heap.size + 1) b from holds_below H3.out m.h l3)
        have e5 := Lib.hid (owns_below H5.out m.h)
        have eB := Lib.hid (HB.out.trans (m.h.mono HB.out.size))
        clear hn2 hn3 hra hrb ck dk H2 H3 H5 HB l2 l3
        clear a0 a1 a2 a3 a4 a5 a6 a7 a8 b0 b1 b2 b3 b4 b5 b6 b7 b8
        obtain ⟨V, hV⟩ : ∃ V, m.u = V := ⟨_, rfl⟩
        rw [hV] at e2 e3 e5 eB
        rw [hV]
        clear hV
        have ck := e2.out.at k kn
        have dk := e3.out.at k kn
        have hrg := owns_lt e5.out
        have v2 := e2.out.lt
        have v3 := e3.out.lt
        have nb2 : ¬ u5.ownBlock = some w.heap.size := fun e => by have := (hrg _ e).1; omega
        have nb3 : ¬ u5.ownBlock = some (w.heap.size + 1) := fun e => by have := (hrg _ e).1; omega
        have hn2 := fun (n : Wild.NearM (fun g => u5.ownBlock = some g) V.heap.size V) => n.h.cell v2 nb2 k
        have hn3 := fun (n : Wild.NearM (fun g => u5.ownBlock = some g) V.heap.size V) => n.h.cell v3 nb3 k
        have hw : IntKind.u64.wrap (a k + 1) = a k + 1 := IntWalk.u64_in _ (by omega)
        obtain ⟨i0, hi0, hz0, hz1, hz2⟩ := info_parts info_stretch
        go_wp2_with fail
        refine Wild.wp_region_dep (fun g => u5.ownBlock = some g) (fun w' => w'.ownsRow (w.heap.size + 1 + 1) 51 3 u5 (lackL a b pre).length ((lackL a b pre).flatMap enT)) V.heap.size 12 (by kernel_rfl) (by kernel_rfl) (by rfl) (Nat.le_refl _) (fun _ _ hb h => owns_below h hb) e5.out ?_
        simp only [List.take_succ_cons, List.take_zero, List.drop_succ_cons, List.drop_zero]
        iterate 10 (refine Wild.wpDep_plain (by rfl) (fun K hK => ?_); go_simp; (refine hK _ ?_; clear hK K))
        refine Wild.wpDep_make (fun v w' => ∃ g, v = .slice (some ⟨g, 0, none⟩) 1 1 ∧ V.heap.size ≤ g ∧ blockIs w' g #[.int .i64 k, .int .u64 (a k + 1), .int .u64 (b k)] 51) false (by rfl) (by rfl) ?_ (by rfl) ?_ ?_
        · rintro v A B hk ⟨g, e, hg, hc⟩
          exact ⟨g, e, hg, blockIs_keep hc hk (fun e => by have := (hrg _ e).2.1; omega)⟩
        · intro n
          go_simp
          exact ⟨(Below.refl _ _).alloc (Nat.le_refl _) _, n.h.size, heap_alloc_new _ _⟩
        refine Wild.wpDep_wild (fun v w' => w'.ownsRow (w.heap.size + 1 + 1) 51 3 v ((lackL a b pre).length + 1) ((lackL a b pre).flatMap enT ++ [.int .i64 k, .int .u64 (a k + 1), .int .u64 (b k)])) (by rfl) (by rfl) ?_ (by rfl) ?_ ?_
        · rintro v A B hk h
          exact owns_below h hk
        · intro f n hJ hf
          obtain ⟨g, e, hg, hc⟩ := hf _ (List.mem_cons_self ..) (show (36 : Tmp) ∈ Oper.looksAt _ _ by decide)
          simp only [Wild.fillV]
          dsimp only at e
          rw [e]
          refine Wild.givesW_append _ _ _ (by rfl) (w.heap.size + 1 + 1) 51 i0 _ 3 24 Try.underlying46 hi0 hz0 hz1 hz2 rfl (by decide) u5 (lackL a b pre).length _ (by rfl) hJ ⟨g, 0, none⟩ 1 1 [.int .i64 k, .int .u64 (a k + 1), .int .u64 (b k)] (by rfl) (by rfl) (World.news_of_block (cs := #[.int .i64 k, .int .u64 (a k + 1), .int .u64 (b k)]) hc) (by simp [Value.oneCell']) (by unfold maxLen; omega) (by omega) (by have := n.h.size; omega) ?_
          intro v' w' q1 q2 q3
          exact ⟨Wild.Keep.of_grown q2 (fun q hq => hq), q1⟩
        refine Wild.wpDep_nil ?_
        intro f m4 hf _
        have own4 := hf _ (List.mem_cons_self ..)
        dsimp only at own4
        simp only [Wild.fillV]
        obtain ⟨nv, hnv⟩ : ∃ nv, f 37 = nv := ⟨_, rfl⟩
        rw [hnv] at own4 ⊢
        have r2 := Lib.hid (holds_keep e2.out m4.h v2 nb2)
        have r3 := Lib.hid (holds_keep e3.out m4.h v3 nb3)
        have rB := Lib.hid (show Below w.heap.size w m4.u from eB.out.trans (m4.h.below eB.out.size fun q hq => by have := (hrg q hq).1; omega))
        have r5 := Lib.hid own4
        clear own4 hnv hn2 hn3 ck dk hrg e2 e3 e5 eB
        go_wp2_with fail
        refine ⟨⟨k + 1, by omega, by omega, by go_num, ?_, r2.out, r3.out, rB.out⟩, ?_⟩
        · rw [HS.out, HO1.out, List.length_append, List.flatMap_append]
          exact r5.out
        · simp [intOf]; omega
      · have hone : lackOne a b x = [] := by rw [HO.out, if_neg hlt]
        have HO1 := Lib.hid hone
        clear hone
        have hd : decide (a k < b k) = false := decide_eq_false hlt
        go_wp2_with fail
        refine wp_region_dep wr.heap.size 15 (by kernel_rfl) (by kernel_rfl) (by rfl) (Nat.le_refl _) ?_
        simp only [List.take_succ_cons, List.take_zero, List.drop_succ_cons, List.drop_zero]
        iterate 1 (refine wpDep_plain (by rfl) (fun K hK => ?_); go_simp; (refine hK _ ?_; clear hK K))
        refine wpDep_plain (by rfl) (fun K hK => ?_); go_simp; refine ⟨_, fun n => callsTo_of (hra _), ?_⟩; (refine hK _ ?_; clear hK K)
        iterate 2 (refine wpDep_plain (by rfl) (fun K hK => ?_); go_simp; (refine hK _ ?_; clear hK K))
        refine wpDep_plain (by rfl) (fun K hK => ?_); go_simp; refine ⟨_, fun n => callsTo_of (hrb _), ?_⟩; (refine hK _ ?_; clear hK K)
        iterate 10 (refine wpDep_plain (by rfl) (fun K hK => ?_); go_simp; (refine hK _ ?_; clear hK K))
        refine wpDep_nil ?_
        intro f m _
        simp only [fillV]
        have e2 := Lib.hid (show vecIn m.u w.heap.size a from holds_below H2.out m.h l2)
        have e3 := Lib.hid (show vecIn m.u (w.heap.size + 1) b from holds_below H3.out m.h l3)
        have e5 := Lib.hid (owns_below H5.out m.h)
        have eB := Lib.hid (HB.out.trans (m.h.mono HB.out.size))
        clear hn2 hn3 hra hrb ck dk H2 H3 H5 HB l2 l3
        clear a0 a1 a2 a3 a4 a5 a6 a7 a8 b0 b1 b2 b3 b4 b5 b6 b7 b8
        go_wp2_with fail
        refine ⟨⟨k + 1, by omega, by omega, by go_num, ?_, e2.out, e3.out, eB.out⟩, ?_⟩
        · rw [HS.out, HO1.out, List.append_nil]; exact e5.out
        · simp [intOf]; omega
    · obtain rfl : k = 9 := by omega
      clear h2 h3 hB h5
      obtain ⟨a0, cap, hov, hrw, _, _, _⟩ := rowV_of_own (en := enT) (fun _ => rfl) H5.out
      have HRW := Lib.hid hrw
      have HOV := Lib.hid hov
      clear hrw hov
      go_wp2
      refine ⟨rfl, _, results_tmp rfl _ _ _, a0, cap, ?_, HRW.out, HB.out⟩
      exact congrArg Ending.returned HOV.out
theorem refLacks_any (a b : V) (ra : a.rng) (rb : b.rng) (w : World) : Calls Try.prog 24 #[vec a, vec b] w fun e w' => ∃ a0 cap, e = .returned (.slice a0 (lacksL a b).length cap) ∧ rowV w' a0 (lacksL a b).length 3 enT (lacksL a b) ∧ Below w.heap.size w w' := by
  cases ma : a.may with
  | false =>
    have e : lacksL a b = [] := by unfold lacksL; rw [if_neg (by rw [ma]; simp)]
    rw [e]
    exact (refLacks_noa a b ra ma w).mono fun e w' ⟨he, hb⟩ => ⟨none, 0, he, ⟨rfl, .inl rfl⟩, hb⟩
  | true =>
    cases mb : b.may with
    | false =>
      have e : lacksL a b = [] := by unfold lacksL; rw [if_neg (by rw [mb]; simp)]
      rw [e]
      exact (refLacks_nob a b ra rb ma mb w).mono fun e w' ⟨he, hb⟩ => ⟨none, 0, he, ⟨rfl, .inl rfl⟩, hb⟩
    | true =>
      have e : lacksL a b = lackL a b all8 := by unfold lacksL; rw [if_pos (by rw [ma, mb]; rfl)]
      rw [e]
      exact refLacks_yes a b ra rb ma mb w

theorem many_le : ∀ (l : List S3) (m : Int), m ≤ 4611686018427387904 → manyS m l ≤ 4611686018427387904
  | [], m, h => h
  | _ :: l, _, _ => many_le l _ (Int.min_le_right _ _)
theorem many_ge' : ∀ (l : List S3) (m : Int), (∀ x ∈ l, okS x) → m ≤ 4611686018427387904 → m ≤ manyS m l
  | [], m, _, _ => Int.le_refl m
  | x :: l, m, h, hm => by
    have h0 := h x (List.mem_cons_self ..)
    have := many_ge' l (min (m + x.t - x.f + 1) 4611686018427387904) (fun y hy => h y (List.mem_cons_of_mem _ hy)) (by omega)
    unfold okS at h0
    show m ≤ manyS (min (m + x.t - x.f + 1) 4611686018427387904) l
    omega
set_option maxRecDepth 4000 in
theorem refMany_any (l : List S3) (hok : ∀ x ∈ l, okS x) (hln : l.length ≤ 8) (a0 : Option Addr) (cap : Nat) (w : World) (hr : rowV w a0 l.length 3 enT l) : Calls Try.prog 30 #[.slice a0 l.length cap] w fun e w' => e = .returned (.int .u64 (manyS 0 l)) ∧ Below w.heap.size w w' := by
  have HR := Lib.hid hr
  have HK := Lib.hid hok
  clear hr hok
  go_enter Try.func30, Try.ntmps30
  go_wp2_with fail
  go_loopw [3, 9] (fun p i wr => ∃ k : Nat, k ≤ l.length ∧ i = .int .i64 k ∧ ∃ m : Int, 0 ≤ m ∧ m ≤ 4611686018427387904 ∧ p = .int .u64 (4611686018427387904 - m) ∧ manyS 0 l = manyS m (l.drop k) ∧ Below w.heap.size w wr)
      (fun _ i _ => l.length - (intOf i).toNat)
  case atStart => exact ⟨0, Nat.zero_le _, rfl, 0, by omega, by omega, rfl, by simp, Below.refl _ _⟩
  case round =>
    obtain ⟨k, hk, rfl, m, hm0, hm1, rfl, hS, hBg⟩ := hrel
    have HS := Lib.hid hS
    clear hS
    by_cases hlt : k < l.length
    · obtain ⟨b, off, rfl, hc⟩ := (rowV_below HR.out hBg).2.resolve_left (by intro e; subst e; simp at hlt)
      have d0 := hc.2 k hlt 0 (by omega)
      have d1 := hc.2 k hlt 1 (by omega)
      have d2 := hc.2 k hlt 2 (by omega)
      simp only [enT, List.getElem?_cons_zero, List.getElem?_cons_succ, Nat.add_zero] at d0 d1 d2
      have HD := Lib.hid (List.drop_eq_getElem_cons hlt)
      have HK2 := Lib.hid (fun y (hy : y ∈ l.drop (k + 1)) => HK.out y (List.mem_of_mem_drop hy))
      obtain ⟨q1, q2, q3⟩ := HK.out l[k] (List.getElem_mem hlt)
      have hsz := hBg.size
      have HBG := Lib.hid hBg
      clear hc hBg
      generalize l[k] = x at *
      have k1 : IntKind.u64.wrap (x.t - x.f) = x.t - x.f := IntWalk.u64_in _ (by omega)
      have k2 : IntKind.u64.wrap (x.t - x.f + 1) = x.t - x.f + 1 := IntWalk.u64_in _ (by omega)
      by_cases hbig : 4611686018427387904 - m ≤ x.t - x.f + 1
      · have HF := Lib.hid (show manyS 0 l = 4611686018427387904 by
          rw [HS.out, HD.out]
          show manyS (min (m + x.t - x.f + 1) 4611686018427387904) (l.drop (k + 1)) = _
          rw [show min (m + x.t - x.f + 1) 4611686018427387904 = 4611686018427387904 by omega]
          have h1 := many_ge' (l.drop (k + 1)) 4611686018427387904 HK2.out (Int.le_refl _)
          have h2 := many_le (l.drop (k + 1)) 4611686018427387904 (Int.le_refl _)
          omega)
        go_wp2_with fail
        go_ret
        exact ⟨by rw [HF.out]; rfl, HBG.out.alloc hsz _⟩
      · have k3 : IntKind.u64.wrap (4611686018427387904 - m - (x.t - x.f + 1)) = 4611686018427387904 - m - (x.t - x.f + 1) := IntWalk.u64_in _ (by omega)
        go_wp2_with fail
        refine ⟨⟨k + 1, hlt, by go_num, m + x.t - x.f + 1, by omega, by omega, by congr 1; omega, ?_, HBG.out.alloc hsz _⟩, ?_⟩
        · rw [HS.out, HD.out]
          show manyS (min (m + x.t - x.f + 1) 4611686018427387904) (l.drop (k + 1)) = _
          rw [show min (m + x.t - x.f + 1) 4611686018427387904 = m + x.t - x.f + 1 by omega]
        · simp [intOf]; omega
    · obtain rfl : k = l.length := by omega
      have HF := Lib.hid (show manyS 0 l = m by rw [HS.out, List.drop_length]; rfl)
      have k3 : IntKind.u64.wrap (4611686018427387904 - (4611686018427387904 - m)) = m := by rw [show (4611686018427387904 - (4611686018427387904 - m) : Int) = m by omega]; exact IntWalk.u64_in _ (by omega)
      go_wp2
      rw [HF.out]
      exact ⟨rfl, _, results_tmp rfl _ _ _, rfl, hBg⟩
end Go.Proofs.Ytjpgabpicfcapaa
