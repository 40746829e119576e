/- walks: what one vector lacks of another one -/
import Derived.Test.YtjpgabpicfcapaaV8
import Derived.Test.YtjpgabpicfcapaaOwn
import Derived.Test.YtjpgabpicfcapaaDep3In
import Derived.IntWalk
namespace Go.Proofs.Ytjpgabpicfcapaa
open Go.RowKit Go.Shelf
attribute [local go_sem] Oper.semAt_some

/-- a stretch's numbers -/
structure S3 where
  s : Int
  f : Int
  t : Int
abbrev enT (x : S3) : List Value := [.int .i64 x.s, .int .u64 x.f, .int .u64 x.t]
def lackOne (a b : V) (x : S8) : List S3 := if a x.nat < b x.nat then [⟨x.nat, a x.nat + 1, b x.nat⟩] else []
def lackL (a b : V) (l : List S8) : List S3 := l.flatMap (lackOne a b)
theorem lack_snoc (a b : V) (l : List S8) (x : S8) : lackL a b (l ++ [x]) = lackL a b l ++ lackOne a b x := by
  unfold lackL; rw [List.flatMap_append]; simp
theorem lack_len (a b : V) : ∀ l : List S8, (lackL a b l).length ≤ l.length
  | [] => Nat.le_refl _
  | x :: l => by
    have h := lack_len a b l
    have e : lackL a b (x :: l) = lackOne a b x ++ lackL a b l := by unfold lackL; rw [List.flatMap_cons]
    have h1 : (lackOne a b x).length ≤ 1 := by unfold lackOne; split <;> simp
    rw [e, List.length_append, List.length_cons]
    omega
theorem holds_keep {M : Nat → Prop} {B : Nat} {w w' : World} {b : Nat} {l : List Value} (h : holds w b l) (hk : Wild.Keep M B w w') (hlt : b < B) (hM : ¬ M b) : holds w' b l :=
  ⟨Nat.lt_of_lt_of_le h.1 hk.size, fun j hj => ⟨(hk.cell hlt hM j).trans (h.2 j hj).1, (hk.frozen hlt hM j).trans (h.2 j hj).2⟩⟩
def lacksL (a b : V) : List S3 := if a.may && b.may then lackL a b all8 else []

def lacI (a b : V) (w : World) (ob : Nat) (pre : List S8) (W : World) : Prop := vecIn W w.heap.size a ∧ vecIn W (w.heap.size + 1) b ∧ ∃ ov, holds W ob [ov] ∧ W.ownsRow (ob + 1) 51 3 ov (lackL a b pre).length ((lackL a b pre).flatMap enT)
theorem lacI_own (a b : V) (w : World) (ob : Nat) : Own (lacI a b w ob) := fun s A B row ⟨h2, h3, ov, h4, h5⟩ hg hr =>
  ⟨holds_own w.heap.size (fun _ : List S8 => vecL a) s A B row h2 hg hr, holds_own (w.heap.size + 1) (fun _ : List S8 => vecL b) s A B row h3 hg hr, ov, holds_own ob (fun _ : List S8 => [ov]) s A B row h4 hg hr, owns_own h5 hg hr⟩

theorem info_stretch : (Try.prog.info? 51).map (fun i => (i.zero, i.size, i.bytes)) = some (some (.agg #[.int .i64 0, .int .u64 0, .int .u64 0]), 3, 24) := by kernel_rfl

set_option maxRecDepth 4000 in
set_option maxHeartbeats 4000000 in
theorem lacks_yes (a b : V) (ha : a.rng) (hma : a.may = true) (hmb : b.may = true) (w : World) : Calls Try.prog 28 #[vec a, vec b] w fun e w' => ∃ a0 cap, e = .returned (.slice a0 (lackL a b all8).length cap) ∧ rowV w' a0 (lackL a b all8).length 3 enT (lackL a b all8) ∧ (lackL a b all8).length ≤ cap ∧ cap ≤ maxLen ∧ (a0 = none → cap = 0) ∧ Below w.heap.size w w' := by
  have hmf : ∀ (fn : Fn) (first cap : Array Value) (w : World), (Instr.makeFunc fn first cap).run Try.prog w = .ok (.func fn first cap) w := fun _ _ _ _ => rfl
  have hrow : rowVec (((w.alloc (.cells (vecA a) 24)).alloc (.cells (vecA b) 24)).alloc (.cells (twoA a b) 24)) (some ⟨w.heap.size + 1 + 1, 0, none⟩) [a, b] := row_two a b _ _ (by simp)
  have HR := Lib.hid hrow
  have HM := Lib.hid (show (a.may && b.may) = true by rw [hma, hmb]; rfl)
  have hle := may_le hmb
  have HMB := Lib.hid hle
  clear hrow hle hma hmb
  refine (callsIn_wide (n := 4)).1 ?_
  refine callsIn_of_wp_marks Try.func28 rfl trivial ?_ rfl
  simp only [Try.ntmps28, List.size_toArray, List.length_cons, List.length_nil, Nat.reduceAdd, Nat.reduceSub, Array.replicate_succ, Array.replicate_zero, List.push_toArray, List.append_toArray, List.nil_append, List.cons_append]
  refine wpIn_wide.2 ?_
  go_wp2_with fail
  try (go_step3; go_wp2_with fail)
  refine (are_two a b (w.heap.size + 1 + 1) _ HR.out).mono ?_
  rintro e w1 ⟨rfl, hB⟩
  rw [HM.out]
  have b0 := hB.size
  simp only [World.size_alloc] at b0
  have hb1 : Below w.heap.size w w1 := ((((Below.refl _ _).alloc (Nat.le_refl _) _).alloc (by simp) _).alloc (by simp; omega) _).trans (hB.mono (by simp; omega))
  have hva : vecIn w1 w.heap.size a := holds_below (holds_alloc (holds_alloc (vecIn_new w a) _) _) hB (by simp; omega)
  have hvb0 : vecIn ((w.alloc (.cells (vecA a) 24)).alloc (.cells (vecA b) 24)) (w.heap.size + 1) b := by
    have := vecIn_new (w.alloc (.cells (vecA a) 24)) b
    rwa [World.size_alloc] at this
  have hvb : vecIn w1 (w.heap.size + 1) b := holds_below (holds_alloc hvb0 _) hB (by simp)
  clear hvb0
  go_wp2_with fail
  try (go_step3; go_wp2_with fail)
  refine (sites_any _).mono ?_
  rintro e w2 ⟨rfl, rfl⟩
  go_wp2_with fail
  have lw : w.heap.size + 1 < w1.heap.size := by omega
  have hst : lacI a b w w1.heap.size [] (w1.alloc (.cells #[.slice none 0 0] 46)) := ⟨holds_alloc hva _, holds_alloc hvb _, _, holds_new w1 #[.slice none 0 0] 46, owns_nil _ _ _ _⟩
  have hB3 : Below w.heap.size w (w1.alloc (.cells #[.slice none 0 0] 46)) := hb1.alloc (by omega) _
  clear hva hvb hB
  refine (wpIn_wide (n := 4)).1 ?_
  refine wpIn_rangeFunc_ownF (F := Fence.wide) (Kp := fun _ _ => True) rfl (by omega) (gf := 55) (lb := #[]) rfl trivial (enters_of Try.func55 (by kernel_rfl) rfl)
    (sites_stops Fence.wide 3 trivial rfl (by omega) (w1.alloc (.cells #[.slice none 0 0] 46))) (fun _ _ => trivial) (fun _ _ _ _ _ _ _ _ => trivial) (Below.refl _ _) (fun _ => rfl)
    (fun pre W => lacI a b w w1.heap.size pre W ∧ Below w.heap.size w W)
    (fun _ _ _ => False)
    (OwnFrom.and (Own.from (lacI_own a b w w1.heap.size) _) (ownFrom_below (Nat.le_refl _) (by simp; omega)))
    (fun c => fun s A B row h _ _ => h)
    ⟨hst, hB3⟩
    (fun x => { tmps := #[vec a, vec b, .pointer (some ⟨w.heap.size, 0, none⟩), .pointer (some ⟨w.heap.size + 1, 0, none⟩), .slice none 0 0, .pointer (some ⟨w1.heap.size, 0, none⟩), .int .i64 x.no, .agg (vecA a), .agg (vecA b), .slice (some ⟨w.heap.size + 1 + 1, 0, none⟩) 2 2, .bool true, .bool false, .func (.func 55) #[] #[], .int .i64 x.no, undef, undef, undef, undef, undef, undef, undef, undef, undef, undef, undef, undef, undef, undef, undef, undef, undef, undef, undef, undef], defers := [] }) ?assign ?body ?done ?stop
  case assign =>
    intro l x W K hK
    unfold encSite
    gi_wp2
    exact hK
  case body =>
    rintro l pre x W ⟨⟨h2, h3, ov, h4, h5⟩, hB⟩ hlen
    obtain ⟨k1, k8⟩ := x.bd
    have hlk := lack_len a b pre
    have hsn := lack_snoc a b pre x
    rw [S8.no_eq]
    have hone : lackOne a b x = if a x.nat < b x.nat then [⟨x.nat, a x.nat + 1, b x.nat⟩] else [] := rfl
    generalize x.nat = k at *
    have l2 := h2.lt
    have l3 := h3.lt
    have l4 := h4.lt
    have ck := h2.at k (by omega)
    have dk := h3.at k (by omega)
    have kk : (k : Int) < 9 := by omega
    have kn : k < 9 := by omega
    have hak := (ha k kn).1
    have hbk := HMB.out k kn
    have H2 := Lib.hid h2
    have H3 := Lib.hid h3
    have H4 := Lib.hid h4
    have HS := Lib.hid hsn
    have HO := Lib.hid hone
    have hwx : w.heap.size + 1 < w1.heap.size := lw
    clear h2 h3 hst hB3 hmf hsn hone
    by_cases hlt : a k < b k
    · have hd : decide (a k < b k) = true := decide_eq_true hlt
      have hone : lackOne a b x = [⟨k, a k + 1, b k⟩] := by rw [HO.out, if_pos hlt]
      have HO1 := Lib.hid hone
      clear hone
      have hn2 := fun (n : Near W.heap.size W) => near_cell W.heap.size n w.heap.size k l2
      have hn3 := fun (n : Near W.heap.size W) => near_cell W.heap.size n (w.heap.size + 1) k l3
      refine wpIn_block ?_
      apply wpIn_seq_k; intro K0 hK0
      refine wpIn_region_dep W.heap.size 7 (by kernel_rfl) (by kernel_rfl) (by rfl) (by rfl) (Nat.le_refl _) ?_
      simp only [List.take_succ_cons, List.take_zero, List.drop_succ_cons, List.drop_zero]
      iterate 7 (refine wpDep_plain (by rfl) (fun K hK => ?_); go_simp; (refine hK _ ?_; clear hK K))
      refine wpDep_nil ?_
      intro f m _
      simp only [fillV]
      have e5 := owns_below h5 m.h
      have g4 := holds_below H4.out m.h l4
      have g2 : vecIn m.u w.heap.size a := holds_below H2.out m.h l2
      have g3 : vecIn m.u (w.heap.size + 1) b := holds_below H3.out m.h l3
      have hBm := hB.trans (m.h.mono (by have := hB.size; omega))
      have hKO := keepsOthers_below m.h
      clear hn2 hn3 ck dk h4 h5 H2 H3 H4
      obtain ⟨V, hV⟩ : ∃ V, m.u = V := ⟨_, rfl⟩
      rw [hV] at e5 g4 g2 g3 hBm hKO
      rw [hV]
      clear hV
      have ck := g2.at k kn
      have dk := g3.at k kn
      have ok0 : V.cell? ⟨w1.heap.size, 0, none⟩ = some ov := g4.cell 0 (by simp)
      have oz0 := g4.free 0 (by simp)
      have hrg := owns_lt e5
      have v2 := g2.lt
      have v3 := g3.lt
      have v4 := g4.lt
      have nb2 : ¬ ov.ownBlock = some w.heap.size := fun e => by have := (hrg _ e).1; omega
      have nb3 : ¬ ov.ownBlock = some (w.heap.size + 1) := fun e => by have := (hrg _ e).1; omega
      have nb4 : ¬ ov.ownBlock = some w1.heap.size := fun e => by have := (hrg _ e).1; omega
      have hn2 := fun (n : Wild.NearM (fun g => ov.ownBlock = some g) V.heap.size V) => n.h.cell v2 nb2 k
      have hn3 := fun (n : Wild.NearM (fun g => ov.ownBlock = some g) V.heap.size V) => n.h.cell v3 nb3 k
      have hn4 := fun (n : Wild.NearM (fun g => ov.ownBlock = some g) V.heap.size V) => n.h.cell v4 nb4 0
      have hw : IntKind.u64.wrap (a k + 1) = a k + 1 := IntWalk.u64_in _ (by omega)
      obtain ⟨i0, hi0, hz0, hz1, hz2⟩ := info_parts info_stretch
      refine hK0 _ _ ?_
      clear hK0
      gi_wp2_with fail
      refine Wild.wpIn_region_dep (fun g => ov.ownBlock = some g) (fun w' => w'.ownsRow (w1.heap.size + 1) 51 3 ov (lackL a b pre).length ((lackL a b pre).flatMap enT)) V.heap.size 12 (by kernel_rfl) (by kernel_rfl) (by rfl) (by rfl) (Nat.le_refl _) (fun _ _ hb h => owns_below h hb) e5 ?_
      simp only [List.take_succ_cons, List.take_zero, List.drop_succ_cons, List.drop_zero]
      iterate 10 (refine Wild.wpDep_plain (by rfl) (fun K hK => ?_); go_simp; (refine hK _ ?_; clear hK K))
      refine Wild.wpDep_make (fun v w' => ∃ g, v = .slice (some ⟨g, 0, none⟩) 1 1 ∧ V.heap.size ≤ g ∧ blockIs w' g #[.int .i64 k, .int .u64 (a k + 1), .int .u64 (b k)] 51) false (by rfl) (by rfl) ?_ (by rfl) ?_ ?_
      · rintro v A B hk ⟨g, e, hg, hc⟩
        exact ⟨g, e, hg, blockIs_keep hc hk (fun e => by have := (hrg _ e).2.1; omega)⟩
      · intro n
        go_simp
        exact ⟨(Below.refl _ _).alloc (Nat.le_refl _) _, n.h.size, heap_alloc_new _ _⟩
      refine Wild.wpDep_wild (fun v w' => w'.ownsRow (w1.heap.size + 1) 51 3 v ((lackL a b pre).length + 1) ((lackL a b pre).flatMap enT ++ [.int .i64 k, .int .u64 (a k + 1), .int .u64 (b k)])) (by rfl) (by rfl) ?_ (by rfl) ?_ ?_
      · rintro v A B hk h
        exact owns_below h hk
      · intro f n hJ hf
        obtain ⟨g, e, hg, hc⟩ := hf _ (List.mem_cons_self ..) (show (31 : Tmp) ∈ Oper.looksAt _ _ by decide)
        simp only [Wild.fillV]
        dsimp only at e
        rw [e]
        refine Wild.givesW_append _ _ _ (by rfl) (w1.heap.size + 1) 51 i0 _ 3 24 Try.underlying46 hi0 hz0 hz1 hz2 rfl (by decide) ov (lackL a b pre).length _ (by rfl) hJ ⟨g, 0, none⟩ 1 1 [.int .i64 k, .int .u64 (a k + 1), .int .u64 (b k)] (by rfl) (by rfl) (World.news_of_block (cs := #[.int .i64 k, .int .u64 (a k + 1), .int .u64 (b k)]) hc) (by simp [Value.oneCell']) (by unfold maxLen; omega) (by omega) (by have := n.h.size; omega) ?_
        intro v' w' q1 q2 q3
        exact ⟨Wild.Keep.of_grown q2 (fun q hq => hq), q1⟩
      refine Wild.wpDep_nil ?_
      intro f m4 hf _
      have own4 := hf _ (List.mem_cons_self ..)
      dsimp only at own4
      simp only [Wild.fillV]
      obtain ⟨nv, hnv⟩ : ∃ nv, f 32 = nv := ⟨_, rfl⟩
      rw [hnv] at own4 ⊢
      have r2 := holds_keep g2 m4.h v2 nb2
      have r3 := holds_keep g3 m4.h v3 nb3
      have r4 := holds_keep g4 m4.h v4 nb4
      have hKO4 : KeepsOthers V m4.u := keepsOthers_keep m4.h fun q hq => (hrg q hq).2.2
      have hBm4 : Below w.heap.size w m4.u := hBm.trans (m4.h.below (by have := hB.size; omega) fun q hq => by have := (hrg q hq).1; omega)
      obtain ⟨V4, hV4⟩ : ∃ V4, m4.u = V4 := ⟨_, rfl⟩
      rw [hV4] at own4 r2 r3 r4 hKO4 hBm4
      rw [hV4]
      have y0 : V4.cell? ⟨w1.heap.size, 0, none⟩ = some ov := r4.cell 0 (by simp)
      have z0 := r4.free 0 (by simp)
      have yl := r4.lt
      clear hV4 hn2 hn3 hn4
      have hsl : ∃ ad n' c, nv = .slice ad n' c := by
        rcases own4.2 with ⟨e, _⟩ | ⟨g', cp, cur, e, _⟩
        · exact ⟨_, _, _, e⟩
        · exact ⟨_, _, _, e⟩
      clear hnv
      obtain ⟨ad, n', c', rfl⟩ := hsl
      gi_wp2
      refine ⟨(hKO.trans hKO4).trans (KeepsOthers.setCell _ _ _), trivial, ⟨holds_other r2 (by omega) _, holds_other r3 (by omega) _, .slice ad n' c', holds_set r4 0 (by simp) _, ?_⟩, hBm4.setCell (by dsimp only; omega) _⟩
      rw [HS.out, HO1.out, List.length_append, List.flatMap_append]
      exact owns_set _ own4 (by omega)
    · have hd : decide (a k < b k) = false := decide_eq_false hlt
      have hone : lackOne a b x = [] := by rw [HO.out, if_neg hlt]
      have HO1 := Lib.hid hone
      clear hone
      have hn2 := fun (n : Near W.heap.size W) => near_cell W.heap.size n w.heap.size k l2
      have hn3 := fun (n : Near W.heap.size W) => near_cell W.heap.size n (w.heap.size + 1) k l3
      refine wpIn_block ?_
      apply wpIn_seq_k; intro K0 hK0
      refine wpIn_region_dep W.heap.size 7 (by kernel_rfl) (by kernel_rfl) (by rfl) (by rfl) (Nat.le_refl _) ?_
      simp only [List.take_succ_cons, List.take_zero, List.drop_succ_cons, List.drop_zero]
      iterate 7 (refine wpDep_plain (by rfl) (fun K hK => ?_); go_simp; (refine hK _ ?_; clear hK K))
      refine wpDep_nil ?_
      intro f m _
      simp only [fillV]
      have e5 := owns_below h5 m.h
      have g4 := holds_below H4.out m.h l4
      have g2 : vecIn m.u w.heap.size a := holds_below H2.out m.h l2
      have g3 : vecIn m.u (w.heap.size + 1) b := holds_below H3.out m.h l3
      have hBm := hB.trans (m.h.mono (by have := hB.size; omega))
      have hKO := keepsOthers_below m.h
      clear hn2 hn3
      gi_wp2
      refine ⟨hKO, trivial, ⟨g2, g3, ov, g4, ?_⟩, hBm⟩
      rw [HS.out, HO1.out, List.append_nil]
      exact e5
  case done =>
    rintro D ys W hD rfl ⟨⟨h2, h3, ov, h4, h5⟩, hB⟩ hK
    have hlD : D < W.heap.size := (Array.getElem?_eq_some_iff.1 hK).1
    have q1 : W.cell? ⟨w1.heap.size, 0, none⟩ = some ov := h4.cell 0 (by simp)
    go_wp2
    refine ⟨by simp, .inl ⟨_, _, rfl, run_takeDeferred hK, ?_⟩⟩
    refine ⟨_, results_tmp rfl _ _ _, ?_⟩
    obtain ⟨a0, cap, hov, hrw, hc1, hc2, hc3⟩ := rowV_of_own (en := enT) (fun _ => rfl) (owns_own h5 (grownBy_putObj' W D (Obj.deferred none)) (fun r hr => by cases hr; exact ⟨_, hK, rfl⟩))
    exact ⟨a0, cap, by rw [hov]; rfl, hrw, hc1, hc2, hc3, hB.trans (belowK_b (w := w) (Nat.le_refl _) W D _ _ (by simp at hD; omega) hK rfl rfl)⟩
  case stop =>
    rintro D c pre W hD ⟨k, hk, rfl⟩ h hK
    exact h.elim
end Go.Proofs.Ytjpgabpicfcapaa
