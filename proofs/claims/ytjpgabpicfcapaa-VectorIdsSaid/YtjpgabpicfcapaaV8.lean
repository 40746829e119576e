/- walks: whether one vector covers another one -/
import Derived.Test.YtjpgabpicfcapaaV7
namespace Go.Proofs.Ytjpgabpicfcapaa
open Go.RowKit Go.Shelf
attribute [local go_sem] Oper.semAt_some

abbrev twoA (u v : V) : Array Value := #[.int .u64 (u 0), .int .u64 (u 1), .int .u64 (u 2), .int .u64 (u 3), .int .u64 (u 4), .int .u64 (u 5), .int .u64 (u 6), .int .u64 (u 7), .int .u64 (u 8), .int .u64 (v 0), .int .u64 (v 1), .int .u64 (v 2), .int .u64 (v 3), .int .u64 (v 4), .int .u64 (v 5), .int .u64 (v 6), .int .u64 (v 7), .int .u64 (v 8)]
theorem twoA_get (u v : V) (k j : Nat) (hk : k < 2) (hj : j < 9) : (twoA u v)[k * 9 + j]? = (vecL ([u, v][k]'hk))[j]? := by
  match k, hk with
  | 0, _ =>
    match j, hj with
    | 0, _ => rfl
    | 1, _ => rfl
    | 2, _ => rfl
    | 3, _ => rfl
    | 4, _ => rfl
    | 5, _ => rfl
    | 6, _ => rfl
    | 7, _ => rfl
    | 8, _ => rfl
  | 1, _ =>
    match j, hj with
    | 0, _ => rfl
    | 1, _ => rfl
    | 2, _ => rfl
    | 3, _ => rfl
    | 4, _ => rfl
    | 5, _ => rfl
    | 6, _ => rfl
    | 7, _ => rfl
    | 8, _ => rfl
theorem row_two (u v : V) (w : World) (n : Nat) (hn : n = w.heap.size) : rowVec (w.alloc (.cells (twoA u v) 24)) (some ⟨n, 0, none⟩) [u, v] := by
  subst hn
  refine ⟨rfl, .inr ⟨w.heap.size, 0, rfl, by simp, fun k hk j hj => ?_⟩⟩
  rw [World.cell?_alloc_at _ _ _ _ rfl, Nat.zero_add]
  exact twoA_get u v k j hk hj
theorem are_two (u v : V) (g : Nat) (w : World) (h : rowVec w (some ⟨g, 0, none⟩) [u, v]) :
    Calls Try.prog 34 #[.slice (some ⟨g, 0, none⟩) 2 2] w fun e w' => e = .returned (.bool (u.may && v.may)) ∧ Below w.heap.size w w' := by
  have := are_any [u, v] (some ⟨g, 0, none⟩) 2 w h (by simp)
  have e : allMay [u, v] = (u.may && v.may) := by simp [allMay]
  rwa [e] at this

def coverTo (a b : V) (pre : List S8) : Prop := ∀ x ∈ pre, b x.nat ≤ a x.nat
def coversB (a b : V) : Bool := (a.may && b.may) && all8.all fun x => decide (b x.nat ≤ a x.nat)

def covI (a b : V) (w : World) (cb : Nat) (pre : List S8) (W : World) : Prop := holds W cb [.bool (a.may && b.may)] ∧ vecIn W w.heap.size a ∧ vecIn W (w.heap.size + 1) b ∧ coverTo a b pre
theorem covI_own (a b : V) (w : World) (cb : Nat) : Own (covI a b w cb) := fun s A B row ⟨h1, h2, h3, h4⟩ hg hr =>
  ⟨holds_own cb (fun _ : List S8 => [.bool (a.may && b.may)]) s A B row h1 hg hr, holds_own w.heap.size (fun _ : List S8 => vecL a) s A B row h2 hg hr, holds_own (w.heap.size + 1) (fun _ : List S8 => vecL b) s A B row h3 hg hr, h4⟩
def covX (a b : V) (cb : Nat) (c : Code) (pre : List S8) (W : World) : Prop := holds W cb [.bool false] ∧ c = .exit 0 ∧ ¬ coverTo a b pre
theorem covX_own (a b : V) (cb : Nat) (c : Code) : Own (covX a b cb c) := fun s A B row ⟨h1, h2⟩ hg hr =>
  ⟨holds_own cb (fun _ : List S8 => [.bool false]) s A B row h1 hg hr, h2⟩

set_option maxRecDepth 4000 in
set_option maxHeartbeats 2000000 in
theorem covers_any (a b : V) (w : World) : Calls Try.prog 25 #[vec a, vec b] w fun e w' => e = .returned (.bool (coversB a b)) ∧ Below w.heap.size w w' := by
  have hmf : ∀ (fn : Fn) (first cap : Array Value) (w : World), (Instr.makeFunc fn first cap).run Try.prog w = .ok (.func fn first cap) w := fun _ _ _ _ => rfl
  have hrow : rowVec (((w.alloc (.cells (vecA a) 24)).alloc (.cells (vecA b) 24)).alloc (.cells (twoA a b) 24)) (some ⟨w.heap.size + 1 + 1, 0, none⟩) [a, b] := row_two a b _ _ (by simp)
  have HR := Lib.hid hrow
  clear hrow
  refine (callsIn_wide (n := 4)).1 ?_
  refine callsIn_of_wp_marks Try.func25 rfl trivial ?_ rfl
  simp only [Try.ntmps25, List.size_toArray, List.length_cons, List.length_nil, Nat.reduceAdd, Nat.reduceSub, Array.replicate_succ, Array.replicate_zero, List.push_toArray, List.append_toArray, List.nil_append, List.cons_append]
  refine wpIn_wide.2 ?_
  go_wp2_with fail
  go_step3
  go_wp2_with fail
  refine (are_two a b (w.heap.size + 1 + 1) _ HR.out).mono ?_
  rintro e w1 ⟨rfl, hB⟩
  have b0 := hB.size
  simp only [World.size_alloc] at b0
  have hb1 : Below w.heap.size w w1 := ((((Below.refl _ _).alloc (Nat.le_refl _) _).alloc (by simp) _).alloc (by simp; omega) _).trans (hB.mono (by simp; omega))
  have hva : vecIn w1 w.heap.size a := holds_below (holds_alloc (holds_alloc (vecIn_new w a) _) _) hB (by simp; omega)
  have hvb0 : vecIn ((w.alloc (.cells (vecA a) 24)).alloc (.cells (vecA b) 24)) (w.heap.size + 1) b := by
    have := vecIn_new (w.alloc (.cells (vecA a) 24)) b
    rwa [World.size_alloc] at this
  have hvb : vecIn w1 (w.heap.size + 1) b := holds_below (holds_alloc hvb0 _) hB (by simp)
  clear hvb0
  go_wp2_with fail
  go_step3
  go_wp2_with fail
  refine (sites_any _).mono ?_
  rintro e w2 ⟨rfl, rfl⟩
  go_wp2_with fail
  have lw : w.heap.size + 1 < w1.heap.size := by omega
  have hst : covI a b w w1.heap.size [] (w1.alloc (.cells #[.bool (a.may && b.may)] 4)) := ⟨holds_new w1 #[.bool (a.may && b.may)] 4, holds_alloc hva _, holds_alloc hvb _, fun x hx => by cases hx⟩
  have hB3 : Below w.heap.size w (w1.alloc (.cells #[.bool (a.may && b.may)] 4)) := hb1.alloc (by omega) _
  clear hva hvb hB
  refine (wpIn_wide (n := 4)).1 ?_
  refine wpIn_rangeFunc_ownF (F := Fence.wide) (Kp := fun _ _ => True) rfl (by omega) (gf := 55) (lb := #[]) rfl trivial (enters_of Try.func55 (by kernel_rfl) rfl)
    (sites_stops Fence.wide 3 trivial rfl (by omega) (w1.alloc (.cells #[.bool (a.may && b.may)] 4))) (fun _ _ => trivial) (fun _ _ _ _ _ _ _ _ => trivial) (Below.refl _ _) (fun _ => rfl)
    (fun pre W => covI a b w w1.heap.size pre W ∧ Below w.heap.size w W)
    (fun c pre W => covX a b w1.heap.size c pre W ∧ Below w.heap.size w W)
    (OwnFrom.and (Own.from (covI_own a b w w1.heap.size) _) (ownFrom_below (Nat.le_refl _) (by simp; omega)))
    (fun c => OwnFrom.and (Own.from (covX_own a b w1.heap.size c) _) (ownFrom_below (Nat.le_refl _) (by simp; omega)))
    ⟨hst, hB3⟩
    (fun x => { tmps := #[vec a, vec b, .pointer (some ⟨w.heap.size, 0, none⟩), .pointer (some ⟨w.heap.size + 1, 0, none⟩), .bool false, .pointer (some ⟨w1.heap.size, 0, none⟩), .int .i64 x.no, .agg (vecA a), .agg (vecA b), .slice (some ⟨w.heap.size + 1 + 1, 0, none⟩) 2 2, .bool (a.may && b.may), .func (.func 55) #[] #[], .int .i64 x.no, undef, undef, undef, undef, undef, undef, undef, undef], defers := [] }) ?assign ?body ?done ?stop
  case assign =>
    intro l x W K hK
    unfold encSite
    gi_wp2
    exact hK
  case body =>
    rintro l pre x W ⟨⟨h1, h2, h3, h4⟩, hB⟩ hlen
    obtain ⟨k1, k8⟩ := x.bd
    rw [S8.no_eq]
    have HX := Lib.hid (Eq.refl x.nat)
    generalize hk : x.nat = k at *
    have HK := Lib.hid hk
    clear hk HX
    have l1 := h1.lt
    have l2 := h2.lt
    have l3 := h3.lt
    have ck := h2.at k (by omega)
    have dk := h3.at k (by omega)
    have hn2 := fun (n : Near W.heap.size W) => near_cell W.heap.size n w.heap.size k l2
    have hn3 := fun (n : Near W.heap.size W) => near_cell W.heap.size n (w.heap.size + 1) k l3
    have kk : (k : Int) < 9 := by omega
    have kn : k < 9 := by omega
    have H1 := Lib.hid h1
    have H2 := Lib.hid h2
    have H3 := Lib.hid h3
    have H4 := Lib.hid h4
    clear h1 h2 h3 h4 hst hB3 hmf
    by_cases hlt : a k < b k
    · have hd : decide (a k < b k) = true := decide_eq_true hlt
      refine wpIn_block ?_
      apply wpIn_seq_k; intro K0 hK0
      refine wpIn_region_dep W.heap.size 7 (by kernel_rfl) (by kernel_rfl) (by rfl) (by rfl) (Nat.le_refl _) ?_
      simp only [List.take_succ_cons, List.take_zero, List.drop_succ_cons, List.drop_zero]
      iterate 7 (refine wpDep_plain (by rfl) (fun K hK => ?_); go_simp; (refine hK _ ?_; clear hK K))
      refine wpDep_nil ?_
      intro f m _
      simp only [fillV]
      have g1 := holds_below H1.out m.h l1
      have q1 : m.u.cell? ⟨w1.heap.size, 0, none⟩ = some (.bool (a.may && b.may)) := g1.cell 0 (by simp)
      have q2 := g1.free 0 (by simp)
      have lm := g1.lt
      have hBm := hB.trans (m.h.mono (by have := hB.size; omega))
      clear hn2 hn3
      gi_wp2
      refine ⟨(keepsOthers_below m.h).trans (KeepsOthers.setCell _ _ _), ⟨holds_set g1 0 (by simp) _, rfl, fun h => ?_⟩, hBm.setCell (by dsimp only; omega) _⟩
      have := h x (by simp)
      rw [HK.out] at this
      omega
    · have hd : decide (a k < b k) = false := decide_eq_false hlt
      refine wpIn_block ?_
      apply wpIn_seq_k; intro K0 hK0
      refine wpIn_region_dep W.heap.size 7 (by kernel_rfl) (by kernel_rfl) (by rfl) (by rfl) (Nat.le_refl _) ?_
      simp only [List.take_succ_cons, List.take_zero, List.drop_succ_cons, List.drop_zero]
      iterate 7 (refine wpDep_plain (by rfl) (fun K hK => ?_); go_simp; (refine hK _ ?_; clear hK K))
      refine wpDep_nil ?_
      intro f m _
      simp only [fillV]
      have g1 := holds_below H1.out m.h l1
      have g2 := holds_below H2.out m.h l2
      have g3 := holds_below H3.out m.h l3
      have hBm := hB.trans (m.h.mono (by have := hB.size; omega))
      clear hn2 hn3
      gi_wp2
      refine ⟨keepsOthers_below m.h, trivial, ⟨g1, g2, g3, fun y hy => ?_⟩, hBm⟩
      rcases List.mem_append.1 hy with hy | hy
      · exact H4.out y hy
      · rw [List.mem_singleton.1 hy, HK.out]; omega
  case done =>
    rintro D ys W hD rfl ⟨⟨h1, h2, h3, h4⟩, hB⟩ hK
    have hlD : D < W.heap.size := (Array.getElem?_eq_some_iff.1 hK).1
    have q1 : W.cell? ⟨w1.heap.size, 0, none⟩ = some (.bool (a.may && b.may)) := h1.cell 0 (by simp)
    have hspec : coversB a b = (a.may && b.may) := by
      unfold coversB
      have : (all8.all fun x => decide (b x.nat ≤ a x.nat)) = true := by
        rw [List.all_eq_true]; intro y hy; exact decide_eq_true (h4 y hy)
      rw [this, Bool.and_true]
    have HSp := Lib.hid hspec
    clear hspec h4
    go_wp2
    rw [Exit.noGoto_ret]
    refine ⟨by simp, .inl ⟨_, _, rfl, run_takeDeferred hK, ?_⟩⟩
    refine ⟨_, results_tmp rfl _ _ _, by rw [HSp.out]; rfl, hB.trans (belowK_b (w := w) (Nat.le_refl _) W D _ _ (by simp at hD; omega) hK rfl rfl)⟩
  case stop =>
    rintro D c pre W hD ⟨k, hk, rfl⟩ ⟨⟨h1, rfl, h4⟩, hB⟩ hK
    refine wpIn_wide.2 ?_
    have hlD : D < W.heap.size := (Array.getElem?_eq_some_iff.1 hK).1
    have q1 : W.cell? ⟨w1.heap.size, 0, none⟩ = some (.bool false) := h1.cell 0 (by simp)
    have hspec : coversB a b = false := by
      unfold coversB
      have : (all8.all fun x => decide (b x.nat ≤ a x.nat)) = false := by
        rw [← Bool.not_eq_true, List.all_eq_true]
        intro hall
        exact h4 fun y hy => of_decide_eq_true (hall y (List.mem_of_mem_take hy))
      rw [this, Bool.and_false]
    have HSp := Lib.hid hspec
    clear hspec h4
    go_wp2
    rw [Exit.noGoto_ret]
    refine ⟨by simp, .inl ⟨_, _, rfl, run_takeDeferred hK, ?_⟩⟩
    refine ⟨_, results_tmp rfl _ _ _, by rw [HSp.out]; rfl, hB.trans (belowK_b (w := w) (Nat.le_refl _) W D _ _ (by simp at hD; omega) hK rfl rfl)⟩
end Go.Proofs.Ytjpgabpicfcapaa
