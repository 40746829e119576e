/- how far two colours are apart -/
import Derived.WalkMore
import Derived.Test.YtcfollajmmlfnaaW6
import Derived.Test.YtcfollajmmlfnaaDepIn
namespace Go.Proofs.Ytcfollajmmlfnaa
open Go.RowKit Go.Shelf
attribute [local go_sem] Oper.semAt_some

theorem bcell {W w1 : World} (hb : Below W.heap.size W w1) : (∀ b o, b < W.heap.size → w1.cell? ⟨b, o, none⟩ = W.cell? ⟨b, o, none⟩) ∧ (∀ b o, b < W.heap.size → w1.frozen? ⟨b, o, none⟩ = W.frozen? ⟨b, o, none⟩) ∧ W.heap.size ≤ w1.heap.size :=
  ⟨fun b o h => hb.cell (p := ⟨b, o, none⟩) h, fun b o h => hb.frozen (p := ⟨b, o, none⟩) h, hb.size⟩
def C4.same (a b : C4) : Bool := a.r == b.r && (a.g == b.g && (a.b == b.b && a.a == b.a))
theorem run_eql_col (a b : C4) (w : World) : (binOp .eql 26 (.agg #[.int .u8 a.r, .int .u8 a.g, .int .u8 a.b, .int .u8 a.a]) (.agg #[.int .u8 b.r, .int .u8 b.g, .int .u8 b.b, .int .u8 b.a])).run Try.prog w = .ok (.bool (a.same b)) w := by
  by_cases h1 : a.r = b.r <;> by_cases h2 : a.g = b.g <;> by_cases h3 : a.b = b.b <;> by_cases h4 : a.a = b.a <;> simp [go_sem, C4.same, h1, h2, h3, h4]
theorem run_neq_col (a b : C4) (w : World) : (binOp .neq 26 (.agg #[.int .u8 a.r, .int .u8 a.g, .int .u8 a.b, .int .u8 a.a]) (.agg #[.int .u8 b.r, .int .u8 b.g, .int .u8 b.b, .int .u8 b.a])).run Try.prog w = .ok (.bool (!a.same b)) w := by
  by_cases h1 : a.r = b.r <;> by_cases h2 : a.g = b.g <;> by_cases h3 : a.b = b.b <;> by_cases h4 : a.a = b.a <;> simp [go_sem, C4.same, h1, h2, h3, h4]

theorem told_any (c : C4) (w : World) :
    Calls Try.prog 39 #[c.val] w fun e w' => e = .returned (.func (.func 44) #[] #[.pointer (some ⟨w.heap.size, 0, none⟩)]) ∧ w' = w.alloc (.cells #[.int .u8 c.r, .int .u8 c.g, .int .u8 c.b, .int .u8 c.a] 64) := by
  have hmf : ∀ (fn : Fn) (first cap : Array Value) (w : World), (Instr.makeFunc fn first cap).run Try.prog w = .ok (.func fn first cap) w := fun _ _ _ _ => rfl
  go_enter Try.func39, Try.ntmps39
  go_wp2
  go_ret
  exact ⟨rfl, rfl⟩

def C4.dist (a b : C4) (q : Q4) : Int := max (a.part q) (b.part q) - min (a.part q) (b.part q)
def C4.sumD (a b : C4) (l : List Q4) : Int := (l.map (a.dist b)).sum
def C4.far (a b : C4) : Int := a.sumD b all4

/-- what the walk's own cells hold between two parts -/
def farI (a b : C4) (most : Int) (w w1 : World) (pre : List Q4) (W : World) : Prop :=
  W.cell? ⟨w.heap.size + 1 + 1 + 1, 0, none⟩ = some (.int .i64 (a.sumD b pre)) ∧ W.frozen? ⟨w.heap.size + 1 + 1 + 1, 0, none⟩ = false ∧ W.cell? ⟨w.heap.size + 1 + 1, 0, none⟩ = some (.int .i64 most) ∧
  W.cell? ⟨w1.heap.size, 0, none⟩ = some (.int .u8 b.r) ∧ W.cell? ⟨w1.heap.size, 1, none⟩ = some (.int .u8 b.g) ∧ W.cell? ⟨w1.heap.size, 2, none⟩ = some (.int .u8 b.b) ∧ W.cell? ⟨w1.heap.size, 3, none⟩ = some (.int .u8 b.a)

theorem farI_own (a b : C4) (most : Int) (w w1 : World) : Own (farI a b most w w1) :=
  fun _ _ _ _ ⟨h1, h2, h3, h4, h5, h6, h7⟩ hg hr => ⟨cell_kept h1 hg hr, (frozen_kept h1 hg hr).trans h2, cell_kept h3 hg hr, cell_kept h4 hg hr, cell_kept h5 hg hr, cell_kept h6 hg hr, cell_kept h7 hg hr⟩

theorem keepsOthers_of {W W' : World} (h : Below W.heap.size W W') : KeepsOthers W W' :=
  ⟨h.size, fun k _ hk _ => (h.block k (Array.getElem?_eq_some_iff.1 hk).1).trans hk⟩

theorem far_step (a b : C4) (most : Int) (w w1 : World) (pre : List Q4) (q : Q4) (W : World) (hI : farI a b most w w1 pre W) (hB : Below w.heap.size w W) (n : Near W.heap.size W) (v : Int) (hv : v = a.sumD b (pre ++ [q])) (hne : w.heap.size + 1 + 1 + 1 < w1.heap.size) :
    farI a b most w w1 (pre ++ [q]) (n.u.setCell ⟨w.heap.size + 1 + 1 + 1, 0, none⟩ (.int .i64 v)) ∧ KeepsOthers W (n.u.setCell ⟨w.heap.size + 1 + 1 + 1, 0, none⟩ (.int .i64 v)) ∧ Below w.heap.size w (n.u.setCell ⟨w.heap.size + 1 + 1 + 1, 0, none⟩ (.int .i64 v)) := by
  obtain ⟨hc, hz, hm, o0, o1, o2, o3⟩ := hI
  have l3 : w.heap.size + 1 + 1 + 1 < W.heap.size := World.block_lt_of_cell? _ _ hc
  have l1 : w1.heap.size < W.heap.size := World.block_lt_of_cell? _ _ o0
  have l2 : w.heap.size + 1 + 1 < W.heap.size := by omega
  have hn := near_cell W.heap.size n
  have hf := near_frozen W.heap.size n
  have hd : ∀ x : Value, World.cell? (n.u.setCell ⟨w.heap.size + 1 + 1 + 1, 0, none⟩ (.int .i64 v)) ⟨w1.heap.size, 0, none⟩ = some x → True := fun _ _ => trivial
  clear hd
  have hne1 : ¬ w1.heap.size = w.heap.size + 1 + 1 + 1 := by omega
  have hne2 : ¬ w.heap.size + 1 + 1 + 1 = w1.heap.size := by omega
  refine ⟨⟨?_, ?_, ?_, ?_, ?_, ?_, ?_⟩, (keepsOthers_of n.h).trans (KeepsOthers.setCell _ _ _), (hB.trans (n.h.mono (by have := hB.size; omega))).setCell (p := ⟨w.heap.size + 1 + 1 + 1, 0, none⟩) (by dsimp only; omega) _⟩
  all_goals simp [go_sem, *]

theorem dist_bd (a b : C4) (ha : a.ok) (hb : b.ok) (q : Q4) : 0 ≤ a.dist b q ∧ a.dist b q ≤ 255 := by
  obtain ⟨⟨a1, a2⟩, ⟨a3, a4⟩, ⟨a5, a6⟩, a7, a8⟩ := ha
  obtain ⟨⟨b1, b2⟩, ⟨b3, b4⟩, ⟨b5, b6⟩, b7, b8⟩ := hb
  unfold C4.dist
  cases q <;> simp only [C4.part] <;> omega

theorem sumD_snoc (a b : C4) (l : List Q4) (q : Q4) : a.sumD b (l ++ [q]) = a.sumD b l + a.dist b q := by
  unfold C4.sumD; simp

theorem sumD_len (a b : C4) (ha : a.ok) (hb : b.ok) (l : List Q4) : 0 ≤ a.sumD b l ∧ a.sumD b l ≤ 255 * l.length := by
  unfold C4.sumD
  induction l with
  | nil => simp
  | cons q l ih => have := dist_bd a b ha hb q; simp only [List.map_cons, List.sum_cons, List.length_cons]; omega

theorem sumD_take (a b : C4) (ha : a.ok) (hb : b.ok) (k : Nat) : a.sumD b (all4.take (k + 1)) ≤ a.sumD b all4 := by
  have h2 : a.sumD b all4 = a.sumD b (all4.take (k + 1)) + a.sumD b (all4.drop (k + 1)) := by
    unfold C4.sumD; rw [← List.sum_append, ← List.map_append, List.take_append_drop]
  have := (sumD_len a b ha hb (all4.drop (k + 1))).1
  omega

theorem sumD_bd (a b : C4) (ha : a.ok) (hb : b.ok) (l : List Q4) (h : l.length < 4) : 0 ≤ a.sumD b l ∧ a.sumD b l ≤ 765 := by
  have := sumD_len a b ha hb l; omega

set_option maxHeartbeats 1000000 in
theorem farUpTo_ne (a b : C4) (ha : a.ok) (hb : b.ok) (most : Int) (w : World) (hne : a.same b = false) :
    Calls Try.prog 37 #[a.val, b.val, .int .i64 most] w fun e w' => ∃ x, e = .returned (.tuple #[.int .i64 x, .bool (decide (a.far b ≤ most))]) ∧ (a.far b ≤ most → x = a.far b) ∧ Below w.heap.size w w' := by
  have hmf : ∀ (fn : Fn) (first cap : Array Value) (w : World), (Instr.makeFunc fn first cap).run Try.prog w = .ok (.func fn first cap) w := fun _ _ _ _ => rfl
  have hq := run_eql_col a b
  refine (callsIn_wide (n := 4)).1 ?_
  refine callsIn_of_wp_marks Try.func37 rfl trivial ?_ rfl
  simp only [Try.ntmps37, List.size_toArray, List.length_cons, List.length_nil, Nat.reduceAdd, Nat.reduceSub, Array.replicate_succ, Array.replicate_zero, List.push_toArray, List.append_toArray, List.nil_append, List.cons_append]
  refine wpIn_wide.2 ?_
  go_wp2_with fail
  go_step3
  go_wp2_with fail
  refine (partsOf_any _ _ _ _ _).mono ?_
  rintro e w1 ⟨rfl, hb1⟩
  obtain ⟨q1, z1, s1⟩ := bcell hb1
  simp only [World.size_alloc] at q1 z1 s1
  have m10 : w.heap.size < w1.heap.size := by omega
  have m11 : w.heap.size + 1 < w1.heap.size := by omega
  have m12 : w.heap.size + 1 + 1 < w1.heap.size := by omega
  have m13 : w.heap.size + 1 + 1 + 1 < w1.heap.size := by omega
  go_wp2_with fail
  go_step3
  go_wp2_with fail
  refine (partsOf_any _ _ _ _ _).mono ?_
  rintro e w2 ⟨rfl, hb2⟩
  obtain ⟨q2, z2, s2⟩ := bcell hb2
  simp only [World.size_alloc] at q2 z2 s2
  have m20 : w.heap.size < w2.heap.size := by omega
  have m21 : w.heap.size + 1 < w2.heap.size := by omega
  have m22 : w.heap.size + 1 + 1 < w2.heap.size := by omega
  have m23 : w.heap.size + 1 + 1 + 1 < w2.heap.size := by omega
  have m24 : w1.heap.size < w2.heap.size := by omega
  go_wp2_with fail
  refine (told_any a _).mono ?_
  rintro e w3 ⟨rfl, rfl⟩
  go_wp2_with fail
  have hst : farI a b most w w1 [] (w2.alloc (.cells #[.int .u8 a.r, .int .u8 a.g, .int .u8 a.b, .int .u8 a.a] 64)) := by
    refine ⟨?_, ?_, ?_, ?_, ?_, ?_, ?_⟩ <;> simp [go_sem, C4.sumD, *]
  have hB3 : Below w.heap.size w (w2.alloc (.cells #[.int .u8 a.r, .int .u8 a.g, .int .u8 a.b, .int .u8 a.a] 64)) := by
    refine Below.alloc (Below.trans (Below.alloc (Below.trans ?_ (hb1.mono (by simp; omega))) (by omega) _) (hb2.mono (by simp; omega))) (by omega) _
    exact (((((Below.refl _ _).alloc (Nat.le_refl _) _).alloc (by simp) _).alloc (by simp; omega) _).alloc (by simp; omega) _)
  clear hq q1 q2 z1 z2 hb1 hb2 hmf
  refine (wpIn_wide (n := 4)).1 ?_
  refine wpIn_rangeFunc_ownF (F := Fence.wide) (Kp := fun _ _ => True) rfl (by omega) (gf := 44) (lb := #[.pointer (some ⟨w2.heap.size, 0, none⟩)]) rfl trivial (enters_of Try.func44 (by kernel_rfl) rfl)
    (told_stops Fence.wide 3 trivial rfl (by omega) a w2.heap.size (w2.alloc (.cells #[.int .u8 a.r, .int .u8 a.g, .int .u8 a.b, .int .u8 a.a] 64)) (by refine ⟨by simp, ⟨?_, ?_, ?_, ?_⟩, ?_, ?_, ?_, ?_⟩ <;> simp [go_sem])) (fun _ _ => trivial) (fun _ _ _ _ _ _ _ _ => trivial) (Below.refl _ _) (fun _ => rfl)
    (fun pre W => farI a b most w w1 pre W ∧ Below w.heap.size w W)
    (fun c pre W => (farI a b most w w1 pre W ∧ c = .exit 0 ∧ most < a.sumD b pre) ∧ Below w.heap.size w W)
    (OwnFrom.and (Own.from (farI_own a b most w w1) _) (ownFrom_below (Nat.le_refl _) (by simp; omega)))
    (fun c => OwnFrom.and (Own.from (fun s A B row hs hg hr => ⟨farI_own a b most w w1 s A B row hs.1 hg hr, hs.2⟩) _) (ownFrom_below (Nat.le_refl _) (by simp; omega)))
    ⟨hst, hB3⟩
    (fun x => { tmps := #[a.val, b.val, .int .i64 most, .pointer (some ⟨w.heap.size, 0, none⟩), .pointer (some ⟨w.heap.size + 1, 0, none⟩), .pointer (some ⟨w.heap.size + 1 + 1, 0, none⟩), .int .i64 0, .bool false, .pointer (some ⟨w.heap.size + 1 + 1 + 1, 0, none⟩), .pointer (some ⟨w1.heap.size, 0, none⟩), .int .i64 x.idx, .int .u8 (a.part x), col a.r a.g a.b a.a, col b.r b.g b.b b.a, .bool false, undef, undef, col b.r b.g b.b b.a, col b.r b.g b.b b.a, col a.r a.g a.b a.a, col a.r a.g a.b a.a, .func (.func 44) #[] #[.pointer (some ⟨w2.heap.size, 0, none⟩)], .int .i64 x.idx, .int .u8 (a.part x), undef, undef, undef, undef, undef, undef, undef, undef, undef, undef, undef, undef, undef, undef, undef, undef, undef, undef, undef, undef, undef, undef, undef, undef], defers := [] }) ?assign ?body ?done ?stop
  case assign =>
    intro l x W K hK
    unfold encP
    gi_wp2
    exact hK
  case body =>
    rintro l pre x W ⟨hI, hB⟩ hlen
    have HI := Lib.hid hI
    have HB := Lib.hid hB
    obtain ⟨hc, hz, hm, o0, o1, o2, o3⟩ := hI
    clear hB
    clear hst hB3
    have l3 : w.heap.size + 1 + 1 + 1 < W.heap.size := World.block_lt_of_cell? _ _ hc
    have l2 : w.heap.size + 1 + 1 < W.heap.size := World.block_lt_of_cell? _ _ hm
    have l1 : w1.heap.size < W.heap.size := World.block_lt_of_cell? _ _ o0
    have hn := @near_cell W.heap.size
    have hf := @near_frozen W.heap.size
    have hs := sumD_bd a b ha hb pre hlen
    generalize hsx : a.sumD b pre = sx at hc hs
    have Hs := Lib.hid hsx
    clear hsx
    cases x
    · simp only [Q4.idx, C4.part]
      obtain ⟨y0, y1⟩ := ha.1
      obtain ⟨v0, v1⟩ := hb.1
      have hsn := sumD_snoc a b pre .r
      have hd : a.dist b .r = max a.r b.r - min a.r b.r := rfl
      rw [hd, Hs.out] at hsn
      have HS := Lib.hid hsn
      clear hd hsn
      rcases Int.lt_trichotomy a.r b.r with h | h | h
      all_goals
        refine wpIn_block ?_
        apply wpIn_seq_k; intro K0 hK0
        refine wpIn_region_dep W.heap.size 17 (by kernel_rfl) (by kernel_rfl) (by rfl) (by rfl) (Nat.le_refl _) ?_
        simp only [List.take_succ_cons, List.take_zero, List.drop_succ_cons, List.drop_zero]
        repeat (refine wpDep_plain (by rfl) (fun K hK => ?_); go_simp; (refine hK _ ?_; clear hK K))
        refine wpDep_nil ?_
        intro f m _
        simp only [fillV]
        gi_wp2
        all_goals
          have key := fun v hv => far_step a b most w w1 pre .r W HI.out HB.out m v hv m13
          first
            | exact ⟨(key _ (by rw [HS.out]; omega)).2.1, trivial, (key _ (by rw [HS.out]; omega)).1, (key _ (by rw [HS.out]; omega)).2.2⟩
            | exact ⟨(key _ (by rw [HS.out]; omega)).2.1, ⟨(key _ (by rw [HS.out]; omega)).1, rfl, by rw [HS.out]; omega⟩, (key _ (by rw [HS.out]; omega)).2.2⟩
    · simp only [Q4.idx, C4.part]
      obtain ⟨y0, y1⟩ := ha.2.1
      obtain ⟨v0, v1⟩ := hb.2.1
      have hsn := sumD_snoc a b pre .g
      have hd : a.dist b .g = max a.g b.g - min a.g b.g := rfl
      rw [hd, Hs.out] at hsn
      have HS := Lib.hid hsn
      clear hd hsn
      rcases Int.lt_trichotomy a.g b.g with h | h | h
      all_goals
        refine wpIn_block ?_
        apply wpIn_seq_k; intro K0 hK0
        refine wpIn_region_dep W.heap.size 17 (by kernel_rfl) (by kernel_rfl) (by rfl) (by rfl) (Nat.le_refl _) ?_
        simp only [List.take_succ_cons, List.take_zero, List.drop_succ_cons, List.drop_zero]
        repeat (refine wpDep_plain (by rfl) (fun K hK => ?_); go_simp; (refine hK _ ?_; clear hK K))
        refine wpDep_nil ?_
        intro f m _
        simp only [fillV]
        gi_wp2
        all_goals
          have key := fun v hv => far_step a b most w w1 pre .g W HI.out HB.out m v hv m13
          first
            | exact ⟨(key _ (by rw [HS.out]; omega)).2.1, trivial, (key _ (by rw [HS.out]; omega)).1, (key _ (by rw [HS.out]; omega)).2.2⟩
            | exact ⟨(key _ (by rw [HS.out]; omega)).2.1, ⟨(key _ (by rw [HS.out]; omega)).1, rfl, by rw [HS.out]; omega⟩, (key _ (by rw [HS.out]; omega)).2.2⟩
    · simp only [Q4.idx, C4.part]
      obtain ⟨y0, y1⟩ := ha.2.2.1
      obtain ⟨v0, v1⟩ := hb.2.2.1
      have hsn := sumD_snoc a b pre .b
      have hd : a.dist b .b = max a.b b.b - min a.b b.b := rfl
      rw [hd, Hs.out] at hsn
      have HS := Lib.hid hsn
      clear hd hsn
      rcases Int.lt_trichotomy a.b b.b with h | h | h
      all_goals
        refine wpIn_block ?_
        apply wpIn_seq_k; intro K0 hK0
        refine wpIn_region_dep W.heap.size 17 (by kernel_rfl) (by kernel_rfl) (by rfl) (by rfl) (Nat.le_refl _) ?_
        simp only [List.take_succ_cons, List.take_zero, List.drop_succ_cons, List.drop_zero]
        repeat (refine wpDep_plain (by rfl) (fun K hK => ?_); go_simp; (refine hK _ ?_; clear hK K))
        refine wpDep_nil ?_
        intro f m _
        simp only [fillV]
        gi_wp2
        all_goals
          have key := fun v hv => far_step a b most w w1 pre .b W HI.out HB.out m v hv m13
          first
            | exact ⟨(key _ (by rw [HS.out]; omega)).2.1, trivial, (key _ (by rw [HS.out]; omega)).1, (key _ (by rw [HS.out]; omega)).2.2⟩
            | exact ⟨(key _ (by rw [HS.out]; omega)).2.1, ⟨(key _ (by rw [HS.out]; omega)).1, rfl, by rw [HS.out]; omega⟩, (key _ (by rw [HS.out]; omega)).2.2⟩
    · simp only [Q4.idx, C4.part]
      obtain ⟨y0, y1⟩ := ha.2.2.2
      obtain ⟨v0, v1⟩ := hb.2.2.2
      have hsn := sumD_snoc a b pre .a
      have hd : a.dist b .a = max a.a b.a - min a.a b.a := rfl
      rw [hd, Hs.out] at hsn
      have HS := Lib.hid hsn
      clear hd hsn
      rcases Int.lt_trichotomy a.a b.a with h | h | h
      all_goals
        refine wpIn_block ?_
        apply wpIn_seq_k; intro K0 hK0
        refine wpIn_region_dep W.heap.size 17 (by kernel_rfl) (by kernel_rfl) (by rfl) (by rfl) (Nat.le_refl _) ?_
        simp only [List.take_succ_cons, List.take_zero, List.drop_succ_cons, List.drop_zero]
        repeat (refine wpDep_plain (by rfl) (fun K hK => ?_); go_simp; (refine hK _ ?_; clear hK K))
        refine wpDep_nil ?_
        intro f m _
        simp only [fillV]
        gi_wp2
        all_goals
          have key := fun v hv => far_step a b most w w1 pre .a W HI.out HB.out m v hv m13
          first
            | exact ⟨(key _ (by rw [HS.out]; omega)).2.1, trivial, (key _ (by rw [HS.out]; omega)).1, (key _ (by rw [HS.out]; omega)).2.2⟩
            | exact ⟨(key _ (by rw [HS.out]; omega)).2.1, ⟨(key _ (by rw [HS.out]; omega)).1, rfl, by rw [HS.out]; omega⟩, (key _ (by rw [HS.out]; omega)).2.2⟩
  case done =>
    rintro D ys W hD rfl ⟨⟨hc, hz, hm, o0, o1, o2, o3⟩, hB⟩ hK
    have l3 : w.heap.size + 1 + 1 + 1 < W.heap.size := World.block_lt_of_cell? _ _ hc
    have l2 : w.heap.size + 1 + 1 < W.heap.size := World.block_lt_of_cell? _ _ hm
    have hlD : D < W.heap.size := (Array.getElem?_eq_some_iff.1 hK).1
    have hn := @near_cell W.heap.size
    go_wp2
    refine wp_region_dep W.heap.size 6 (by kernel_rfl) (by kernel_rfl) (by rfl) (Nat.le_refl _) ?_
    simp only [List.take_succ_cons, List.take_zero, List.drop_succ_cons, List.drop_zero]
    repeat (refine wpDep_plain (by rfl) (fun K hK => ?_); go_simp; (refine hK _ ?_; clear hK K))
    refine wpDep_nil ?_
    intro f m _
    simp only [fillV]
    go_wp2
    have hK2 := (m.h.block D hlD).trans hK
    rw [Exit.noGoto_ret]
    refine ⟨by simp, .inl ⟨_, _, rfl, run_takeDeferred hK2, ?_⟩⟩
    refine ⟨_, results_tmp2 rfl _ _ _, a.sumD b all4, rfl, fun _ => rfl, (hB.trans (m.h.mono (by have := hB.size; omega))).trans (belowK_b (w := w) (Nat.le_refl _) m.u D _ _ (by simp at hD; omega) hK2 rfl rfl)⟩
  case stop =>
    rintro D c pre W hD ⟨k, hk, rfl⟩ ⟨⟨⟨hc, hz, hm, o0, o1, o2, o3⟩, rfl, hlt⟩, hB⟩ hK
    refine wpIn_wide.2 ?_
    have l3 : w.heap.size + 1 + 1 + 1 < W.heap.size := World.block_lt_of_cell? _ _ hc
    have l2 : w.heap.size + 1 + 1 < W.heap.size := World.block_lt_of_cell? _ _ hm
    have hlD : D < W.heap.size := (Array.getElem?_eq_some_iff.1 hK).1
    have hn := @near_cell W.heap.size
    go_wp2
    refine wp_region_dep W.heap.size 6 (by kernel_rfl) (by kernel_rfl) (by rfl) (Nat.le_refl _) ?_
    simp only [List.take_succ_cons, List.take_zero, List.drop_succ_cons, List.drop_zero]
    repeat (refine wpDep_plain (by rfl) (fun K hK => ?_); go_simp; (refine hK _ ?_; clear hK K))
    refine wpDep_nil ?_
    intro f m _
    simp only [fillV]
    go_wp2
    have hK2 := (m.h.block D hlD).trans hK
    rw [Exit.noGoto_ret]
    refine ⟨by simp, .inl ⟨_, _, rfl, run_takeDeferred hK2, ?_⟩⟩
    have hfar := sumD_take a b ha hb k
    have hd1 : decide (a.sumD b (all4.take (k + 1)) ≤ most) = false := by simpa using hlt
    have hd2 : decide (a.far b ≤ most) = false := decide_eq_false (by show ¬ a.sumD b all4 ≤ most; omega)
    refine ⟨_, results_tmp2 rfl _ _ _, a.sumD b (all4.take (k + 1)), ?_, fun h => absurd h (by show ¬ a.sumD b all4 ≤ most; omega), (hB.trans (m.h.mono (by have := hB.size; omega))).trans (belowK_b (w := w) (Nat.le_refl _) m.u D _ _ (by simp at hD; omega) hK2 rfl rfl)⟩
    rw [hd2]
    simp [hd1]
end Go.Proofs.Ytcfollajmmlfnaa
