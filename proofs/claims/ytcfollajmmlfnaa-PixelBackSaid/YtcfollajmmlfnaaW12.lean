/- Text -/
import Derived.Laws.BytesArg
import Derived.Test.YtcfollajmmlfnaaW11
namespace Go.Proofs.Ytcfollajmmlfnaa
open Go.RowKit Go.Shelf
attribute [local go_sem] Oper.semAt_some

def hexDigit (d : Int) : Int := if d < 10 then 48 + d else 87 + d
def hexOf (c : C4) : List Q4 → List Int
  | [] => []
  | q :: l => hexDigit (c.part q / 16) :: hexDigit (c.part q % 16) :: hexOf c l
theorem hexOf_snoc (c : C4) (l : List Q4) (q : Q4) : hexOf c (l ++ [q]) = hexOf c l ++ [hexDigit (c.part q / 16), hexDigit (c.part q % 16)] := by
  induction l with
  | nil => rfl
  | cons x l ih => simp [hexOf, ih]
theorem hexOf_len (c : C4) (l : List Q4) : (hexOf c l).length = 2 * l.length := by
  induction l with
  | nil => rfl
  | cons x l ih => simp [hexOf, ih]; omega

set_option maxRecDepth 20000 in
theorem u8_and_low (x : Int) (h0 : 0 ≤ x) (h1 : x ≤ 255) : bits .and .u8 x 15 = x % 16 := by
  obtain ⟨n, rfl⟩ := Int.eq_ofNat_of_zero_le h0
  have h : ∀ m : Fin 256, bits .and .u8 ((m.val : Nat) : Int) 15 = ((m.val : Nat) : Int) % 16 := by decide
  exact h ⟨n, by omega⟩
theorem index_hex (d : Int) (h0 : 0 ≤ d) (h1 : d < 16) : ∀ w : World, (Instr.index 9 (.string ⟨#[48, 49, 50, 51, 52, 53, 54, 55, 56, 57, 97, 98, 99, 100, 101, 102]⟩) (.int .u8 d)).run Try.prog w = .ok (.int .u8 (hexDigit d)) w := by
  intro w
  rcases (by omega : d = 0 ∨ d = 1 ∨ d = 2 ∨ d = 3 ∨ d = 4 ∨ d = 5 ∨ d = 6 ∨ d = 7 ∨ d = 8 ∨ d = 9 ∨ d = 10 ∨ d = 11 ∨ d = 12 ∨ d = 13 ∨ d = 14 ∨ d = 15) with h | h | h | h | h | h | h | h | h | h | h | h | h | h | h | h <;> subst h <;> kernel_rfl

def textI (c : C4) (N : Nat) (pre : List Q4) (W : World) : Prop :=
  (W.cell? ⟨N + 1 + 1, 0, none⟩ = some (.slice (some ⟨N + 1, 0, none⟩) (2 * pre.length) 8) ∧ W.frozen? ⟨N + 1 + 1, 0, none⟩ = false) ∧
  W.ownsRow (N + 1) 5 1 (.slice (some ⟨N + 1, 0, none⟩) (2 * pre.length) 8) (2 * pre.length) ((hexOf c pre).map (.int .u8))

theorem textI_own (c : C4) (N : Nat) : Own (textI c N) := by
  rintro s A B row ⟨⟨h1, h2⟩, h3⟩ hg hr
  refine ⟨⟨cell_kept h1 hg hr, (frozen_kept h1 hg hr).trans h2⟩, h3.kept hg (.inr ?_)⟩
  intro e
  obtain ⟨o, ho, hc⟩ := hr (N + 1) (by simpa [Value.ownBlock] using e.symm)
  rcases h3.2 with ⟨h', _⟩ | ⟨g, cap, cur, h', _, hgb, _⟩
  · simp at h'
  · simp only [Value.slice.injEq, Option.some.injEq, Addr.mk.injEq, and_true, true_and] at h'
    obtain ⟨rfl, rfl⟩ := h'
    rw [hgb] at ho
    cases ho
    cases hc

theorem info_u8 : ∃ i : TypeInfo, Try.prog.info? 5 = some i ∧ i.size = 1 := by
  have h : (Try.prog.info? 5).isSome = true := by kernel_rfl
  exact ⟨(Try.prog.info? 5).get h, (Option.some_get h).symm, by kernel_rfl⟩
/-- a slice of two bytes -/
def twoAt (x y : Int) (v : Value) (w : World) : Prop := ∃ g, v = .slice (some ⟨g, 0, none⟩) 2 2 ∧ w.cell? ⟨g, 0, none⟩ = some (.int .u8 x) ∧ w.cell? ⟨g, 1, none⟩ = some (.int .u8 y)
theorem twoAt_stays (x y : Int) (v : Value) : Stays (twoAt x y v) := by
  rintro w w' hb ⟨g, rfl, h0, h1⟩
  have l0 := World.block_lt_of_cell? _ _ h0
  exact ⟨g, rfl, (hb.cell l0).trans h0, (hb.cell (p := ⟨g, 1, none⟩) l0).trans h1⟩

theorem ownsRow_near {w : World} {base : Nat} {e : TypeId} {size : Nat} {v : Value} {n : Nat} {xs : List Value} (h : w.ownsRow base e size v n xs) (m : Near w.heap.size w) : m.u.ownsRow base e size v n xs := by
  refine ⟨h.1, h.2.imp id ?_⟩
  rintro ⟨g, cap, cur, h1, h2, h3, h4⟩
  exact ⟨g, cap, cur, h1, h2, (m.h.block g (Array.getElem?_eq_some_iff.1 h3).1).trans h3, h4⟩

theorem text_step (c : C4) (w : World) (pre : List Q4) (q : Q4) (W : World) (hI : textI c w.heap.size pre W) (hB : Below w.heap.size w W) (m : Near W.heap.size W) (w' : World)
    (hr : w'.ownsRow (w.heap.size + 1) 5 1 (.slice (some ⟨w.heap.size + 1, 0, none⟩) (2 * pre.length + 2) 8) (2 * pre.length + 2) ((hexOf c pre).map (.int .u8) ++ [.int .u8 (hexDigit (c.part q / 16)), .int .u8 (hexDigit (c.part q % 16))]))
    (hg : m.u.grownBy w' (some (w.heap.size + 1))) :
    w'.cell? ⟨w.heap.size + 1 + 1, 0, none⟩ = some (.slice (some ⟨w.heap.size + 1, 0, none⟩) (2 * pre.length) 8) ∧ w'.frozen? ⟨w.heap.size + 1 + 1, 0, none⟩ = false ∧
    textI c w.heap.size (pre ++ [q]) (w'.setCell ⟨w.heap.size + 1 + 1, 0, none⟩ (.slice (some ⟨w.heap.size + 1, 0, none⟩) (2 * pre.length + 2) 8)) ∧ KeepsOthers W (w'.setCell ⟨w.heap.size + 1 + 1, 0, none⟩ (.slice (some ⟨w.heap.size + 1, 0, none⟩) (2 * pre.length + 2) 8)) ∧ Below w.heap.size w (w'.setCell ⟨w.heap.size + 1 + 1, 0, none⟩ (.slice (some ⟨w.heap.size + 1, 0, none⟩) (2 * pre.length + 2) 8)) := by
  obtain ⟨⟨ht, hz⟩, hrow⟩ := hI
  have l2 : w.heap.size + 1 + 1 < W.heap.size := World.block_lt_of_cell? _ _ ht
  have hsz := hB.size
  have m1 := m.h.size
  have c1 : w'.cell? ⟨w.heap.size + 1 + 1, 0, none⟩ = some (.slice (some ⟨w.heap.size + 1, 0, none⟩) (2 * pre.length) 8) := hg.cell ((near_cell W.heap.size m _ _ l2).trans ht) (by simp)
  have z1 : w'.frozen? ⟨w.heap.size + 1 + 1, 0, none⟩ = false := (World.frozen?_of_block (hg.block _ (by dsimp only; omega) (by simp))).trans ((near_frozen W.heap.size m _ _ l2).trans hz)
  have l3 : w.heap.size + 1 + 1 < w'.heap.size := World.block_lt_of_cell? _ _ c1
  refine ⟨c1, z1, ⟨⟨?_, ?_⟩, ?_⟩, ?_, ?_⟩
  · simp [go_sem, c1]; omega
  · simp [go_sem, z1]
  · rw [hexOf_snoc, List.map_append]
    have := ownsRow_setCell_other hr (a := ⟨w.heap.size + 1 + 1, 0, none⟩) (by simp [Value.ownBlock]) (.slice (some ⟨w.heap.size + 1, 0, none⟩) (2 * pre.length + 2) 8)
    rw [List.length_append, List.length_singleton, Nat.mul_add]
    exact this
  · refine ((keepsOthers_of m.h).trans (KeepsOthers.of_grownBy hg ?_)).trans (KeepsOthers.setCell _ _ _)
    rintro j o ⟨⟩ ho
    rcases (ownsRow_near hrow m).2 with ⟨h', _⟩ | ⟨g, cap, cur, h', _, hgb, _⟩
    · simp at h'
    · simp only [Value.slice.injEq, Option.some.injEq, Addr.mk.injEq, and_true, true_and] at h'
      obtain ⟨rfl, rfl⟩ := h'
      rw [hgb] at ho
      cases ho
      rfl
  · exact ((hB.trans (m.h.mono (by omega))).grown hg (by omega) (by rintro k ⟨⟩; omega)).setCell (p := ⟨w.heap.size + 1 + 1, 0, none⟩) (by dsimp only; omega) _

set_option maxHeartbeats 1000000 in
theorem text_any (c : C4) (hc : c.ok) (w : World) :
    Calls Try.prog 23 #[c.val] w fun e w' => e = .returned (.string (strOfNums (hexOf c all4))) ∧ Below w.heap.size w w' := by
  have hmk : ∀ w : World, (Instr.makeSlice 71 (.int .i64 0) (.int .i64 8)).run Try.prog w = .ok (.slice (some ⟨w.heap.size, 0, none⟩) 0 8) (w.alloc (.cells #[.int .u8 0, .int .u8 0, .int .u8 0, .int .u8 0, .int .u8 0, .int .u8 0, .int .u8 0, .int .u8 0] 5)) := fun _ => by kernel_rfl
  refine (callsIn_wide (n := 4)).1 ?_
  refine callsIn_of_wp_marks Try.func23 rfl trivial ?_ rfl
  simp only [Try.ntmps23, List.size_toArray, List.length_cons, List.length_nil, Nat.reduceAdd, Nat.reduceSub, Array.replicate_succ, Array.replicate_zero, List.push_toArray, List.append_toArray, List.nil_append, List.cons_append]
  refine wpIn_wide.2 ?_
  go_wp2_with fail
  refine (partsOf_any _ _ _ _ _).mono ?_
  rintro e w1 ⟨rfl, hb1⟩
  have q1 := hb1.cell (p := ⟨w.heap.size + 1 + 1, 0, none⟩) (by simp)
  have z1 := hb1.frozen (p := ⟨w.heap.size + 1 + 1, 0, none⟩) (by simp)
  have r1 := hb1.block (w.heap.size + 1) (by simp)
  have s1 := hb1.size
  simp [go_sem] at q1 z1 s1
  have m2 : w.heap.size + 1 + 1 < w1.heap.size := by omega
  go_wp2_with fail
  refine (told_any c _).mono ?_
  rintro e w3 ⟨rfl, rfl⟩
  go_wp2_with fail
  have hst : textI c w.heap.size [] (w1.alloc (.cells #[.int .u8 c.r, .int .u8 c.g, .int .u8 c.b, .int .u8 c.a] 64)) := by
    refine ⟨⟨?_, ?_⟩, ?_⟩
    · rw [World.cell?_alloc_past _ _ _ m2, q1]; rfl
    · rw [World.frozen?_alloc_past _ _ _ m2, z1]
    · refine World.ownsRow.alloc ?_ _
      refine ⟨rfl, .inr ⟨w.heap.size + 1, 8, #[.int .u8 0, .int .u8 0, .int .u8 0, .int .u8 0, .int .u8 0, .int .u8 0, .int .u8 0, .int .u8 0], rfl, Nat.le_refl _, r1.trans ?_, by decide, by decide, rfl, rfl⟩⟩
      rw [Below.heap_alloc _ _ _ (by simp)]
      have := World.alloc_heap_new (w.alloc (.cells #[.int .u8 c.r, .int .u8 c.g, .int .u8 c.b, .int .u8 c.a] 26)) (.cells #[.int .u8 0, .int .u8 0, .int .u8 0, .int .u8 0, .int .u8 0, .int .u8 0, .int .u8 0, .int .u8 0] 5)
      simpa using this
  have hB3 : Below w.heap.size w (w1.alloc (.cells #[.int .u8 c.r, .int .u8 c.g, .int .u8 c.b, .int .u8 c.a] 64)) := by
    refine Below.alloc (Below.trans ?_ (hb1.mono (by simp; omega))) (by omega) _
    exact ((((Below.refl _ _).alloc (Nat.le_refl _) _).alloc (by simp) _).alloc (by simp; omega) _)
  clear q1 z1 r1 hb1 hmk
  refine (wpIn_wide (n := 4)).1 ?_
  refine wpIn_rangeFunc_ownF (F := Fence.wide) (Kp := fun _ _ => True) rfl (by omega) (gf := 44) (lb := #[.pointer (some ⟨w1.heap.size, 0, none⟩)]) rfl trivial (enters_of Try.func44 (by kernel_rfl) rfl)
    (told_stops Fence.wide 3 trivial rfl (by omega) c w1.heap.size (w1.alloc (.cells #[.int .u8 c.r, .int .u8 c.g, .int .u8 c.b, .int .u8 c.a] 64)) (by refine ⟨by simp, ⟨?_, ?_, ?_, ?_⟩, ?_, ?_, ?_, ?_⟩ <;> simp [go_sem])) (fun _ _ => trivial) (fun _ _ _ _ _ _ _ _ => trivial) (Below.refl _ _) (fun _ => rfl)
    (fun pre W => textI c w.heap.size pre W ∧ Below w.heap.size w W)
    (fun _ _ _ => False)
    (OwnFrom.and (Own.from (textI_own c w.heap.size) _) (ownFrom_below (Nat.le_refl _) (by simp; omega)))
    (fun _ _ _ _ _ hs _ _ => hs)
    ⟨hst, hB3⟩
    (fun x => { tmps := #[c.val, .pointer (some ⟨w.heap.size, 0, none⟩), .string ⟨#[]⟩, .pointer (some ⟨w.heap.size + 1 + 1, 0, none⟩), undef, .int .u8 (c.part x), .slice (some ⟨w.heap.size + 1, 0, none⟩) 0 8, col c.r c.g c.b c.a, col c.r c.g c.b c.a, .func (.func 44) #[] #[.pointer (some ⟨w1.heap.size, 0, none⟩)], .int .i64 x.idx, .int .u8 (c.part x), undef, undef, undef, undef, undef, undef, undef, undef, undef, undef, undef], defers := [] }) ?assign ?body ?done ?stop
  case assign =>
    intro l x W K hK
    unfold encP
    gi_wp2
    exact hK
  case body =>
    rintro l pre x W ⟨⟨⟨ht, hz⟩, hrow⟩, hB⟩ hlen
    have HB := Lib.hid hB
    have l2 : w.heap.size + 1 + 1 < W.heap.size := World.block_lt_of_cell? _ _ ht
    have hn := @near_cell W.heap.size
    have hf := @near_frozen W.heap.size
    clear hst hB3 hB
    cases x
    · simp only [C4.part]
      obtain ⟨y0, y1⟩ := hc.1
      have g1 : 0 ≤ c.r / 16 := by omega
      have g2 : c.r / 16 < 16 := by omega
      have g3 : 0 ≤ c.r % 16 := by omega
      have g4 : c.r % 16 < 16 := by omega
      have x1 := index_hex (c.r / 16) g1 g2
      have x2 := index_hex (c.r % 16) g3 g4
      clear g1 g2 g3 g4
      refine wpIn_block ?_
      refine wpIn_region_dep W.heap.size 8 (by kernel_rfl) (by kernel_rfl) (by rfl) (by rfl) (Nat.le_refl _) ?_
      simp only [List.take_succ_cons, List.take_zero, List.drop_succ_cons, List.drop_zero]
      have hx2 : bits .and .u8 c.r 15 = c.r % 16 := u8_and_low c.r y0 y1
      iterate 7 (refine wpDep_plain (by rfl) (fun K hK => ?_); go_simp; (try simp only [x1, x2, hx2]); (try go_simp); (refine hK _ ?_; clear hK K))
      refine wpDep_make (twoAt (hexDigit (c.r / 16)) (hexDigit (c.r % 16))) (by rfl) (by rfl) (twoAt_stays _ _) (by rfl) ?_ ?_
      · intro n
        go_simp
        exact ⟨(Below.refl _ _).alloc (Nat.le_refl _) _, n.u.heap.size, rfl, by simp [go_sem], by simp [go_sem]⟩
      refine wpDep_nil ?_
      intro f m hf
      obtain ⟨g, hv, d0, d1⟩ := hf _ (List.mem_cons_self ..)
      simp only [fillV]
      rw [hv]
      go_simp
      have hr2 := ownsRow_near hrow m
      obtain ⟨ti, hti, hts⟩ := info_u8
      refine wpListIn_append_fits m.u rfl (.tmp 12) (.tmp 19) 71 rfl (w.heap.size + 1) 5 ti 1 (by kernel_rfl) hti hts (w.heap.size + 1) (2 * pre.length) 8 _ rfl hr2 ⟨g, 0, none⟩ 2 2 [.int .u8 (hexDigit (c.r / 16)), .int .u8 (hexDigit (c.r % 16))] rfl rfl ?hcell ?hone (by have := hlen; omega) ?_
      case hcell =>
        intro j u hj
        match j, hj with
        | 0, hj => obtain rfl := Option.some.inj hj; exact d0
        | 1, hj => obtain rfl := Option.some.inj hj; exact d1
        | j + 2, hj => simp at hj
      case hone => intro u hu; simp at hu; rcases hu with rfl | rfl <;> rfl
      intro w' hrow2 hg2
      obtain ⟨k1, k2, k3, k4, k5⟩ := text_step c w pre .r W ⟨⟨ht, hz⟩, hrow⟩ HB.out m w' hrow2 hg2
      gi_wp2
      exact ⟨k4, trivial, k3, k5⟩
    · simp only [C4.part]
      obtain ⟨y0, y1⟩ := hc.2.1
      have g1 : 0 ≤ c.g / 16 := by omega
      have g2 : c.g / 16 < 16 := by omega
      have g3 : 0 ≤ c.g % 16 := by omega
      have g4 : c.g % 16 < 16 := by omega
      have x1 := index_hex (c.g / 16) g1 g2
      have x2 := index_hex (c.g % 16) g3 g4
      clear g1 g2 g3 g4
      refine wpIn_block ?_
      refine wpIn_region_dep W.heap.size 8 (by kernel_rfl) (by kernel_rfl) (by rfl) (by rfl) (Nat.le_refl _) ?_
      simp only [List.take_succ_cons, List.take_zero, List.drop_succ_cons, List.drop_zero]
      have hx2 : bits .and .u8 c.g 15 = c.g % 16 := u8_and_low c.g y0 y1
      iterate 7 (refine wpDep_plain (by rfl) (fun K hK => ?_); go_simp; (try simp only [x1, x2, hx2]); (try go_simp); (refine hK _ ?_; clear hK K))
      refine wpDep_make (twoAt (hexDigit (c.g / 16)) (hexDigit (c.g % 16))) (by rfl) (by rfl) (twoAt_stays _ _) (by rfl) ?_ ?_
      · intro n
        go_simp
        exact ⟨(Below.refl _ _).alloc (Nat.le_refl _) _, n.u.heap.size, rfl, by simp [go_sem], by simp [go_sem]⟩
      refine wpDep_nil ?_
      intro f m hf
      obtain ⟨g, hv, d0, d1⟩ := hf _ (List.mem_cons_self ..)
      simp only [fillV]
      rw [hv]
      go_simp
      have hr2 := ownsRow_near hrow m
      obtain ⟨ti, hti, hts⟩ := info_u8
      refine wpListIn_append_fits m.u rfl (.tmp 12) (.tmp 19) 71 rfl (w.heap.size + 1) 5 ti 1 (by kernel_rfl) hti hts (w.heap.size + 1) (2 * pre.length) 8 _ rfl hr2 ⟨g, 0, none⟩ 2 2 [.int .u8 (hexDigit (c.g / 16)), .int .u8 (hexDigit (c.g % 16))] rfl rfl ?hcell ?hone (by have := hlen; omega) ?_
      case hcell =>
        intro j u hj
        match j, hj with
        | 0, hj => obtain rfl := Option.some.inj hj; exact d0
        | 1, hj => obtain rfl := Option.some.inj hj; exact d1
        | j + 2, hj => simp at hj
      case hone => intro u hu; simp at hu; rcases hu with rfl | rfl <;> rfl
      intro w' hrow2 hg2
      obtain ⟨k1, k2, k3, k4, k5⟩ := text_step c w pre .g W ⟨⟨ht, hz⟩, hrow⟩ HB.out m w' hrow2 hg2
      gi_wp2
      exact ⟨k4, trivial, k3, k5⟩
    · simp only [C4.part]
      obtain ⟨y0, y1⟩ := hc.2.2.1
      have g1 : 0 ≤ c.b / 16 := by omega
      have g2 : c.b / 16 < 16 := by omega
      have g3 : 0 ≤ c.b % 16 := by omega
      have g4 : c.b % 16 < 16 := by omega
      have x1 := index_hex (c.b / 16) g1 g2
      have x2 := index_hex (c.b % 16) g3 g4
      clear g1 g2 g3 g4
      refine wpIn_block ?_
      refine wpIn_region_dep W.heap.size 8 (by kernel_rfl) (by kernel_rfl) (by rfl) (by rfl) (Nat.le_refl _) ?_
      simp only [List.take_succ_cons, List.take_zero, List.drop_succ_cons, List.drop_zero]
      have hx2 : bits .and .u8 c.b 15 = c.b % 16 := u8_and_low c.b y0 y1
      iterate 7 (refine wpDep_plain (by rfl) (fun K hK => ?_); go_simp; (try simp only [x1, x2, hx2]); (try go_simp); (refine hK _ ?_; clear hK K))
      refine wpDep_make (twoAt (hexDigit (c.b / 16)) (hexDigit (c.b % 16))) (by rfl) (by rfl) (twoAt_stays _ _) (by rfl) ?_ ?_
      · intro n
        go_simp
        exact ⟨(Below.refl _ _).alloc (Nat.le_refl _) _, n.u.heap.size, rfl, by simp [go_sem], by simp [go_sem]⟩
      refine wpDep_nil ?_
      intro f m hf
      obtain ⟨g, hv, d0, d1⟩ := hf _ (List.mem_cons_self ..)
      simp only [fillV]
      rw [hv]
      go_simp
      have hr2 := ownsRow_near hrow m
      obtain ⟨ti, hti, hts⟩ := info_u8
      refine wpListIn_append_fits m.u rfl (.tmp 12) (.tmp 19) 71 rfl (w.heap.size + 1) 5 ti 1 (by kernel_rfl) hti hts (w.heap.size + 1) (2 * pre.length) 8 _ rfl hr2 ⟨g, 0, none⟩ 2 2 [.int .u8 (hexDigit (c.b / 16)), .int .u8 (hexDigit (c.b % 16))] rfl rfl ?hcell ?hone (by have := hlen; omega) ?_
      case hcell =>
        intro j u hj
        match j, hj with
        | 0, hj => obtain rfl := Option.some.inj hj; exact d0
        | 1, hj => obtain rfl := Option.some.inj hj; exact d1
        | j + 2, hj => simp at hj
      case hone => intro u hu; simp at hu; rcases hu with rfl | rfl <;> rfl
      intro w' hrow2 hg2
      obtain ⟨k1, k2, k3, k4, k5⟩ := text_step c w pre .b W ⟨⟨ht, hz⟩, hrow⟩ HB.out m w' hrow2 hg2
      gi_wp2
      exact ⟨k4, trivial, k3, k5⟩
    · simp only [C4.part]
      obtain ⟨y0, y1⟩ := hc.2.2.2
      have g1 : 0 ≤ c.a / 16 := by omega
      have g2 : c.a / 16 < 16 := by omega
      have g3 : 0 ≤ c.a % 16 := by omega
      have g4 : c.a % 16 < 16 := by omega
      have x1 := index_hex (c.a / 16) g1 g2
      have x2 := index_hex (c.a % 16) g3 g4
      clear g1 g2 g3 g4
      refine wpIn_block ?_
      refine wpIn_region_dep W.heap.size 8 (by kernel_rfl) (by kernel_rfl) (by rfl) (by rfl) (Nat.le_refl _) ?_
      simp only [List.take_succ_cons, List.take_zero, List.drop_succ_cons, List.drop_zero]
      have hx2 : bits .and .u8 c.a 15 = c.a % 16 := u8_and_low c.a y0 y1
      iterate 7 (refine wpDep_plain (by rfl) (fun K hK => ?_); go_simp; (try simp only [x1, x2, hx2]); (try go_simp); (refine hK _ ?_; clear hK K))
      refine wpDep_make (twoAt (hexDigit (c.a / 16)) (hexDigit (c.a % 16))) (by rfl) (by rfl) (twoAt_stays _ _) (by rfl) ?_ ?_
      · intro n
        go_simp
        exact ⟨(Below.refl _ _).alloc (Nat.le_refl _) _, n.u.heap.size, rfl, by simp [go_sem], by simp [go_sem]⟩
      refine wpDep_nil ?_
      intro f m hf
      obtain ⟨g, hv, d0, d1⟩ := hf _ (List.mem_cons_self ..)
      simp only [fillV]
      rw [hv]
      go_simp
      have hr2 := ownsRow_near hrow m
      obtain ⟨ti, hti, hts⟩ := info_u8
      refine wpListIn_append_fits m.u rfl (.tmp 12) (.tmp 19) 71 rfl (w.heap.size + 1) 5 ti 1 (by kernel_rfl) hti hts (w.heap.size + 1) (2 * pre.length) 8 _ rfl hr2 ⟨g, 0, none⟩ 2 2 [.int .u8 (hexDigit (c.a / 16)), .int .u8 (hexDigit (c.a % 16))] rfl rfl ?hcell ?hone (by have := hlen; omega) ?_
      case hcell =>
        intro j u hj
        match j, hj with
        | 0, hj => obtain rfl := Option.some.inj hj; exact d0
        | 1, hj => obtain rfl := Option.some.inj hj; exact d1
        | j + 2, hj => simp at hj
      case hone => intro u hu; simp at hu; rcases hu with rfl | rfl <;> rfl
      intro w' hrow2 hg2
      obtain ⟨k1, k2, k3, k4, k5⟩ := text_step c w pre .a W ⟨⟨ht, hz⟩, hrow⟩ HB.out m w' hrow2 hg2
      gi_wp2
      exact ⟨k4, trivial, k3, k5⟩
  case done =>
    rintro D ys W hD rfl ⟨⟨⟨ht, hz⟩, hrow⟩, hB⟩ hK
    have l2 : w.heap.size + 1 + 1 < W.heap.size := World.block_lt_of_cell? _ _ ht
    have hcv := run_convert_bytes_arg (P := Try.prog) W 71 5 (by kernel_rfl) (by kernel_rfl) (w.heap.size + 1) 0 (2 * all4.length) 8 (hexOf c all4) (hexOf_len c all4)
      (by
        intro i hi
        rw [hrow.cellAt (0 + i) (by omega), List.getElem?_map]
        have : i < (hexOf c all4).length := by rw [hexOf_len]; exact hi
        simp [List.getD_eq_getElem?_getD, List.getElem?_eq_getElem this])
      9 (by kernel_rfl)
    go_wp2
    refine ⟨by simp, .inl ⟨_, _, rfl, run_takeDeferred hK, ?_⟩⟩
    exact ⟨_, results_tmp rfl _ _ _, rfl, hB.trans (belowK_b (w := w) (Nat.le_refl _) W D _ _ (by simp at hD; omega) hK rfl rfl)⟩
  case stop =>
    rintro D c pre W hD _ h hK
    exact h.elim
end Go.Proofs.Ytcfollajmmlfnaa
