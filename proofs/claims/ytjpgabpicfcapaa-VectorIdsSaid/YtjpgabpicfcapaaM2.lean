/- The document's answers of layer 13: Join, Meet. -/
import Derived.Test.YtjpgabpicfcapaaM1
namespace Go.Proofs.Ytjpgabpicfcapaa
open Go.RowKit

def mergeTo (c : Int → Int → Int) (v u : V) (k : Nat) : V := fun j => if j < k then c (v j) (u j) else v j
def mergeAll (c : Int → Int → Int) (v u : V) : V := mergeTo c v u 9
def foldAll (c : Int → Int → Int) (v : V) (l : List V) : V := l.foldl (mergeAll c) v
theorem mergeTo_zero (c : Int → Int → Int) (v u : V) : mergeTo c v u 0 = v := by funext j; simp [mergeTo]
theorem mergeTo_at (c : Int → Int → Int) (v u : V) (k : Nat) : mergeTo c v u k k = v k := by simp [mergeTo]
theorem mergeTo_set (c : Int → Int → Int) (v u : V) (k : Nat) (x : Int) (h : c (v k) (u k) = x) : (mergeTo c v u k).set k x = mergeTo c v u (k + 1) := by
  funext j; unfold V.set mergeTo
  by_cases e : j = k
  · subst e; rw [if_pos rfl, if_pos (by omega), h]
  · rw [if_neg e]
    by_cases h2 : j < k
    · rw [if_pos h2, if_pos (by omega)]
    · rw [if_neg h2, if_neg (by omega)]
theorem mergeTo_keep (c : Int → Int → Int) (v u : V) (k : Nat) (h : c (v k) (u k) = v k) : mergeTo c v u k = mergeTo c v u (k + 1) := by
  rw [← mergeTo_set c v u k (v k) h]
  funext j; unfold V.set
  split
  · rename_i e; subst e; exact mergeTo_at c v u j
  · rfl
theorem foldAll_snoc (c : Int → Int → Int) (v : V) (l : List V) (k : Nat) (h : k < l.length) : foldAll c v (l.take (k + 1)) = mergeAll c (foldAll c v (l.take k)) l[k] := by
  unfold foldAll
  rw [List.take_succ_eq_append_getElem h, List.foldl_append]; rfl
theorem allMay_snoc (l : List V) (k : Nat) (h : k < l.length) : allMay (l.take (k + 1)) = (allMay (l.take k) && (l[k]).may) := by
  unfold allMay
  rw [List.take_succ_eq_append_getElem h, List.all_append]; simp
theorem vecIn_same {w : World} {b : Nat} {u v : V} (h : vecIn w b u) (e : u = v) : vecIn w b v := e ▸ h

theorem vecIn_put9 {w : World} {g : Nat} {u : V} (h : vecIn w g u) (v : V) : vecIn (((((((((w.setCell ⟨g, 0, none⟩ (.int .u64 (v 0))).setCell ⟨g, 1, none⟩ (.int .u64 (v 1))).setCell ⟨g, 2, none⟩ (.int .u64 (v 2))).setCell ⟨g, 3, none⟩ (.int .u64 (v 3))).setCell ⟨g, 4, none⟩ (.int .u64 (v 4))).setCell ⟨g, 5, none⟩ (.int .u64 (v 5))).setCell ⟨g, 6, none⟩ (.int .u64 (v 6))).setCell ⟨g, 7, none⟩ (.int .u64 (v 7))).setCell ⟨g, 8, none⟩ (.int .u64 (v 8))) g v := by
  have := vecIn_set (vecIn_set (vecIn_set (vecIn_set (vecIn_set (vecIn_set (vecIn_set (vecIn_set (vecIn_set h 0 (by omega) (v 0)) 1 (by omega) (v 1)) 2 (by omega) (v 2)) 3 (by omega) (v 3)) 4 (by omega) (v 4)) 5 (by omega) (v 5)) 6 (by omega) (v 6)) 7 (by omega) (v 7)) 8 (by omega) (v 8)
  unfold vecIn at this ⊢
  rwa [vecL_ext (v := v) (fun k hk => by
    match k, hk with
    | 0, _ => rfl
    | 1, _ => rfl
    | 2, _ => rfl
    | 3, _ => rfl
    | 4, _ => rfl
    | 5, _ => rfl
    | 6, _ => rfl
    | 7, _ => rfl
    | 8, _ => rfl)] at this
set_option maxRecDepth 4000 in
set_option maxHeartbeats 2000000 in
theorem refJoin_any (v : V) (hv : v.rng) (l : List V) (hl : ∀ u ∈ l, u.rng) (ad : Option Addr) (cap : Nat) (w : World) (hr : rowVec w ad l) (hmax : l.length ≤ 6) :
    Calls Try.prog 22 #[vec v, .slice ad l.length cap] w fun e w' => e = .returned (.tuple #[vec (foldAll (fun x y : Int => max x y) v l), .bool (v.may && allMay l)]) ∧ Below w.heap.size w w' := by
  have HR := Lib.hid hr
  have HV := Lib.hid hv
  have HL := Lib.hid hl
  clear hr hv hl
  go_enter Try.func22, Try.ntmps22
  go_wp2_with fail
  refine (refRight_any v HV.out _).mono ?_
  rintro e w1 ⟨rfl, hB⟩
  have hb1 := Lib.hid (show Below w.heap.size w w1 from (((Below.refl _ _).alloc (Nat.le_refl _) _).alloc (by simp) _).trans (hB.mono (by simp <;> omega)))
  have G := Lib.hid (show vecIn w1 w.heap.size v from holds_below (holds_alloc (vecIn_new w v) _) hB (by simp <;> omega))
  have Z := Lib.hid (show vecIn w1 (w.heap.size + 1) V.zero from by
    have := vecIn_new (w.alloc (.cells (vecA v) 24)) V.zero
    rw [World.size_alloc] at this
    exact holds_below this hB (by simp <;> omega))
  clear hB
  go_wp2_with fail
  go_loopw [6, 15] (fun o i wr => ∃ k : Nat, k ≤ l.length ∧ i = .int .i64 k ∧ ∃ b : Bool, o = .bool b ∧ b = (v.may && allMay (l.take k)) ∧ vecIn wr w.heap.size (foldAll (fun x y : Int => max x y) v (l.take k)) ∧ vecIn wr (w.heap.size + 1) V.zero ∧ Below w.heap.size w wr)
    (fun _ i _ => l.length - (intOf i).toNat)
  case atStart => exact ⟨0, Nat.zero_le _, rfl, _, rfl, (by simp [allMay]), G.out, Z.out, hb1.out⟩
  case round =>
    obtain ⟨k, hk, rfl, b, rfl, hb, hg, hz, hB⟩ := hrel
    clear G Z hb1
    have HB := Lib.hid hb
    by_cases hlt : k < l.length
    · obtain ⟨p, off, rfl, hc⟩ := (rowV_below HR.out hB).2.resolve_left (by intro e; subst e; simp at hlt)
      have hc0 := row_cells hc k hlt
      have d0 := hc0 0 (by omega)
      have d1 := hc0 1 (by omega)
      have d2 := hc0 2 (by omega)
      have d3 := hc0 3 (by omega)
      have d4 := hc0 4 (by omega)
      have d5 := hc0 5 (by omega)
      have d6 := hc0 6 (by omega)
      have d7 := hc0 7 (by omega)
      have d8 := hc0 8 (by omega)
      simp only [Nat.add_zero] at d0
      have HF := Lib.hid (foldAll_snoc (fun x y : Int => max x y) v l k hlt)
      have HM := Lib.hid (allMay_snoc l k hlt)
      have HU := Lib.hid (HL.out l[k] (List.getElem_mem hlt))
      clear hc hc0 hb
      generalize hu : l[k] = u at *
      generalize foldAll (fun x y : Int => max x y) v (l.take k) = cur at *
      have G := Lib.hid hg
      have Z := Lib.hid hz
      have HBB := Lib.hid hB
      have lg := hg.lt
      have hsz := hB.size
      clear hg hz hB hu
      cases b with
      | false =>
        go_wp2_with fail
        clear d0 d1 d2 d3 d4 d5 d6 d7 d8
        have G3 := Lib.hid (holds_alloc G.out (.cells (vecA u) 24))
        have Z3 := Lib.hid (holds_alloc Z.out (.cells (vecA u) 24))
        have B3 := Lib.hid (HBB.out.alloc hsz (.cells (vecA u) 24))
        clear G Z HBB lg hsz
        go_loopw [9, 10, 25] (fun _ _ i wr => ∃ j : Nat, j ≤ 9 ∧ i = .int .i64 j ∧ vecIn wr w.heap.size (mergeTo (fun x y : Int => max x y) cur u j) ∧ vecIn wr (w.heap.size + 1) V.zero ∧ Below w.heap.size w wr)
          (fun _ _ i _ => 9 - (intOf i).toNat)
        case atStart => exact ⟨0, by omega, rfl, vecIn_same G3.out (mergeTo_zero _ _ _).symm, Z3.out, B3.out⟩
        case round =>
          obtain ⟨j, hj, rfl, hg, hz, hB⟩ := hrel
          by_cases hjl : j < 9
          · have hix := fun W => index_vec W u j hjl
            have ck := hg.at j hjl
            have fk := hg.free j hjl
            rw [mergeTo_at] at ck
            have G := Lib.hid hg
            have Z := Lib.hid hz
            have BB := Lib.hid hB
            clear hg hz hB G3 Z3 B3
            by_cases hcmp : cur j < u j
            · have E := Lib.hid (mergeTo_set (fun x y : Int => max x y) cur u j (u j) (by omega))
              go_wp2_with fail
              refine ⟨⟨j + 1, by omega, by go_num, vecIn_same (vecIn_set G.out j hjl _) E.out, holds_other Z.out (by omega) _, BB.out.setCell (Nat.le_refl _) _⟩, ?_⟩
              simp [intOf]; omega
            · have E := Lib.hid (mergeTo_keep (fun x y : Int => max x y) cur u j (by omega))
              go_wp2_with fail
              refine ⟨⟨j + 1, by omega, by go_num, vecIn_same G.out E.out, Z.out, BB.out⟩, ?_⟩
              simp [intOf]; omega
          · obtain rfl : j = 9 := by omega
            have G := Lib.hid hg
            have Z := Lib.hid hz
            have BB := Lib.hid hB
            clear hg hz hB G3 Z3 B3
            go_wp2_with fail
            refine ⟨⟨k + 1, hlt, by go_num, _, rfl, (by rw [HM.out, ← Bool.and_assoc, ← HB.out]; rfl), vecIn_same G.out HF.out.symm, Z.out, BB.out⟩, ?_⟩
            simp [intOf]; omega
      | true =>
        go_wp2_with fail
        refine (refRight_any u HU.out _).mono ?_
        rintro e w5 ⟨rfl, hB⟩
        clear d0 d1 d2 d3 d4 d5 d6 d7 d8
        have G3 := Lib.hid (holds_below (holds_alloc G.out (.cells (vecA u) 24)) hB (by simp; omega))
        have Z3 := Lib.hid (holds_below (holds_alloc Z.out (.cells (vecA u) 24)) hB (by simp; have := Z.out.lt; omega))
        have B3 := Lib.hid ((HBB.out.alloc hsz (.cells (vecA u) 24)).trans (hB.mono (by simp; omega)))
        have hq : vecIn w5 wr.heap.size u := holds_below (vecIn_new wr u) hB (by simp)
        obtain ⟨e0, e1, e2, e3, e4, e5, e6, e7, e8⟩ := vecIn.cells hq
        clear hq hB G Z HBB lg hsz
        go_wp2_with fail
        clear e0 e1 e2 e3 e4 e5 e6 e7 e8
        go_loopw [9, 10, 25] (fun _ _ i wr => ∃ j : Nat, j ≤ 9 ∧ i = .int .i64 j ∧ vecIn wr w.heap.size (mergeTo (fun x y : Int => max x y) cur u j) ∧ vecIn wr (w.heap.size + 1) V.zero ∧ Below w.heap.size w wr)
          (fun _ _ i _ => 9 - (intOf i).toNat)
        case atStart => exact ⟨0, by omega, rfl, vecIn_same G3.out (mergeTo_zero _ _ _).symm, Z3.out, B3.out⟩
        case round =>
          obtain ⟨j, hj, rfl, hg, hz, hB⟩ := hrel
          by_cases hjl : j < 9
          · have hix := fun W => index_vec W u j hjl
            have ck := hg.at j hjl
            have fk := hg.free j hjl
            rw [mergeTo_at] at ck
            have G := Lib.hid hg
            have Z := Lib.hid hz
            have BB := Lib.hid hB
            clear hg hz hB G3 Z3 B3
            by_cases hcmp : cur j < u j
            · have E := Lib.hid (mergeTo_set (fun x y : Int => max x y) cur u j (u j) (by omega))
              go_wp2_with fail
              refine ⟨⟨j + 1, by omega, by go_num, vecIn_same (vecIn_set G.out j hjl _) E.out, holds_other Z.out (by omega) _, BB.out.setCell (Nat.le_refl _) _⟩, ?_⟩
              simp [intOf]; omega
            · have E := Lib.hid (mergeTo_keep (fun x y : Int => max x y) cur u j (by omega))
              go_wp2_with fail
              refine ⟨⟨j + 1, by omega, by go_num, vecIn_same G.out E.out, Z.out, BB.out⟩, ?_⟩
              simp [intOf]; omega
          · obtain rfl : j = 9 := by omega
            have G := Lib.hid hg
            have Z := Lib.hid hz
            have BB := Lib.hid hB
            clear hg hz hB G3 Z3 B3
            go_wp2_with fail
            refine ⟨⟨k + 1, hlt, by go_num, _, rfl, (by rw [HM.out, ← Bool.and_assoc, ← HB.out]; rfl), vecIn_same G.out HF.out.symm, Z.out, BB.out⟩, ?_⟩
            simp [intOf]; omega
    · obtain rfl : k = l.length := by omega
      rw [List.take_length] at hb hg
      have HO := Lib.hid hb
      obtain ⟨cur, hcu⟩ : ∃ cur, foldAll (fun x y : Int => max x y) v l = cur := ⟨_, rfl⟩
      rw [hcu] at hg
      have HCU := Lib.hid hcu
      clear hcu
      obtain ⟨a0, a1, a2, a3, a4, a5, a6, a7, a8⟩ := vecIn.cells hg
      obtain ⟨z0, z1, z2, z3, z4, z5, z6, z7, z8⟩ := vecIn.cells hz
      have f0 := hz.free 0 (by omega)
      have f1 := hz.free 1 (by omega)
      have f2 := hz.free 2 (by omega)
      have f3 := hz.free 3 (by omega)
      have f4 := hz.free 4 (by omega)
      have f5 := hz.free 5 (by omega)
      have f6 := hz.free 6 (by omega)
      have f7 := hz.free 7 (by omega)
      have f8 := hz.free 8 (by omega)
      have Z := Lib.hid hz
      have BB := Lib.hid hB
      clear hb hg hz hB HB
      go_wp2_with fail
      clear a0 a1 a2 a3 a4 a5 a6 a7 a8 z0 z1 z2 z3 z4 z5 z6 z7 z8 f0 f1 f2 f3 f4 f5 f6 f7 f8
      refine ⟨rfl, .tuple #[vec cur, .bool b], ?_, by rw [HO.out, HCU.out], ?_⟩
      · obtain ⟨m0, m1, m2, m3, m4, m5, m6, m7, m8⟩ := vecIn.cells (vecIn_put9 Z.out cur)
        simp [results, Try.results22, go_sem, m0, m1, m2, m3, m4, m5, m6, m7, m8]
      · exact ((((((((BB.out.setCell (p := ⟨w.heap.size + 1, 0, none⟩) (by dsimp only; omega) _).setCell (p := ⟨w.heap.size + 1, 1, none⟩) (by dsimp only; omega) _).setCell (p := ⟨w.heap.size + 1, 2, none⟩) (by dsimp only; omega) _).setCell (p := ⟨w.heap.size + 1, 3, none⟩) (by dsimp only; omega) _).setCell (p := ⟨w.heap.size + 1, 4, none⟩) (by dsimp only; omega) _).setCell (p := ⟨w.heap.size + 1, 5, none⟩) (by dsimp only; omega) _).setCell (p := ⟨w.heap.size + 1, 6, none⟩) (by dsimp only; omega) _).setCell (p := ⟨w.heap.size + 1, 7, none⟩) (by dsimp only; omega) _).setCell (p := ⟨w.heap.size + 1, 8, none⟩) (by dsimp only; omega) _
set_option maxRecDepth 4000 in
set_option maxHeartbeats 2000000 in
theorem refMeet_any (v : V) (hv : v.rng) (l : List V) (hl : ∀ u ∈ l, u.rng) (ad : Option Addr) (cap : Nat) (w : World) (hr : rowVec w ad l) (hmax : l.length ≤ 6) :
    Calls Try.prog 23 #[vec v, .slice ad l.length cap] w fun e w' => e = .returned (.tuple #[vec (foldAll (fun x y : Int => min x y) v l), .bool (v.may && allMay l)]) ∧ Below w.heap.size w w' := by
  have HR := Lib.hid hr
  have HV := Lib.hid hv
  have HL := Lib.hid hl
  clear hr hv hl
  go_enter Try.func23, Try.ntmps23
  go_wp2_with fail
  refine (refRight_any v HV.out _).mono ?_
  rintro e w1 ⟨rfl, hB⟩
  have hb1 := Lib.hid (show Below w.heap.size w w1 from (((Below.refl _ _).alloc (Nat.le_refl _) _).alloc (by simp) _).trans (hB.mono (by simp <;> omega)))
  have G := Lib.hid (show vecIn w1 w.heap.size v from holds_below (holds_alloc (vecIn_new w v) _) hB (by simp <;> omega))
  have Z := Lib.hid (show vecIn w1 (w.heap.size + 1) V.zero from by
    have := vecIn_new (w.alloc (.cells (vecA v) 24)) V.zero
    rw [World.size_alloc] at this
    exact holds_below this hB (by simp <;> omega))
  clear hB
  go_wp2_with fail
  go_loopw [6, 15] (fun o i wr => ∃ k : Nat, k ≤ l.length ∧ i = .int .i64 k ∧ ∃ b : Bool, o = .bool b ∧ b = (v.may && allMay (l.take k)) ∧ vecIn wr w.heap.size (foldAll (fun x y : Int => min x y) v (l.take k)) ∧ vecIn wr (w.heap.size + 1) V.zero ∧ Below w.heap.size w wr)
    (fun _ i _ => l.length - (intOf i).toNat)
  case atStart => exact ⟨0, Nat.zero_le _, rfl, _, rfl, (by simp [allMay]), G.out, Z.out, hb1.out⟩
  case round =>
    obtain ⟨k, hk, rfl, b, rfl, hb, hg, hz, hB⟩ := hrel
    clear G Z hb1
    have HB := Lib.hid hb
    by_cases hlt : k < l.length
    · obtain ⟨p, off, rfl, hc⟩ := (rowV_below HR.out hB).2.resolve_left (by intro e; subst e; simp at hlt)
      have hc0 := row_cells hc k hlt
      have d0 := hc0 0 (by omega)
      have d1 := hc0 1 (by omega)
      have d2 := hc0 2 (by omega)
      have d3 := hc0 3 (by omega)
      have d4 := hc0 4 (by omega)
      have d5 := hc0 5 (by omega)
      have d6 := hc0 6 (by omega)
      have d7 := hc0 7 (by omega)
      have d8 := hc0 8 (by omega)
      simp only [Nat.add_zero] at d0
      have HF := Lib.hid (foldAll_snoc (fun x y : Int => min x y) v l k hlt)
      have HM := Lib.hid (allMay_snoc l k hlt)
      have HU := Lib.hid (HL.out l[k] (List.getElem_mem hlt))
      clear hc hc0 hb
      generalize hu : l[k] = u at *
      generalize foldAll (fun x y : Int => min x y) v (l.take k) = cur at *
      have G := Lib.hid hg
      have Z := Lib.hid hz
      have HBB := Lib.hid hB
      have lg := hg.lt
      have hsz := hB.size
      clear hg hz hB hu
      cases b with
      | false =>
        go_wp2_with fail
        clear d0 d1 d2 d3 d4 d5 d6 d7 d8
        have G3 := Lib.hid (holds_alloc G.out (.cells (vecA u) 24))
        have Z3 := Lib.hid (holds_alloc Z.out (.cells (vecA u) 24))
        have B3 := Lib.hid (HBB.out.alloc hsz (.cells (vecA u) 24))
        clear G Z HBB lg hsz
        go_loopw [9, 10, 25] (fun _ _ i wr => ∃ j : Nat, j ≤ 9 ∧ i = .int .i64 j ∧ vecIn wr w.heap.size (mergeTo (fun x y : Int => min x y) cur u j) ∧ vecIn wr (w.heap.size + 1) V.zero ∧ Below w.heap.size w wr)
          (fun _ _ i _ => 9 - (intOf i).toNat)
        case atStart => exact ⟨0, by omega, rfl, vecIn_same G3.out (mergeTo_zero _ _ _).symm, Z3.out, B3.out⟩
        case round =>
          obtain ⟨j, hj, rfl, hg, hz, hB⟩ := hrel
          by_cases hjl : j < 9
          · have hix := fun W => index_vec W u j hjl
            have ck := hg.at j hjl
            have fk := hg.free j hjl
            rw [mergeTo_at] at ck
            have G := Lib.hid hg
            have Z := Lib.hid hz
            have BB := Lib.hid hB
            clear hg hz hB G3 Z3 B3
            by_cases hcmp : u j < cur j
            · have E := Lib.hid (mergeTo_set (fun x y : Int => min x y) cur u j (u j) (by omega))
              go_wp2_with fail
              refine ⟨⟨j + 1, by omega, by go_num, vecIn_same (vecIn_set G.out j hjl _) E.out, holds_other Z.out (by omega) _, BB.out.setCell (Nat.le_refl _) _⟩, ?_⟩
              simp [intOf]; omega
            · have E := Lib.hid (mergeTo_keep (fun x y : Int => min x y) cur u j (by omega))
              go_wp2_with fail
              refine ⟨⟨j + 1, by omega, by go_num, vecIn_same G.out E.out, Z.out, BB.out⟩, ?_⟩
              simp [intOf]; omega
          · obtain rfl : j = 9 := by omega
            have G := Lib.hid hg
            have Z := Lib.hid hz
            have BB := Lib.hid hB
            clear hg hz hB G3 Z3 B3
            go_wp2_with fail
            refine ⟨⟨k + 1, hlt, by go_num, _, rfl, (by rw [HM.out, ← Bool.and_assoc, ← HB.out]; rfl), vecIn_same G.out HF.out.symm, Z.out, BB.out⟩, ?_⟩
            simp [intOf]; omega
      | true =>
        go_wp2_with fail
        refine (refRight_any u HU.out _).mono ?_
        rintro e w5 ⟨rfl, hB⟩
        clear d0 d1 d2 d3 d4 d5 d6 d7 d8
        have G3 := Lib.hid (holds_below (holds_alloc G.out (.cells (vecA u) 24)) hB (by simp; omega))
        have Z3 := Lib.hid (holds_below (holds_alloc Z.out (.cells (vecA u) 24)) hB (by simp; have := Z.out.lt; omega))
        have B3 := Lib.hid ((HBB.out.alloc hsz (.cells (vecA u) 24)).trans (hB.mono (by simp; omega)))
        have hq : vecIn w5 wr.heap.size u := holds_below (vecIn_new wr u) hB (by simp)
        obtain ⟨e0, e1, e2, e3, e4, e5, e6, e7, e8⟩ := vecIn.cells hq
        clear hq hB G Z HBB lg hsz
        go_wp2_with fail
        clear e0 e1 e2 e3 e4 e5 e6 e7 e8
        go_loopw [9, 10, 25] (fun _ _ i wr => ∃ j : Nat, j ≤ 9 ∧ i = .int .i64 j ∧ vecIn wr w.heap.size (mergeTo (fun x y : Int => min x y) cur u j) ∧ vecIn wr (w.heap.size + 1) V.zero ∧ Below w.heap.size w wr)
          (fun _ _ i _ => 9 - (intOf i).toNat)
        case atStart => exact ⟨0, by omega, rfl, vecIn_same G3.out (mergeTo_zero _ _ _).symm, Z3.out, B3.out⟩
        case round =>
          obtain ⟨j, hj, rfl, hg, hz, hB⟩ := hrel
          by_cases hjl : j < 9
          · have hix := fun W => index_vec W u j hjl
            have ck := hg.at j hjl
            have fk := hg.free j hjl
            rw [mergeTo_at] at ck
            have G := Lib.hid hg
            have Z := Lib.hid hz
            have BB := Lib.hid hB
            clear hg hz hB G3 Z3 B3
            by_cases hcmp : u j < cur j
            · have E := Lib.hid (mergeTo_set (fun x y : Int => min x y) cur u j (u j) (by omega))
              go_wp2_with fail
              refine ⟨⟨j + 1, by omega, by go_num, vecIn_same (vecIn_set G.out j hjl _) E.out, holds_other Z.out (by omega) _, BB.out.setCell (Nat.le_refl _) _⟩, ?_⟩
              simp [intOf]; omega
            · have E := Lib.hid (mergeTo_keep (fun x y : Int => min x y) cur u j (by omega))
              go_wp2_with fail
              refine ⟨⟨j + 1, by omega, by go_num, vecIn_same G.out E.out, Z.out, BB.out⟩, ?_⟩
              simp [intOf]; omega
          · obtain rfl : j = 9 := by omega
            have G := Lib.hid hg
            have Z := Lib.hid hz
            have BB := Lib.hid hB
            clear hg hz hB G3 Z3 B3
            go_wp2_with fail
            refine ⟨⟨k + 1, hlt, by go_num, _, rfl, (by rw [HM.out, ← Bool.and_assoc, ← HB.out]; rfl), vecIn_same G.out HF.out.symm, Z.out, BB.out⟩, ?_⟩
            simp [intOf]; omega
    · obtain rfl : k = l.length := by omega
      rw [List.take_length] at hb hg
      have HO := Lib.hid hb
      obtain ⟨cur, hcu⟩ : ∃ cur, foldAll (fun x y : Int => min x y) v l = cur := ⟨_, rfl⟩
      rw [hcu] at hg
      have HCU := Lib.hid hcu
      clear hcu
      obtain ⟨a0, a1, a2, a3, a4, a5, a6, a7, a8⟩ := vecIn.cells hg
      obtain ⟨z0, z1, z2, z3, z4, z5, z6, z7, z8⟩ := vecIn.cells hz
      have f0 := hz.free 0 (by omega)
      have f1 := hz.free 1 (by omega)
      have f2 := hz.free 2 (by omega)
      have f3 := hz.free 3 (by omega)
      have f4 := hz.free 4 (by omega)
      have f5 := hz.free 5 (by omega)
      have f6 := hz.free 6 (by omega)
      have f7 := hz.free 7 (by omega)
      have f8 := hz.free 8 (by omega)
      have Z := Lib.hid hz
      have BB := Lib.hid hB
      clear hb hg hz hB HB
      go_wp2_with fail
      clear a0 a1 a2 a3 a4 a5 a6 a7 a8 z0 z1 z2 z3 z4 z5 z6 z7 z8 f0 f1 f2 f3 f4 f5 f6 f7 f8
      refine ⟨rfl, .tuple #[vec cur, .bool b], ?_, by rw [HO.out, HCU.out], ?_⟩
      · obtain ⟨m0, m1, m2, m3, m4, m5, m6, m7, m8⟩ := vecIn.cells (vecIn_put9 Z.out cur)
        simp [results, Try.results23, go_sem, m0, m1, m2, m3, m4, m5, m6, m7, m8]
      · exact ((((((((BB.out.setCell (p := ⟨w.heap.size + 1, 0, none⟩) (by dsimp only; omega) _).setCell (p := ⟨w.heap.size + 1, 1, none⟩) (by dsimp only; omega) _).setCell (p := ⟨w.heap.size + 1, 2, none⟩) (by dsimp only; omega) _).setCell (p := ⟨w.heap.size + 1, 3, none⟩) (by dsimp only; omega) _).setCell (p := ⟨w.heap.size + 1, 4, none⟩) (by dsimp only; omega) _).setCell (p := ⟨w.heap.size + 1, 5, none⟩) (by dsimp only; omega) _).setCell (p := ⟨w.heap.size + 1, 6, none⟩) (by dsimp only; omega) _).setCell (p := ⟨w.heap.size + 1, 7, none⟩) (by dsimp only; omega) _).setCell (p := ⟨w.heap.size + 1, 8, none⟩) (by dsimp only; omega) _
end Go.Proofs.Ytjpgabpicfcapaa
