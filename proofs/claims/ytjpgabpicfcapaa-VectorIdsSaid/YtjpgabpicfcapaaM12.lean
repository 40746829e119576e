/- The document's Sorted of layer 11: the walk. -/
import Derived.Test.YtjpgabpicfcapaaM12a
namespace Go.Proofs.Ytjpgabpicfcapaa
open Go.RowKit

theorem place_le (P : List I3) (x : I3) : placeL P x ≤ P.length := by unfold placeL; exact (List.takeWhile_sublist _).length_le
theorem place_at {P : List I3} {x : I3} {m : Nat} (hm : m < P.length) (hb : ∀ j (h : j < P.length), j < m → ltId x P[j] = false) (h : ltId x P[m] = true) : placeL P x = m := by
  have e : P = P.take m ++ P[m] :: P.drop (m + 1) := by rw [← List.drop_eq_getElem_cons hm, List.take_append_drop]
  unfold placeL
  have h1 : ∀ y ∈ P.take m, (!ltId x y) = true := fun y hy => by
    obtain ⟨j, hj, rfl⟩ := List.getElem_of_mem hy
    rw [List.length_take] at hj
    rw [List.getElem_take, hb j (by omega) (by omega)]; rfl
  generalize P[m] = y at *
  rw [e, List.takeWhile_append_of_pos h1, List.takeWhile_cons_of_neg (by simp [h]), List.append_nil, List.length_take]
  omega
theorem place_end {P : List I3} {x : I3} (hb : ∀ j (h : j < P.length), j < P.length → ltId x P[j] = false) : placeL P x = P.length := by
  unfold placeL
  have h1 : ∀ y ∈ P, (!ltId x y) = true := fun y hy => by
    obtain ⟨j, hj, rfl⟩ := List.getElem_of_mem hy
    rw [hb j hj hj]; rfl
  have := List.takeWhile_append_of_pos (l₂ := []) h1
  simp only [List.append_nil, List.takeWhile_nil] at this
  rw [this]

theorem name_world' {G : World → Prop} {W : World} (φ : World → Prop) (h : φ W) (k : ∀ w', φ w' → G w') : G W := k W h
/-- so far: k ids are sorted -/
def soFar (l : List I3) (k : Nat) (o : Value) (w W : World) : Prop :=
  ∃ (ao : Option Addr) (co : Nat), o = .slice ao k co ∧ rowV W ao k 3 enI (sortR (l.take k)) ∧ k ≤ co ∧ co ≤ maxLen ∧ (ao = none → co = 0) ∧ (∀ ad, ao = some ad → ∃ g, ad = ⟨g, 0, none⟩) ∧ Below w.heap.size w W

theorem in_b (V : World) (A B : Obj) : ((V.alloc A).alloc B).heap[V.heap.size + 1]? = some B := by
  have h := heap_alloc_new (V.alloc A) B
  rwa [World.size_alloc] at h
theorem in_c (V : World) (A B : Obj) : ((V.alloc A).alloc B).heap[V.heap.size]? = some A := by
  rw [((Below.refl (V.alloc A).heap.size (V.alloc A)).alloc (Nat.le_refl _) B).block V.heap.size (by simp)]
  exact heap_alloc_new V A
theorem lt_b (V : World) (A B : Obj) : V.heap.size + 1 < ((V.alloc A).alloc B).heap.size := by simp
theorem lt_c (V : World) (A B : Obj) : V.heap.size < ((V.alloc A).alloc B).heap.size := by simp <;> omega
theorem made_c (V : World) (A : Obj) : ((V.alloc A).alloc (.cells #[] 29)).ownsRow V.heap.size 29 3 (.slice (some ⟨V.heap.size + 1, 0, none⟩) 0 0) 0 [] := by
  have := World.ownsRow_made (base := V.heap.size) (e := 29) (size := 3) (V.alloc A) #[] 0 (by simp) (Nat.zero_le _) rfl
  rwa [World.size_alloc] at this
theorem heldS {b5 : Nat} {x : I3} {V w' : World} (hx : holds V b5 (enI x)) (h : Below V.heap.size V w') : w'.cell? ⟨b5, 0, none⟩ = some (.int .u64 x.t) ∧ w'.cell? ⟨b5, 1, none⟩ = some (.int .i64 x.s) ∧ w'.cell? ⟨b5, 2, none⟩ = some (.int .u64 x.q) ∧ Below V.heap.size V w' :=
  ⟨(h.cell (p := ⟨b5, 0, none⟩) hx.1).trans (hx.cell 0 (by simp)), (h.cell (p := ⟨b5, 1, none⟩) hx.1).trans (hx.cell 1 (by simp)), (h.cell (p := ⟨b5, 2, none⟩) hx.1).trans (hx.cell 2 (by simp)), h⟩
theorem rowV_drop {W : World} {g k : Nat} {P : List I3} (h : rowV W (some ⟨g, 0, none⟩) k 3 enI P) (m : Nat) (hm : m ≤ k) : rowV W (some ⟨g, m * 3, none⟩) (k - m) 3 enI (P.drop m) := by
  have hk := h.1
  refine ⟨by rw [List.length_drop]; omega, ?_⟩
  rcases h.2 with e | ⟨b, off, e, hlt, hc⟩
  · exact .inl (by rw [e]; simp)
  · cases e
    refine .inr ⟨g, m * 3, rfl, hlt, fun j hj r hr => ?_⟩
    rw [List.length_drop] at hj
    have := hc (m + j) (by omega) r hr
    rw [List.getElem_drop, ← this]
    congr 2
    omega
theorem soFar_ins {l P : List I3} {x : I3} {k m n : Nat} {v : Value} {xs : List Value} {w V W : World} (hown : W.ownsRow V.heap.size 29 3 v n xs) (hn : n = k + 1) (hxs : xs = (P.take m ++ x :: P.drop m).flatMap enI)
    (hP : P.length = k) (hup : upI' P) (hpl : placeL P x = m) (hS : sortR (l.take (k + 1)) = insR P x) (h1 : Below w.heap.size w V) (h2 : Below V.heap.size V W) : soFar l (k + 1) v w W := by
  have e : P.take m ++ x :: P.drop m = insR P x := by rw [← insL_insR hup, insL, hpl]
  have hm := place_le P x
  have hl : (insR P x).length = k + 1 := by rw [← e, List.length_append, List.length_cons, List.length_take, List.length_drop]; omega
  rw [hxs, e, hn, ← hl] at hown
  obtain ⟨a0, cap, hv, hrow, h3, h4, h5⟩ := rowV_of_own (en := enI) (fun _ => rfl) hown
  refine ⟨a0, cap, by rw [hv, hl], ?_, by omega, h4, h5, ?_, h1.trans (h2.mono h1.size)⟩
  · rw [hS]; rw [hl] at hrow; exact hrow
  · intro ad e2
    subst e2
    rcases hown.2 with ⟨e1, _⟩ | ⟨g, _, _, e1, _⟩
    · rw [hv] at e1; cases e1
    · rw [hv] at e1; cases e1; exact ⟨g, rfl⟩
set_option maxRecDepth 4000 in
set_option maxHeartbeats 3000000 in
theorem refSorted_any (l : List I3) (hn : l.length ≤ 12) (a0 : Option Addr) (cap : Nat) (w : World) (hr : rowV w a0 l.length 3 enI l) :
    Calls Try.prog 17 #[.slice a0 l.length cap] w fun e w' => ∃ a1 c1, e = .returned (.slice a1 l.length c1) ∧ rowV w' a1 l.length 3 enI (sortR l) ∧ Below w.heap.size w w' := by
  have HR := Lib.hid hr
  clear hr
  go_enter Try.func17, Try.ntmps17
  go_wp2_with fail
  go_loopw [3, 9] (fun o i W => ∃ k : Nat, k ≤ l.length ∧ i = .int .i64 k ∧ soFar l k o w W) (fun _ i _ => l.length - (intOf i).toNat)
  case atStart => exact ⟨0, Nat.zero_le _, rfl, none, 0, rfl, ⟨rfl, .inl rfl⟩, Nat.le_refl _, Nat.zero_le _, fun _ => rfl, (fun _ h => by cases h), Below.refl _ _⟩
  case round =>
    obtain ⟨k, hk, rfl, ao, co, rfl, hrow, hkc, hcm, hz, hg0, hB⟩ := hrel
    have HROW := Lib.hid hrow
    have HB := Lib.hid hB
    have HZ := Lib.hid hz
    have HG := Lib.hid hg0
    clear hrow hz hg0
    by_cases hlt : k < l.length
    · obtain ⟨p, off, rfl, hc⟩ := (rowV_below HR.out hB).2.resolve_left (by intro e; subst e; simp at hlt)
      have d0 := hc.2 k hlt 0 (by omega)
      have d1 := hc.2 k hlt 1 (by omega)
      have d2 := hc.2 k hlt 2 (by omega)
      simp only [enI, List.getElem?_cons_zero, List.getElem?_cons_succ, Nat.add_zero] at d0 d1 d2
      have HS := Lib.hid (sortR_snoc l k hlt)
      have HUP := Lib.hid (sortR_up (l.take k))
      have HLEN := Lib.hid (show (sortR (l.take k)).length = k by rw [sortR_len, List.length_take]; omega)
      clear hc hB
      generalize l[k] = x at *
      generalize sortR (l.take k) = P at *
      unfold maxLen at hcm
      go_wp2_with fail
      have HX := Lib.hid (show holds (wr.alloc (.cells #[.int .u64 x.t, .int .i64 x.s, .int .u64 x.q] 29)) wr.heap.size (enI x) from holds_new wr _ _)
      have HROW2 := Lib.hid (rowV_below HROW.out ((Below.refl _ wr).alloc (Nat.le_refl _) (.cells #[.int .u64 x.t, .int .i64 x.s, .int .u64 x.q] 29)))
      have HB2 := Lib.hid (HB.out.alloc HB.out.size (.cells #[.int .u64 x.t, .int .i64 x.s, .int .u64 x.q] 29))
      clear HROW HB d0 d1 d2
      refine name_world' (G := fun W => Code.wp _ _ _ _ W) (fun W => holds W wr.heap.size (enI x) ∧ rowV W ao k 3 enI P ∧ Below w.heap.size w W) ⟨HX.out, HROW2.out, HB2.out⟩ ?_
      clear HX HROW2 HB2
      rintro W0 ⟨hx, hrow, hB⟩
      generalize wr.heap.size = b5 at *
      go_loopw [6] (fun i W => ∃ m : Nat, m ≤ k ∧ i = .int .i64 m ∧ (∀ j (h : j < P.length), j < m → ltId x P[j] = false) ∧ holds W b5 (enI x) ∧ rowV W ao k 3 enI P ∧ Below w.heap.size w W) (fun i _ => k - (intOf i).toNat)
      case atStart => exact ⟨0, Nat.zero_le _, rfl, fun j _ h => by omega, hx, hrow, hB⟩
      case round =>
        clear hx hrow hB
        obtain ⟨m, hm, rfl, hbef, hx, hrow, hB⟩ := hrel
        have HX := Lib.hid hx
        have HROW := Lib.hid hrow
        have HB := Lib.hid hB
        have HBEF := Lib.hid hbef
        clear hx hB hbef
        by_cases hmk : m < k
        · have hmP : m < P.length := by rw [HLEN.out]; exact hmk
          obtain ⟨g, off2, rfl, hc⟩ := hrow.2.resolve_left (by intro e; rw [e] at hmP; simp at hmP)
          obtain ⟨g2, e⟩ := HG.out _ rfl
          cases e
          have f0 := hc.2 m hmP 0 (by omega)
          have f1 := hc.2 m hmP 1 (by omega)
          have f2 := hc.2 m hmP 2 (by omega)
          simp only [enI, List.getElem?_cons_zero, List.getElem?_cons_succ, Nat.add_zero, Nat.zero_add] at f0 f1 f2
          have lgw := hc.1
          have E := HX.out
          have e0 := E.cell 0 (by simp)
          have e1 := E.cell 1 (by simp)
          have e2 := E.cell 2 (by simp)
          simp only [enI, List.getElem_cons_zero, List.getElem_cons_succ] at e0 e1 e2
          have lx := E.lt
          clear E hc hrow
          have PT := Lib.hid (fun h => place_at hmP (fun j hj hjm => HBEF.out j hj hjm) h)
          have PF := Lib.hid (show ltId x P[m] = false → ∀ j (h : j < P.length), j < m + 1 → ltId x P[j] = false from fun h j hj hjm => by
            by_cases e : j = m
            · subst e; exact h
            · exact HBEF.out j hj (by omega))
          have hcall := fun W => refLess_any x P[m] W
          generalize P[m] = y at *
          have hna := fun (n : Near wr.heap.size wr) (o : Nat) => near_cell wr.heap.size n g o lgw
          have hnb := fun (n : Near wr.heap.size wr) (o : Nat) => near_cell wr.heap.size n b5 o lx
          have hd : decide (m < k) = true := decide_eq_true hmk
          have hd' : decide ((m : Int) < (k : Int)) = true := decide_eq_true (by omega)
          have hkb : (k : Int) ≤ 12 := by omega
          cases hly : ltId x y with
          | true =>
            simp only [hly] at hcall
            have HP := Lib.hid (PT.out hly)
            clear hly
            go_wp2_with fail
            refine wp_region_dep wr.heap.size 13 (by kernel_rfl) (by kernel_rfl) (by rfl) (Nat.le_refl _) ?_
            simp only [List.take_succ_cons, List.take_zero, List.drop_succ_cons, List.drop_zero]
            iterate 10 (refine wpDep_plain (by rfl) (fun K hK => ?_); go_simp; (refine hK _ ?_; clear hK K))
            refine wpDep_plain (by rfl) (fun K hK => ?_); go_simp; refine ⟨_, fun n => callsTo_of (hcall _), ?_⟩; (refine hK _ ?_; clear hK K)
            iterate 2 (refine wpDep_plain (by rfl) (fun K hK => ?_); go_simp; (refine hK _ ?_; clear hK K))
            refine wpDep_nil ?_
            intro f m0 _
            simp only [fillV]
            have XV := Lib.hid (show holds m0.u b5 (enI x) from holds_below HX.out m0.h HX.out.lt)
            have RV := Lib.hid (rowV_below HROW.out m0.h)
            have BV := Lib.hid (HB.out.trans (m0.h.mono HB.out.size))
            clear HX HROW HB
            obtain ⟨V, hV⟩ : ∃ V, m0.u = V := ⟨_, rfl⟩
            rw [hV] at XV RV BV
            rw [hV]
            clear hV
            clear hna hnb hcall f0 f1 f2 e0 e1 e2 lx lgw hd hd'
            have E := XV.out
            have e0 := E.cell 0 (by simp)
            have e1 := E.cell 1 (by simp)
            have e2 := E.cell 2 (by simp)
            simp only [enI, List.getElem_cons_zero, List.getElem_cons_succ] at e0 e1 e2
            have lx := E.lt
            clear E
            have i0 : (0 : Int) ≤ (m : Int) := by omega
            have i1 : (m : Int) ≤ (k : Int) := by omega
            have i2 : (k : Int) ≤ (co : Int) := by omega
            have i3 : (m : Int) ≤ (co : Int) := by omega
            have i4 : ¬ co = m := by omega
            have RT := Lib.hid (rowV_take RV.out m hm)
            have RD := Lib.hid (rowV_drop RV.out m hm)
            go_wp2_with fail
            go_region_held_law (fun w' => w'.cell? ⟨b5, 0, none⟩ = some (.int .u64 x.t) ∧ w'.cell? ⟨b5, 1, none⟩ = some (.int .i64 x.s) ∧ w'.cell? ⟨b5, 2, none⟩ = some (.int .u64 x.q) ∧ Below V.heap.size V w')
              (exact heldS XV.out (by first | assumption | exact below_drew _ _ | exact (‹_ ∧ _ ∧ _ ∧ Below V.heap.size V _›).2.2.2.alloc (‹_ ∧ _ ∧ _ ∧ Below V.heap.size V _›).2.2.2.size _))
              ((first
                | (refine step_ids (by rfl) (.tmp 35) (.tmp 38) (by rfl) (by rfl) V.heap.size _ (0 + m + 1) (([] ++ (P.take m).flatMap enI) ++ [x].flatMap enI) (by rfl) ?_ _ (k - m) _ (P.drop m) (by rfl) ?_ ?_ ?_ ?_; (focus exact hown2); (focus exact rowV_below RD.out (‹_ ∧ _ ∧ _ ∧ Below V.heap.size V _›).2.2.2); (focus omega); (focus exact (‹_ ∧ _ ∧ _ ∧ Below V.heap.size V _›).2.2.2.size); intro v3 w3 hown3 hgrow3 hq3; (have hb3 : Below V.heap.size V w3 := (‹_ ∧ _ ∧ _ ∧ Below V.heap.size V _›).2.2.2.grown hgrow3 (‹_ ∧ _ ∧ _ ∧ Below V.heap.size V _›).2.2.2.size hq3))
                | (refine step_ids (by rfl) (.tmp 28) (.tmp 31) (by rfl) (by rfl) V.heap.size _ 0 [] (by rfl) ?_ _ m _ (P.take m) (by rfl) ?_ ?_ ?_ ?_; (focus first | exact World.ownsRow_made V #[] 0 (Nat.le_refl _) (Nat.zero_le _) rfl | exact owns_below (World.ownsRow_made V #[] 0 (Nat.le_refl _) (Nat.zero_le _) rfl) ((Below.refl _ _).alloc (Nat.le_refl _) _) | exact made_c V _ | exact owns_below (owns_below (World.ownsRow_made V #[] 0 (Nat.le_refl _) (Nat.zero_le _) rfl) ((Below.refl _ _).alloc (Nat.le_refl _) _)) (below_drew _ _)); (focus exact rowV_below RT.out (‹_ ∧ _ ∧ _ ∧ Below V.heap.size V _›).2.2.2); (focus omega); (focus exact (‹_ ∧ _ ∧ _ ∧ Below V.heap.size V _›).2.2.2.size); intro v1 w1 hown1 hgrow1 hq1; (have hb1 : Below V.heap.size V w1 := (‹_ ∧ _ ∧ _ ∧ Below V.heap.size V _›).2.2.2.grown hgrow1 (‹_ ∧ _ ∧ _ ∧ Below V.heap.size V _›).2.2.2.size hq1))
                | (refine step_ids (by rfl) (.tmp 32) (.tmp 34) (by rfl) (by rfl) V.heap.size _ (0 + m) ([] ++ (P.take m).flatMap enI) (by rfl) ?_ _ 1 _ [x] (by rfl) ?_ ?_ ?_ ?_; (focus first | exact hown1 | exact owns_below hown1 ((Below.refl _ _).alloc (Nat.le_refl _) _)); (focus first | exact row_block_one _ _ x (blockIs_new _ _ _) | exact row_block_one _ _ x ((hgrow1.block V.heap.size (lt_c V (.cells #[.int .u64 x.t, .int .i64 x.s, .int .u64 x.q] 29) (.cells #[] 29)) (fun e => absurd (Option.some.inj (show some V.heap.size = some (V.heap.size + 1) from e)) (by omega))).trans (in_c V (.cells #[.int .u64 x.t, .int .i64 x.s, .int .u64 x.q] 29) (.cells #[] 29))) | exact row_block_one _ _ x ((hgrow1.block (V.heap.size + 1) (lt_b V (.cells #[] 29) (.cells #[.int .u64 x.t, .int .i64 x.s, .int .u64 x.q] 29)) (fun e => absurd (Option.some.inj (show some (V.heap.size + 1) = some V.heap.size from e)) (by omega))).trans (in_b V (.cells #[] 29) (.cells #[.int .u64 x.t, .int .i64 x.s, .int .u64 x.q] 29))) | (trace_state; exact row_block_one _ _ x ((hgrow1.block (V.heap.size + 1) (lt_b V (.cells #[] 29) (.cells #[.int .u64 x.t, .int .i64 x.s, .int .u64 x.q] 29)) (fun e => absurd (Option.some.inj (show some (V.heap.size + 1) = some V.heap.size from e)) (by omega))).trans (in_b V (.cells #[] 29) (.cells #[.int .u64 x.t, .int .i64 x.s, .int .u64 x.q] 29))))); (focus omega); (focus exact (‹_ ∧ _ ∧ _ ∧ Below V.heap.size V _›).2.2.2.size); intro v2 w2 hown2 hgrow2 hq2; (have hb2 : Below V.heap.size V w2 := (‹_ ∧ _ ∧ _ ∧ Below V.heap.size V _›).2.2.2.grown hgrow2 (‹_ ∧ _ ∧ _ ∧ Below V.heap.size V _›).2.2.2.size hq2))))
            all_goals go_wp2_with fail
            all_goals exact ⟨⟨k + 1, hlt, by go_num, soFar_ins hown3 (by omega) (by simp) HLEN.out HUP.out HP.out HS.out BV.out hb3⟩, by simp [intOf]; omega⟩
          | false =>
            simp only [hly] at hcall
            have HP := Lib.hid (PF.out hly)
            clear hly
            go_wp2_with fail
            refine wp_region_dep wr.heap.size 13 (by kernel_rfl) (by kernel_rfl) (by rfl) (Nat.le_refl _) ?_
            simp only [List.take_succ_cons, List.take_zero, List.drop_succ_cons, List.drop_zero]
            iterate 10 (refine wpDep_plain (by rfl) (fun K hK => ?_); go_simp; (refine hK _ ?_; clear hK K))
            refine wpDep_plain (by rfl) (fun K hK => ?_); go_simp; refine ⟨_, fun n => callsTo_of (hcall _), ?_⟩; (refine hK _ ?_; clear hK K)
            iterate 2 (refine wpDep_plain (by rfl) (fun K hK => ?_); go_simp; (refine hK _ ?_; clear hK K))
            refine wpDep_nil ?_
            intro f m0 _
            simp only [fillV]
            have XV := Lib.hid (show holds m0.u b5 (enI x) from holds_below HX.out m0.h HX.out.lt)
            have RV := Lib.hid (rowV_below HROW.out m0.h)
            have BV := Lib.hid (HB.out.trans (m0.h.mono HB.out.size))
            clear HX HROW HB
            obtain ⟨V, hV⟩ : ∃ V, m0.u = V := ⟨_, rfl⟩
            rw [hV] at XV RV BV
            rw [hV]
            clear hV
            clear hna hnb hcall f0 f1 f2 e0 e1 e2 lx lgw hd hd'
            go_wp2_with fail
            refine ⟨⟨m + 1, hmk, by go_num, HP.out, XV.out, RV.out, BV.out⟩, ?_⟩
            simp [intOf]; omega
        · obtain rfl : m = k := by omega
          have HP := Lib.hid (show placeL P x = m by
            rw [place_end (fun j hj hj' => HBEF.out j hj (by rw [HLEN.out] at hj'; exact hj')), HLEN.out])
          have hd : decide (m < m) = false := decide_eq_false (by omega)
          have hd' : decide ((m : Int) < (m : Int)) = false := decide_eq_false (by omega)
          clear hrow
          go_wp2_with fail
          refine wp_region_dep wr.heap.size 13 (by kernel_rfl) (by kernel_rfl) (by rfl) (Nat.le_refl _) ?_
          simp only [List.take_succ_cons, List.take_zero, List.drop_succ_cons, List.drop_zero]
          iterate 13 (refine wpDep_plain (by rfl) (fun K hK => ?_); go_simp; (refine hK _ ?_; clear hK K))
          refine wpDep_nil ?_
          intro f m0 _
          simp only [fillV]
          have XV := Lib.hid (show holds m0.u b5 (enI x) from holds_below HX.out m0.h HX.out.lt)
          have RV := Lib.hid (rowV_below HROW.out m0.h)
          have BV := Lib.hid (HB.out.trans (m0.h.mono HB.out.size))
          clear HX HROW HB
          obtain ⟨V, hV⟩ : ∃ V, m0.u = V := ⟨_, rfl⟩
          rw [hV] at XV RV BV
          rw [hV]
          clear hV
          clear hd hd'
          cases ao with
          | none =>
            obtain rfl : co = 0 := HZ.out rfl
            obtain rfl : m = 0 := by omega
            have E := XV.out
            have e0 := E.cell 0 (by simp)
            have e1 := E.cell 1 (by simp)
            have e2 := E.cell 2 (by simp)
            simp only [enI, List.getElem_cons_zero, List.getElem_cons_succ] at e0 e1 e2
            have lx := E.lt
            clear E
            have RT := Lib.hid (rowV_take RV.out 0 (Nat.le_refl _))
            go_wp2_with fail
            go_region_held_law (fun w' => w'.cell? ⟨b5, 0, none⟩ = some (.int .u64 x.t) ∧ w'.cell? ⟨b5, 1, none⟩ = some (.int .i64 x.s) ∧ w'.cell? ⟨b5, 2, none⟩ = some (.int .u64 x.q) ∧ Below V.heap.size V w')
              (exact heldS XV.out (by first | assumption | exact below_drew _ _ | exact (‹_ ∧ _ ∧ _ ∧ Below V.heap.size V _›).2.2.2.alloc (‹_ ∧ _ ∧ _ ∧ Below V.heap.size V _›).2.2.2.size _))
              ((first
                | (refine step_ids (by rfl) (.tmp 35) (.tmp 38) (by rfl) (by rfl) V.heap.size _ (0 + 0 + 1) (([] ++ (P.take 0).flatMap enI) ++ [x].flatMap enI) (by rfl) ?_ _ _ _ [] (by rfl) ?_ ?_ ?_ ?_; (focus exact hown2); (focus exact ⟨by simp, .inl rfl⟩); (focus omega); (focus exact (‹_ ∧ _ ∧ _ ∧ Below V.heap.size V _›).2.2.2.size); intro v3 w3 hown3 hgrow3 hq3; (have hb3 : Below V.heap.size V w3 := (‹_ ∧ _ ∧ _ ∧ Below V.heap.size V _›).2.2.2.grown hgrow3 (‹_ ∧ _ ∧ _ ∧ Below V.heap.size V _›).2.2.2.size hq3))
                | (refine step_ids (by rfl) (.tmp 28) (.tmp 31) (by rfl) (by rfl) V.heap.size _ 0 [] (by rfl) ?_ _ 0 _ (P.take 0) (by rfl) ?_ ?_ ?_ ?_; (focus first | exact World.ownsRow_made V #[] 0 (Nat.le_refl _) (Nat.zero_le _) rfl | exact owns_below (World.ownsRow_made V #[] 0 (Nat.le_refl _) (Nat.zero_le _) rfl) ((Below.refl _ _).alloc (Nat.le_refl _) _) | exact made_c V _ | exact owns_below (owns_below (World.ownsRow_made V #[] 0 (Nat.le_refl _) (Nat.zero_le _) rfl) ((Below.refl _ _).alloc (Nat.le_refl _) _)) (below_drew _ _)); (focus exact rowV_below RT.out (‹_ ∧ _ ∧ _ ∧ Below V.heap.size V _›).2.2.2); (focus omega); (focus exact (‹_ ∧ _ ∧ _ ∧ Below V.heap.size V _›).2.2.2.size); intro v1 w1 hown1 hgrow1 hq1; (have hb1 : Below V.heap.size V w1 := (‹_ ∧ _ ∧ _ ∧ Below V.heap.size V _›).2.2.2.grown hgrow1 (‹_ ∧ _ ∧ _ ∧ Below V.heap.size V _›).2.2.2.size hq1))
                | (refine step_ids (by rfl) (.tmp 32) (.tmp 34) (by rfl) (by rfl) V.heap.size _ (0 + 0) ([] ++ (P.take 0).flatMap enI) (by rfl) ?_ _ 1 _ [x] (by rfl) ?_ ?_ ?_ ?_; (focus first | exact hown1 | exact owns_below hown1 ((Below.refl _ _).alloc (Nat.le_refl _) _)); (focus first | exact row_block_one _ _ x (blockIs_new _ _ _) | exact row_block_one _ _ x ((hgrow1.block V.heap.size (lt_c V (.cells #[.int .u64 x.t, .int .i64 x.s, .int .u64 x.q] 29) (.cells #[] 29)) (fun e => absurd (Option.some.inj (show some V.heap.size = some (V.heap.size + 1) from e)) (by omega))).trans (in_c V (.cells #[.int .u64 x.t, .int .i64 x.s, .int .u64 x.q] 29) (.cells #[] 29))) | exact row_block_one _ _ x ((hgrow1.block (V.heap.size + 1) (lt_b V (.cells #[] 29) (.cells #[.int .u64 x.t, .int .i64 x.s, .int .u64 x.q] 29)) (fun e => absurd (Option.some.inj (show some (V.heap.size + 1) = some V.heap.size from e)) (by omega))).trans (in_b V (.cells #[] 29) (.cells #[.int .u64 x.t, .int .i64 x.s, .int .u64 x.q] 29))) | (trace_state; exact row_block_one _ _ x ((hgrow1.block (V.heap.size + 1) (lt_b V (.cells #[] 29) (.cells #[.int .u64 x.t, .int .i64 x.s, .int .u64 x.q] 29)) (fun e => absurd (Option.some.inj (show some (V.heap.size + 1) = some V.heap.size from e)) (by omega))).trans (in_b V (.cells #[] 29) (.cells #[.int .u64 x.t, .int .i64 x.s, .int .u64 x.q] 29))))); (focus omega); (focus exact (‹_ ∧ _ ∧ _ ∧ Below V.heap.size V _›).2.2.2.size); intro v2 w2 hown2 hgrow2 hq2; (have hb2 : Below V.heap.size V w2 := (‹_ ∧ _ ∧ _ ∧ Below V.heap.size V _›).2.2.2.grown hgrow2 (‹_ ∧ _ ∧ _ ∧ Below V.heap.size V _›).2.2.2.size hq2))))
            all_goals go_wp2_with fail
            all_goals exact ⟨⟨0 + 1, hlt, by go_num, soFar_ins hown3 (by omega) (by rw [List.drop_of_length_le (Nat.le_of_eq HLEN.out)]; simp) HLEN.out HUP.out HP.out HS.out BV.out hb3⟩, by simp [intOf]; omega⟩
          | some ad =>
            obtain ⟨g, rfl⟩ := HG.out ad rfl
            by_cases hcm2 : co = m
            · subst hcm2
              have E := XV.out
              have e0 := E.cell 0 (by simp)
              have e1 := E.cell 1 (by simp)
              have e2 := E.cell 2 (by simp)
              simp only [enI, List.getElem_cons_zero, List.getElem_cons_succ] at e0 e1 e2
              have lx := E.lt
              clear E
              have i0 : (0 : Int) ≤ (co : Int) := by omega
              have i1 : (co : Int) ≤ (co : Int) := by omega
              have RT := Lib.hid (rowV_take RV.out co (Nat.le_refl _))
              go_wp2_with fail
              go_region_held_law (fun w' => w'.cell? ⟨b5, 0, none⟩ = some (.int .u64 x.t) ∧ w'.cell? ⟨b5, 1, none⟩ = some (.int .i64 x.s) ∧ w'.cell? ⟨b5, 2, none⟩ = some (.int .u64 x.q) ∧ Below V.heap.size V w')
                (exact heldS XV.out (by first | assumption | exact below_drew _ _ | exact (‹_ ∧ _ ∧ _ ∧ Below V.heap.size V _›).2.2.2.alloc (‹_ ∧ _ ∧ _ ∧ Below V.heap.size V _›).2.2.2.size _))
                ((first
                  | (refine step_ids (by rfl) (.tmp 35) (.tmp 38) (by rfl) (by rfl) V.heap.size _ (0 + co + 1) (([] ++ (P.take co).flatMap enI) ++ [x].flatMap enI) (by rfl) ?_ _ _ _ [] (by rfl) ?_ ?_ ?_ ?_; (focus exact hown2); (focus exact ⟨by simp, .inl rfl⟩); (focus omega); (focus exact (‹_ ∧ _ ∧ _ ∧ Below V.heap.size V _›).2.2.2.size); intro v3 w3 hown3 hgrow3 hq3; (have hb3 : Below V.heap.size V w3 := (‹_ ∧ _ ∧ _ ∧ Below V.heap.size V _›).2.2.2.grown hgrow3 (‹_ ∧ _ ∧ _ ∧ Below V.heap.size V _›).2.2.2.size hq3))
                  | (refine step_ids (by rfl) (.tmp 28) (.tmp 31) (by rfl) (by rfl) V.heap.size _ 0 [] (by rfl) ?_ _ co _ (P.take co) (by rfl) ?_ ?_ ?_ ?_; (focus first | exact World.ownsRow_made V #[] 0 (Nat.le_refl _) (Nat.zero_le _) rfl | exact owns_below (World.ownsRow_made V #[] 0 (Nat.le_refl _) (Nat.zero_le _) rfl) ((Below.refl _ _).alloc (Nat.le_refl _) _) | exact made_c V _ | exact owns_below (owns_below (World.ownsRow_made V #[] 0 (Nat.le_refl _) (Nat.zero_le _) rfl) ((Below.refl _ _).alloc (Nat.le_refl _) _)) (below_drew _ _)); (focus exact rowV_below RT.out (‹_ ∧ _ ∧ _ ∧ Below V.heap.size V _›).2.2.2); (focus omega); (focus exact (‹_ ∧ _ ∧ _ ∧ Below V.heap.size V _›).2.2.2.size); intro v1 w1 hown1 hgrow1 hq1; (have hb1 : Below V.heap.size V w1 := (‹_ ∧ _ ∧ _ ∧ Below V.heap.size V _›).2.2.2.grown hgrow1 (‹_ ∧ _ ∧ _ ∧ Below V.heap.size V _›).2.2.2.size hq1))
                  | (refine step_ids (by rfl) (.tmp 32) (.tmp 34) (by rfl) (by rfl) V.heap.size _ (0 + co) ([] ++ (P.take co).flatMap enI) (by rfl) ?_ _ 1 _ [x] (by rfl) ?_ ?_ ?_ ?_; (focus first | exact hown1 | exact owns_below hown1 ((Below.refl _ _).alloc (Nat.le_refl _) _)); (focus first | exact row_block_one _ _ x (blockIs_new _ _ _) | exact row_block_one _ _ x ((hgrow1.block V.heap.size (lt_c V (.cells #[.int .u64 x.t, .int .i64 x.s, .int .u64 x.q] 29) (.cells #[] 29)) (fun e => absurd (Option.some.inj (show some V.heap.size = some (V.heap.size + 1) from e)) (by omega))).trans (in_c V (.cells #[.int .u64 x.t, .int .i64 x.s, .int .u64 x.q] 29) (.cells #[] 29))) | exact row_block_one _ _ x ((hgrow1.block (V.heap.size + 1) (lt_b V (.cells #[] 29) (.cells #[.int .u64 x.t, .int .i64 x.s, .int .u64 x.q] 29)) (fun e => absurd (Option.some.inj (show some (V.heap.size + 1) = some V.heap.size from e)) (by omega))).trans (in_b V (.cells #[] 29) (.cells #[.int .u64 x.t, .int .i64 x.s, .int .u64 x.q] 29))) | (trace_state; exact row_block_one _ _ x ((hgrow1.block (V.heap.size + 1) (lt_b V (.cells #[] 29) (.cells #[.int .u64 x.t, .int .i64 x.s, .int .u64 x.q] 29)) (fun e => absurd (Option.some.inj (show some (V.heap.size + 1) = some V.heap.size from e)) (by omega))).trans (in_b V (.cells #[] 29) (.cells #[.int .u64 x.t, .int .i64 x.s, .int .u64 x.q] 29))))); (focus omega); (focus exact (‹_ ∧ _ ∧ _ ∧ Below V.heap.size V _›).2.2.2.size); intro v2 w2 hown2 hgrow2 hq2; (have hb2 : Below V.heap.size V w2 := (‹_ ∧ _ ∧ _ ∧ Below V.heap.size V _›).2.2.2.grown hgrow2 (‹_ ∧ _ ∧ _ ∧ Below V.heap.size V _›).2.2.2.size hq2))))
              all_goals go_wp2_with fail
              all_goals exact ⟨⟨co + 1, hlt, by go_num, soFar_ins hown3 (by omega) (by rw [List.drop_of_length_le (Nat.le_of_eq HLEN.out)]; simp) HLEN.out HUP.out HP.out HS.out BV.out hb3⟩, by simp [intOf]; omega⟩
            · skip
              have E := XV.out
              have e0 := E.cell 0 (by simp)
              have e1 := E.cell 1 (by simp)
              have e2 := E.cell 2 (by simp)
              simp only [enI, List.getElem_cons_zero, List.getElem_cons_succ] at e0 e1 e2
              have lx := E.lt
              clear E
              have i0 : (0 : Int) ≤ (m : Int) := by omega
              have i1 : (m : Int) ≤ (m : Int) := by omega
              have i2 : (m : Int) ≤ (co : Int) := by omega
              have i4 : ¬ co = m := by omega
              have RT := Lib.hid (rowV_take RV.out m (Nat.le_refl _))
              go_wp2_with fail
              go_region_held_law (fun w' => w'.cell? ⟨b5, 0, none⟩ = some (.int .u64 x.t) ∧ w'.cell? ⟨b5, 1, none⟩ = some (.int .i64 x.s) ∧ w'.cell? ⟨b5, 2, none⟩ = some (.int .u64 x.q) ∧ Below V.heap.size V w')
                (exact heldS XV.out (by first | assumption | exact below_drew _ _ | exact (‹_ ∧ _ ∧ _ ∧ Below V.heap.size V _›).2.2.2.alloc (‹_ ∧ _ ∧ _ ∧ Below V.heap.size V _›).2.2.2.size _))
                ((first
                  | (refine step_ids (by rfl) (.tmp 35) (.tmp 38) (by rfl) (by rfl) V.heap.size _ (0 + m + 1) (([] ++ (P.take m).flatMap enI) ++ [x].flatMap enI) (by rfl) ?_ _ _ _ [] (by rfl) ?_ ?_ ?_ ?_; (focus exact hown2); (focus exact ⟨by simp, .inl rfl⟩); (focus omega); (focus exact (‹_ ∧ _ ∧ _ ∧ Below V.heap.size V _›).2.2.2.size); intro v3 w3 hown3 hgrow3 hq3; (have hb3 : Below V.heap.size V w3 := (‹_ ∧ _ ∧ _ ∧ Below V.heap.size V _›).2.2.2.grown hgrow3 (‹_ ∧ _ ∧ _ ∧ Below V.heap.size V _›).2.2.2.size hq3))
                  | (refine step_ids (by rfl) (.tmp 28) (.tmp 31) (by rfl) (by rfl) V.heap.size _ 0 [] (by rfl) ?_ _ m _ (P.take m) (by rfl) ?_ ?_ ?_ ?_; (focus first | exact World.ownsRow_made V #[] 0 (Nat.le_refl _) (Nat.zero_le _) rfl | exact owns_below (World.ownsRow_made V #[] 0 (Nat.le_refl _) (Nat.zero_le _) rfl) ((Below.refl _ _).alloc (Nat.le_refl _) _) | exact made_c V _ | exact owns_below (owns_below (World.ownsRow_made V #[] 0 (Nat.le_refl _) (Nat.zero_le _) rfl) ((Below.refl _ _).alloc (Nat.le_refl _) _)) (below_drew _ _)); (focus exact rowV_below RT.out (‹_ ∧ _ ∧ _ ∧ Below V.heap.size V _›).2.2.2); (focus omega); (focus exact (‹_ ∧ _ ∧ _ ∧ Below V.heap.size V _›).2.2.2.size); intro v1 w1 hown1 hgrow1 hq1; (have hb1 : Below V.heap.size V w1 := (‹_ ∧ _ ∧ _ ∧ Below V.heap.size V _›).2.2.2.grown hgrow1 (‹_ ∧ _ ∧ _ ∧ Below V.heap.size V _›).2.2.2.size hq1))
                  | (refine step_ids (by rfl) (.tmp 32) (.tmp 34) (by rfl) (by rfl) V.heap.size _ (0 + m) ([] ++ (P.take m).flatMap enI) (by rfl) ?_ _ 1 _ [x] (by rfl) ?_ ?_ ?_ ?_; (focus first | exact hown1 | exact owns_below hown1 ((Below.refl _ _).alloc (Nat.le_refl _) _)); (focus first | exact row_block_one _ _ x (blockIs_new _ _ _) | exact row_block_one _ _ x ((hgrow1.block V.heap.size (lt_c V (.cells #[.int .u64 x.t, .int .i64 x.s, .int .u64 x.q] 29) (.cells #[] 29)) (fun e => absurd (Option.some.inj (show some V.heap.size = some (V.heap.size + 1) from e)) (by omega))).trans (in_c V (.cells #[.int .u64 x.t, .int .i64 x.s, .int .u64 x.q] 29) (.cells #[] 29))) | exact row_block_one _ _ x ((hgrow1.block (V.heap.size + 1) (lt_b V (.cells #[] 29) (.cells #[.int .u64 x.t, .int .i64 x.s, .int .u64 x.q] 29)) (fun e => absurd (Option.some.inj (show some (V.heap.size + 1) = some V.heap.size from e)) (by omega))).trans (in_b V (.cells #[] 29) (.cells #[.int .u64 x.t, .int .i64 x.s, .int .u64 x.q] 29))) | (trace_state; exact row_block_one _ _ x ((hgrow1.block (V.heap.size + 1) (lt_b V (.cells #[] 29) (.cells #[.int .u64 x.t, .int .i64 x.s, .int .u64 x.q] 29)) (fun e => absurd (Option.some.inj (show some (V.heap.size + 1) = some V.heap.size from e)) (by omega))).trans (in_b V (.cells #[] 29) (.cells #[.int .u64 x.t, .int .i64 x.s, .int .u64 x.q] 29))))); (focus omega); (focus exact (‹_ ∧ _ ∧ _ ∧ Below V.heap.size V _›).2.2.2.size); intro v2 w2 hown2 hgrow2 hq2; (have hb2 : Below V.heap.size V w2 := (‹_ ∧ _ ∧ _ ∧ Below V.heap.size V _›).2.2.2.grown hgrow2 (‹_ ∧ _ ∧ _ ∧ Below V.heap.size V _›).2.2.2.size hq2))))
              all_goals go_wp2_with fail
              all_goals exact ⟨⟨m + 1, hlt, by go_num, soFar_ins hown3 (by omega) (by rw [List.drop_of_length_le (Nat.le_of_eq HLEN.out)]; simp) HLEN.out HUP.out HP.out HS.out BV.out hb3⟩, by simp [intOf]; omega⟩
    · obtain rfl : k = l.length := by omega
      have HROWL := Lib.hid (show rowV wr ao l.length 3 enI (sortR l) by have := HROW.out; rwa [List.take_length] at this)
      clear HROW
      go_wp2_with fail
      exact ⟨rfl, _, results_tmp rfl _ _ _, ao, co, rfl, HROWL.out, HB.out⟩
end Go.Proofs.Ytjpgabpicfcapaa
