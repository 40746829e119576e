/- PixelMixes, walked -/
import Derived.Deep.Cut
import Derived.Deep.RegionHeld3
import Derived.Deep.AppendLies
import Derived.Deep.DrawnRows
import Derived.Test.YtcfollajmmlfnaaR6
import Derived.Test.YtcfollajmmlfnaaDep3
import Derived.Test.YtcfollajmmlfnaaR7
import Derived.Test.YtcfollajmmlfnaaTh
namespace Go.Proofs.Ytcfollajmmlfnaa
open Go.RowKit

/-- a row of the call's own stays while no block that is there turns -/
theorem owns_below {w w' : World} {base e size n : Nat} {v : Value} {xs : List Value} (h : w.ownsRow base e size v n xs) (hb : Below w.heap.size w w') : w'.ownsRow base e size v n xs := by
  refine ⟨h.1, ?_⟩
  rcases h.2 with x | ⟨g, cap, cur, h1, h2, h3, h4⟩
  · exact .inl x
  · refine .inr ⟨g, cap, cur, h1, h2, ?_, h4⟩
    rw [hb.block g (Array.getElem?_eq_some_iff.1 h3).1]
    exact h3
theorem owns_lt {w : World} {base e size n : Nat} {v : Value} {xs : List Value} (h : w.ownsRow base e size v n xs) : ∀ g, v.ownBlock = some g → base ≤ g ∧ g < w.heap.size := by
  intro g hg
  rcases h.2 with ⟨x, _⟩ | ⟨g', cap, cur, h1, h2, h3, h4⟩
  · subst x; cases hg
  · subst h1; obtain rfl : g' = g := by simpa [Value.ownBlock] using hg
    exact ⟨h2, (Array.getElem?_eq_some_iff.1 h3).1⟩
theorem colIn_below {w w' : World} {b : Nat} {c : C4} (h : colIn w b c) (hb : Below w.heap.size w w') : colIn w' b c := by
  obtain ⟨hg, ⟨h0, h1, h2, h3⟩, z0, z1, z2, z3⟩ := h
  exact ⟨Nat.lt_of_lt_of_le hg hb.size, ⟨(hb.cell (p := ⟨b, 0, none⟩) hg).trans h0, (hb.cell (p := ⟨b, 1, none⟩) hg).trans h1, (hb.cell (p := ⟨b, 2, none⟩) hg).trans h2, (hb.cell (p := ⟨b, 3, none⟩) hg).trans h3⟩,
    (hb.frozen (p := ⟨b, 0, none⟩) hg).trans z0, (hb.frozen (p := ⟨b, 1, none⟩) hg).trans z1, (hb.frozen (p := ⟨b, 2, none⟩) hg).trans z2, (hb.frozen (p := ⟨b, 3, none⟩) hg).trans z3⟩
theorem flat_app (l m : List C4) : flat (l ++ m) = flat l ++ flat m := by
  induction l with
  | nil => rfl
  | cons c l ih => simp [flat, ih]
theorem colIn_four' {w : World} {b : Nat} {c : C4} (h : colIn w b c) (d : C4) : colIn (four w b d.r d.g d.b d.a) b d := by
  obtain ⟨hb, ⟨h0, h1, h2, h3⟩, z0, z1, z2, z3⟩ := h
  unfold four colIn
  refine ⟨by simp only [World.size_setCell]; exact hb, ⟨?_, ?_, ?_, ?_⟩, ?_, ?_, ?_, ?_⟩
  all_goals simp [go_sem, h0, h1, h2, h3, z0, z1, z2, z3]
theorem owns_at {w w' : World} {base e size n : Nat} {v : Value} {xs : List Value} (h : w.ownsRow base e size v n xs) (hk : ∀ q, v.ownBlock = some q → w'.heap[q]? = w.heap[q]?) : w'.ownsRow base e size v n xs := by
  refine ⟨h.1, ?_⟩
  rcases h.2 with x | ⟨g, cap, cur, h1, h2, h3, h4⟩
  · exact .inl x
  · refine .inr ⟨g, cap, cur, h1, h2, ?_, h4⟩
    rw [hk g (by rw [h1]; rfl)]
    exact h3
theorem owns_four {w : World} {base e size n b : Nat} {v : Value} {xs : List Value} {c0 c1 c2 c3 : Int} (h : w.ownsRow base e size v n xs) (hk : ∀ q, v.ownBlock = some q → q ≠ b) : (four w b c0 c1 c2 c3).ownsRow base e size v n xs := by
  refine owns_at h fun q hq => ?_
  have hne := hk q hq
  unfold four
  rw [Below.heap_setCell _ _ _ _ hne, Below.heap_setCell _ _ _ _ hne, Below.heap_setCell _ _ _ _ hne, Below.heap_setCell _ _ _ _ hne]
/-- a block of just these cells -/
def blockIs (w : World) (g : Nat) (cs : Array Value) (t : TypeId) : Prop := w.heap[g]? = some (.cells cs t (0, 0))
attribute [local go_sem ↓] Go.wp_at_zero Go.wp_at_succ

set_option maxRecDepth 4000 in
set_option maxHeartbeats 8000000 in
theorem mixlaw_any (xs : List T3) (a0 : Option Addr) (cap : Nat) (w : World) (hx : rowThrees w a0 xs.length xs) (hcap : xs.length ≤ cap) (hmax : cap ≤ maxLen) :
    Calls Try.prog 3 #[.slice a0 xs.length cap] w fun e w' => e = .returned (.bool true) ∧ Below w.heap.size w w' := by
  have hmax' : maxLen ≤ 9223372036854775807 := by decide
  go_enter Try.func3, Try.ntmps3
  go_wp2_with fail
  refine (wakes_any _).mono ?_
  rintro e w1 ⟨rfl, hB1⟩
  have s1 := hB1.size
  have hx1 := rowThrees_below hx hB1
  have HX := Lib.hid hx1
  clear hx hx1
  go_wp2_with fail
  go_loopw [3, 5, 6, 7, 13] (fun ov _ _ _ i wr => ∃ k : Nat, k ≤ xs.length ∧ k ≤ 12 ∧ i = .int .i64 k ∧ wr.ownsRow (w1.heap.size + 1) 26 4 ov k (flat ((xs.take k).map T3.b)) ∧ colIn wr w1.heap.size (((xs.take k).map T3.b).foldl C4.over ⟨0, 0, 0, 0⟩) ∧ Below w1.heap.size w1 wr)
    (fun _ _ _ _ i _ => xs.length - (intOf i).toNat)
  case atStart =>
    refine ⟨0, Nat.zero_le _, by omega, rfl, ⟨rfl, .inl ⟨rfl, rfl⟩⟩, ?_, (Below.refl _ _).alloc (Nat.le_refl _) _⟩
    refine ⟨by simp, ⟨?_, ?_, ?_, ?_⟩, ?_, ?_, ?_, ?_⟩ <;> simp [go_sem]
  case round =>
    obtain ⟨k, hk, hk12, rfl, hown, hC, hB⟩ := hrel
    have hsr := hB.size
    have hcl := hC.1
    have hBw : Below w.heap.size w wr := hB1.trans (hB.mono s1)
    have s1r : w.heap.size ≤ wr.heap.size := by omega
    by_cases hlt : k < xs.length
    · have hne : xs ≠ [] := by intro e; subst e; simp at hlt
      have hr := rowThrees_below HX.out hB
      obtain ⟨b, off, rfl, hb, hc⟩ := hr.2.2.resolve_left hne
      clear hne
      obtain ⟨d0, d1, d2, d3, d4, d5, d6, d7, d8⟩ := hc k hlt
      have htok := hr.2.1 _ (List.getElem_mem hlt)
      have hsn : (xs.take (k + 1)).map T3.b = (xs.take k).map T3.b ++ [xs[k].b] := by rw [List.take_succ_eq_append_getElem hlt, List.map_append]; rfl
      have HS := Lib.hid hsn
      have hfl : ((xs.take k).map T3.b).length = k := by simp; omega
      clear hsn hc
      have hlok : ∀ c ∈ (xs.take k).map T3.b, c.ok := by
        intro c hc
        obtain ⟨y, hy, rfl⟩ := List.mem_map.1 hc
        exact (hr.2.1 y (List.mem_of_mem_take hy)).2.1
      clear hr
      generalize xs[k] = x at *
      generalize (xs.take k).map T3.b = l at *
      obtain ⟨ha, hb', hp⟩ := htok
      by_cases h12 : k = 12
      · subst h12
        go_wp2
        go_ret
        exact ⟨rfl, hBw.alloc s1r _⟩
      · have h12' : ((k : Int) == 12) = false := by simp; omega
        have hn := @near_cell (wr.heap.size + 1)
        have hng := neq_self (x.a.over x.b)
        have hmg := neq_self (C4.mix x.p x.a x.b)
        have lb : b < wr.heap.size + 1 := by omega
        go_wp2_with fail
        refine wp_region_dep (wr.heap.size + 1) 28 (by kernel_rfl) (by kernel_rfl) (by rfl) (by simp) ?_
        simp only [List.take_succ_cons, List.take_zero, List.drop_succ_cons, List.drop_zero]
        iterate 4 (refine wpDep_plain (by rfl) (fun K hK => ?_); go_simp; (refine hK _ ?_; clear hK K))
        refine wpDep_plain (by rfl) (fun K hK => ?_); go_simp; refine ⟨_, fun n => callsTo_of (over_c x.a x.b ha hb' _), ?_⟩; (refine hK _ ?_; clear hK K)
        iterate 4 (refine wpDep_plain (by rfl) (fun K hK => ?_); go_simp; (refine hK _ ?_; clear hK K))
        refine wpDep_plain (by rfl) (fun K hK => ?_); go_simp; refine ⟨_, fun n => callsTo_of (rover_any x.a x.b ha hb' _), ?_⟩; (refine hK _ ?_; clear hK K)
        iterate 8 (refine wpDep_plain (by rfl) (fun K hK => ?_); go_simp; (refine hK _ ?_; clear hK K))
        refine wpDep_plain (by rfl) (fun K hK => ?_); go_simp; refine ⟨_, fun n => callsTo_of (mix_c x.p x.a x.b hp ha hb' _), ?_⟩; (refine hK _ ?_; clear hK K)
        iterate 6 (refine wpDep_plain (by rfl) (fun K hK => ?_); go_simp; (refine hK _ ?_; clear hK K))
        refine wpDep_plain (by rfl) (fun K hK => ?_); go_simp; refine ⟨_, fun n => callsTo_of (rmix_any x.a x.b x.p ha hb' hp _), ?_⟩; (refine hK _ ?_; clear hK K)
        iterate 2 (refine wpDep_plain (by rfl) (fun K hK => ?_); go_simp; (refine hK _ ?_; clear hK K))
        refine wpDep_nil ?_
        intro f m _
        simp only [fillV]
        go_wp2_with fail
        obtain ⟨i0, hi0, hz0, hz1, hz2⟩ := info_parts info_col
        have hV : ∃ V : World, m.u = V := ⟨_, rfl⟩
        have sm := m.h.size
        simp only [World.size_alloc] at sm
        have hB2 : Below wr.heap.size wr m.u := ((Below.refl _ _).alloc (Nat.le_refl _) _).trans (m.h.mono (by omega))
        have own2 := owns_below hown hB2
        have hC2 : colIn m.u w1.heap.size (l.foldl C4.over ⟨0, 0, 0, 0⟩) := colIn_below hC hB2
        have c4 : m.u.cell? ⟨wr.heap.size, 4, none⟩ = some (.int .u8 x.b.r) := (m.h.cell (p := ⟨wr.heap.size, 4, none⟩) (by simp)).trans (by simp [go_sem])
        have c5 : m.u.cell? ⟨wr.heap.size, 5, none⟩ = some (.int .u8 x.b.g) := (m.h.cell (p := ⟨wr.heap.size, 5, none⟩) (by simp)).trans (by simp [go_sem])
        have c6 : m.u.cell? ⟨wr.heap.size, 6, none⟩ = some (.int .u8 x.b.b) := (m.h.cell (p := ⟨wr.heap.size, 6, none⟩) (by simp)).trans (by simp [go_sem])
        have c7 : m.u.cell? ⟨wr.heap.size, 7, none⟩ = some (.int .u8 x.b.a) := (m.h.cell (p := ⟨wr.heap.size, 7, none⟩) (by simp)).trans (by simp [go_sem])
        have hrg := owns_lt hown
        have hBV : Below w1.heap.size w1 m.u := hB.trans (hB2.mono hsr)
        obtain ⟨V, hV⟩ := hV
        rw [hV] at own2 hC2 c4 c5 c6 c7 sm hBV
        rw [hV]
        clear hV hB2 d0 d1 d2 d3 d4 d5 d6 d7 d8 hn hng hmg hown hC
        obtain ⟨ww, ⟨e0, e1, e2, e3⟩, z0, z1, z2, z3⟩ := hC2
        have hfo := foldl_ok l ⟨0, 0, 0, 0⟩ (by simp [C4.ok, Byte])
        generalize hz : l.foldl C4.over ⟨0, 0, 0, 0⟩ = z at *
        have HZ := Lib.hid hz
        clear hz
        have nb1 : some w1.heap.size ≠ u3.ownBlock := fun e => by have := (hrg _ e.symm).1; omega
        have nb2 : some wr.heap.size ≠ u3.ownBlock := fun e => by have := (hrg _ e.symm).2; omega
        have hn1 : ∀ (n : Wild.NearM (fun g => u3.ownBlock = some g) V.heap.size V) (o : Nat), n.u.cell? ⟨w1.heap.size, o, none⟩ = V.cell? ⟨w1.heap.size, o, none⟩ := fun n o => n.h.cell ww (fun e => nb1 e.symm) o
        have hn2 : ∀ (n : Wild.NearM (fun g => u3.ownBlock = some g) V.heap.size V) (o : Nat), n.u.cell? ⟨wr.heap.size, o, none⟩ = V.cell? ⟨wr.heap.size, o, none⟩ := fun n o => n.h.cell (by omega) (fun e => nb2 e.symm) o
        refine Wild.wp_region_dep (fun g => u3.ownBlock = some g) (fun w' => w'.ownsRow (w1.heap.size + 1) 26 4 u3 k (flat l)) V.heap.size 9 (by kernel_rfl) (by kernel_rfl) (by rfl) (Nat.le_refl _) (fun _ _ hb h => owns_below h hb) own2 ?_
        simp only [List.take_succ_cons, List.take_zero, List.drop_succ_cons, List.drop_zero]
        iterate 3 (refine Wild.wpDep_plain (by rfl) (fun K hK => ?_); go_simp; (refine hK _ ?_; clear hK K))
        refine Wild.wpDep_make (fun v w' => ∃ g, v = .slice (some ⟨g, 0, none⟩) 1 1 ∧ V.heap.size ≤ g ∧ blockIs w' g #[.int .u8 x.b.r, .int .u8 x.b.g, .int .u8 x.b.b, .int .u8 x.b.a] 26) false (by rfl) (by rfl) ?_ (by rfl) ?_ ?_
        · rintro v a b hk ⟨g, e, hg, hc⟩
          refine ⟨g, e, hg, ?_⟩
          have hc' := hc
          unfold blockIs at hc' ⊢
          rw [hk.block g (Array.getElem?_eq_some_iff.1 hc').1 (fun e => by have := (hrg _ e).2; omega)]
          exact hc'
        · intro n
          go_simp
          exact ⟨(Below.refl _ _).alloc (Nat.le_refl _) _, n.h.size, heap_alloc_new _ _⟩
        refine Wild.wpDep_wild (fun v w' => ∃ g cap, v = .slice (some ⟨g, 0, none⟩) (k + 1) cap ∧ w'.ownsRow (w1.heap.size + 1) 26 4 v (k + 1) (flat (l ++ [x.b]))) (by rfl) (by rfl) ?_ (by rfl) ?_ ?_
        · rintro v a b hk ⟨g, cp, e, h⟩
          exact ⟨g, cp, e, owns_below h hk⟩
        · intro f n hJ hf
          obtain ⟨g, e, hg, hc⟩ := hf _ (List.mem_cons_self ..) (show (51 : Tmp) ∈ Oper.looksAt _ _ by decide)
          simp only [Wild.fillV]
          dsimp only at e
          rw [e]
          refine Wild.givesW_append _ _ _ (by rfl) (w1.heap.size + 1) 26 i0 _ 4 4 Try.underlying24 hi0 hz0 hz1 hz2 rfl (by decide) u3 k (flat l) (by rfl) hJ ⟨g, 0, none⟩ 1 1 [.int .u8 x.b.r, .int .u8 x.b.g, .int .u8 x.b.b, .int .u8 x.b.a] (by rfl) (by rfl) (World.news_of_block (cs := #[.int .u8 x.b.r, .int .u8 x.b.g, .int .u8 x.b.b, .int .u8 x.b.a]) hc) (by simp [Value.oneCell']) (by unfold maxLen; omega) (by omega) (by have := n.h.size; omega) ?_
          intro v' w' h1 h2 h3
          refine ⟨Wild.Keep.of_grown h2 (fun q hq => hq), ?_⟩
          rw [flat_app]
          rcases h1.2 with ⟨_, e⟩ | ⟨g', cp, cur, e, _⟩
          · omega
          · exact ⟨g', cp, e, h1⟩
        iterate 3 (refine Wild.wpDep_plain (by rfl) (fun K hK => ?_); go_simp; (refine hK _ ?_; clear hK K))
        refine Wild.wpDep_plain (by rfl) (fun K hK => ?_); go_simp; refine ⟨_, fun n => callsTo_of (rover_any z x.b hfo hb' _), ?_⟩; (refine hK _ ?_; clear hK K)
        refine Wild.wpDep_nil ?_
        intro f m4 hf _
        obtain ⟨gg, cp, e52, own4⟩ := hf _ (List.mem_cons_self ..)
        dsimp only at e52 own4
        simp only [Wild.fillV]
        rw [e52]
        rw [e52] at own4
        simp only [C4.val, col]
        have f0 := (hn1 m4 0).trans e0
        have f1 := (hn1 m4 1).trans e1
        have f2 := (hn1 m4 2).trans e2
        have f3 := (hn1 m4 3).trans e3
        have hz4 : ∀ o, m4.u.frozen? ⟨w1.heap.size, o, none⟩ = V.frozen? ⟨w1.heap.size, o, none⟩ := fun o => m4.h.frozen ww (fun e => nb1 e.symm) o
        have y0 := (hz4 0).trans z0
        have y1 := (hz4 1).trans z1
        have y2 := (hz4 2).trans z2
        have y3 := (hz4 3).trans z3
        have s4 := m4.h.size
        have lw : w1.heap.size < m4.u.heap.size := by omega
        have hC4 : colIn m4.u w1.heap.size z := ⟨lw, ⟨f0, f1, f2, f3⟩, y0, y1, y2, y3⟩
        have hC5 := colIn_four' hC4 (z.over x.b)
        have hgg : w1.heap.size + 1 ≤ gg := (owns_lt own4 gg rfl).1
        have hq4 : ∀ q, Value.ownBlock (.slice (some ⟨gg, 0, none⟩) (k + 1) cp) = some q → q ≠ w1.heap.size := by
          intro q hq e
          obtain rfl : gg = q := by simpa [Value.ownBlock] using hq
          omega
        have own5 := owns_four (c0 := (z.over x.b).r) (c1 := (z.over x.b).g) (c2 := (z.over x.b).b) (c3 := (z.over x.b).a) own4 (b := w1.heap.size) hq4
        have hK4 : Below w1.heap.size w1 (four m4.u w1.heap.size (z.over x.b).r (z.over x.b).g (z.over x.b).b (z.over x.b).a) :=
          (((((hBV.trans (m4.h.below (by omega) (fun k hk => by have := (hrg k hk).1; omega)))).setCell (p := ⟨w1.heap.size, 0, none⟩) (Nat.le_refl _) _).setCell (p := ⟨w1.heap.size, 1, none⟩) (Nat.le_refl _) _).setCell (p := ⟨w1.heap.size, 2, none⟩) (Nat.le_refl _) _).setCell (p := ⟨w1.heap.size, 3, none⟩) (Nat.le_refl _) _
        obtain ⟨W5, hW5⟩ : ∃ W5, four m4.u w1.heap.size (z.over x.b).r (z.over x.b).g (z.over x.b).b (z.over x.b).a = W5 := ⟨_, rfl⟩
        rw [hW5] at hC5 own5 hK4
        simp only [four] at hW5
        clear e0 e1 e2 e3 z0 z1 z2 z3 hn1 hn2 hz4
        go_wp2_with fail
        have hl1 : (l ++ [x.b]).length = k + 1 := by simp [hfl]
        have hok1 : ∀ c ∈ l ++ [x.b], c.ok := by
          intro c hc
          rcases List.mem_append.1 hc with hc | hc
          · exact hlok c hc
          · rw [List.mem_singleton.1 hc]; exact hb'
        rw [← hl1] at own5
        have hr5 := rowCols_of_own hok1 own5
        rw [hl1] at own5
        have hcl := clone_some (l ++ [x.b]) ⟨gg, 0, none⟩ cp W5 hr5 (by omega)
        rw [hl1] at hcl
        refine hcl.mono ?_
        clear hcl
        rintro e w6 ⟨g6, cp6, rfl, hr6, hB6⟩
        have hr5' := rowCols_below hr5 hB6
        have own6 := owns_below own5 hB6
        have hC6 := colIn_below hC5 hB6
        have hK6 := hK4.trans (hB6.mono (by have := hK4.size; omega))
        obtain ⟨l6, ⟨q0, q1, q2, q3⟩, p0, p1, p2, p3⟩ := hC6
        have hn6 := @near_cell w6.heap.size
        have hng := neq_self (z.over x.b)
        clear hW5
        go_wp2_with fail
        have hla : ∀ W : World, rowCols W (some ⟨gg, 0, none⟩) (l ++ [x.b]).length (l ++ [x.b]) → Calls Try.prog 15 #[col 0 0 0 0, .slice (some ⟨gg, 0, none⟩) (k + 1) cp] W fun e w' => e = .returned (z.over x.b).val ∧ Below W.heap.size W w' := by
          intro W hW
          obtain ⟨b2, off2, e2, hc2⟩ := hW.2.2.resolve_left (by simp)
          obtain ⟨rfl, rfl⟩ : gg = b2 ∧ 0 = off2 := by simpa using e2
          have := layers_row ⟨0, 0, 0, 0⟩ (by simp [C4.ok, Byte]) (l ++ [x.b]) hok1 gg 0 cp W hc2 (by omega)
          rw [List.foldl_append, HZ.out, hl1] at this
          exact this
        have heq : ∀ W : World, rowCols W (some ⟨gg, 0, none⟩) (l ++ [x.b]).length (l ++ [x.b]) → rowCols W (some ⟨g6, 0, none⟩) (l ++ [x.b]).length (l ++ [x.b]) → Calls Try.prog 16 #[.slice (some ⟨gg, 0, none⟩) (k + 1) cp, .slice (some ⟨g6, 0, none⟩) (k + 1) cp6] W fun e w' => e = .returned (.bool true) ∧ Below W.heap.size W w' := by
          intro W hW hW2
          have := equal_same (l ++ [x.b]) _ _ cp cp6 W hW hW2 (by unfold maxLen; omega)
          rw [hl1] at this
          exact this
        refine wp_region_dep w6.heap.size 11 (by kernel_rfl) (by kernel_rfl) (by rfl) (Nat.le_refl _) ?_
        simp only [List.take_succ_cons, List.take_zero, List.drop_succ_cons, List.drop_zero]
        iterate 2 (refine wpDep_plain (by rfl) (fun K hK => ?_); go_simp; (refine hK _ ?_; clear hK K))
        refine wpDep_plain (by rfl) (fun K hK => ?_); go_simp; refine ⟨_, fun n => callsTo_of (hla _ (rowCols_below hr5' n.h)), ?_⟩; (refine hK _ ?_; clear hK K)
        iterate 5 (refine wpDep_plain (by rfl) (fun K hK => ?_); go_simp; (refine hK _ ?_; clear hK K))
        refine wpDep_plain (by rfl) (fun K hK => ?_); go_simp; refine ⟨_, fun n => callsTo_of (heq _ (rowCols_below hr5' n.h) (rowCols_below (by rw [hl1]; exact hr6) n.h)), ?_⟩; (refine hK _ ?_; clear hK K)
        iterate 2 (refine wpDep_plain (by rfl) (fun K hK => ?_); go_simp; (refine hK _ ?_; clear hK K))
        refine wpDep_nil ?_
        intro f m7 _
        simp only [fillV]
        have own7 := owns_below own6 m7.h
        have hC7 := colIn_below ⟨l6, ⟨q0, q1, q2, q3⟩, p0, p1, p2, p3⟩ m7.h
        have hK7 := hK6.trans (m7.h.mono hK6.size)
        go_wp2
        go_roundw
        case rel => exact ⟨k + 1, by omega, by omega, by go_num, by rw [HS.out]; exact own7, by rw [HS.out, List.foldl_append, HZ.out]; exact hC7, hK7⟩
        case measure => simp [intOf]; omega
    · obtain rfl : k = xs.length := by omega
      go_wp2
      go_ret
      exact ⟨rfl, hBw⟩
end Go.Proofs.Ytcfollajmmlfnaa
