/- slices.Clone of a row of flat elements; slices.Equal of two rows with the same vectors. -/
import Derived.Test.YtjpgabpicfcapaaM1
import Derived.Test.YtjpgabpicfcapaaOwn
import Derived.Lib.SliceRun
namespace Go.Proofs.Ytjpgabpicfcapaa
open Go.RowKit

theorem flat_in {α : Type} (en : α → List Value) (sz : Nat) (hsz : 0 < sz) (hen : ∀ a, (en a).length = sz) {w : World} {ad : Addr} {l : List α} (h : rowV w (some ad) l.length sz en l) : ∀ j u, (l.flatMap en)[j]? = some u → w.cell? (ad.add j) = some u := by
  intro j u hj
  have hlt : j < l.length * sz := by rw [← flat_len' en sz hen]; exact (List.getElem?_eq_some_iff.1 hj).1
  rcases h.2 with e | ⟨b, off, e, hb, hc⟩
  · subst e; simp at hj
  · obtain rfl := Option.some.inj e
    have hpl : (⟨b, off, none⟩ : Addr).add j = ⟨b, off + j, none⟩ := by simp [Addr.add]
    have hk : j / sz < l.length := Nat.div_lt_of_lt_mul (by rw [Nat.mul_comm]; exact hlt)
    have hm : j % sz < sz := Nat.mod_lt _ hsz
    have hd : j / sz * sz + j % sz = j := by rw [Nat.mul_comm]; exact Nat.div_add_mod j sz
    have h1 := hc (j / sz) hk (j % sz) hm
    have h2 := flat_at en sz hen l (j / sz) hk (j % sz) hm
    rw [hpl]
    rw [show off + j / sz * sz + j % sz = off + j by omega] at h1
    rw [hd] at h2
    rw [h1, ← h2, hj]
theorem flat_one' {α : Type} (en : α → List Value) (h1 : ∀ a, ∀ u ∈ en a, u.oneCell' = true) (l : List α) : ∀ u ∈ l.flatMap en, u.oneCell' = true := by
  intro u hu
  obtain ⟨a, _, ha⟩ := List.mem_flatMap.1 hu
  exact h1 a u ha

theorem info_V : (Try.prog.info? 24).map (fun i => (i.zero, i.size, i.bytes)) = some (some (.agg #[.int .u64 0, .int .u64 0, .int .u64 0, .int .u64 0, .int .u64 0, .int .u64 0, .int .u64 0, .int .u64 0, .int .u64 0]), 9, 72) := by kernel_rfl
theorem one_V (a : V) : ∀ u ∈ vecL a, u.oneCell' = true := by
  intro u hu
  simp only [vecL, List.mem_cons, List.not_mem_nil, or_false] at hu
  rcases hu with rfl | rfl | rfl | rfl | rfl | rfl | rfl | rfl | rfl <;> rfl
set_option maxHeartbeats 2000000 in
theorem cloneV_some (l : List V) (ad : Addr) (c : Nat) (w : World) (h : rowV w (some ad) l.length 9 vecL l) (hlen : l.length ≤ 1000000) :
    Calls Try.prog 19 #[.slice (some ad) l.length c] w fun e w' => ∃ a0 cap, e = .returned (.slice a0 l.length cap) ∧ rowV w' a0 l.length 9 vecL l ∧ Below w.heap.size w w' := by
  obtain ⟨i0, hi, hz0, hz1, hz2⟩ := info_parts info_V
  have q24 : ∀ (w : World) (a : Option Addr) (n c n' c' : Nat), (binOp .eql 41 (.slice a n c) (.slice none n' c')).run Try.prog w = .ok (.bool a.isNone) w := fun w a n c n' c' => Lib.run_eql_slice_nil w _ _ a n c n' c' Try.underlying41
  have HC := Lib.hid (flat_in vecL 9 (by decide) (fun _ => rfl) h)
  clear h
  go_enter Try.func19, Try.ntmps19
  go_wp2_with (at_builtin; refine wpList_append_own _ rfl _ _ 41 rfl w.heap.size 24 i0 (.agg #[.int .u64 0, .int .u64 0, .int .u64 0, .int .u64 0, .int .u64 0, .int .u64 0, .int .u64 0, .int .u64 0, .int .u64 0]) 9 72 Try.underlying41 hi hz0 hz1 hz2 rfl (by decide) _ _ _ rfl (World.ownsRow_made w #[] 0 (Nat.le_refl _) (Nat.zero_le _) rfl) ad l.length c (l.flatMap vecL) rfl ?qc1 ?qc2 ?qc3 ?qc4 ?qc5 ?qc6 ?_)
  case qc1 => exact flat_len' vecL 9 (fun _ => rfl) l
  case qc2 =>
    intro j u hj
    exact Lib.cell?_alloc_some _ (HC.out j u hj)
  case qc3 => exact flat_one' vecL one_V l
  case qc4 => unfold maxLen; omega
  case qc5 => omega
  case qc6 => simp
  intro v' w1 hown hgrow _
  obtain ⟨a0, cap, hv, hrow, _, _, _⟩ := rowV_of_own (en := vecL) (fun _ => rfl) hown
  have HV := Lib.hid hv
  have HR := Lib.hid hrow
  have HB := Lib.hid (((Below.refl _ w).alloc (Nat.le_refl _) _).grown hgrow (by simp) (by intro k hk; simp [Value.ownBlock] at hk; omega))
  clear hv hrow hown hgrow
  go_wp2
  go_ret
  exact ⟨a0, cap, congrArg Ending.returned HV.out, HR.out, HB.out⟩
theorem cloneV_none (w : World) :
    Calls Try.prog 19 #[.slice none 0 0] w fun e w' => e = .returned (.slice none 0 0) ∧ Below w.heap.size w w' := by
  have q24 : ∀ (w : World) (a : Option Addr) (n c n' c' : Nat), (binOp .eql 41 (.slice a n c) (.slice none n' c')).run Try.prog w = .ok (.bool a.isNone) w := fun w a n c n' c' => Lib.run_eql_slice_nil w _ _ a n c n' c' Try.underlying41
  go_enter Try.func19, Try.ntmps19
  go_wp2
  go_ret
  exact ⟨rfl, Below.refl _ _⟩
/-- whatever the slice: its clone is a row of the same -/
theorem cloneV_any (l : List V) (a0 : Option Addr) (c : Nat) (w : World) (h : rowV w a0 l.length 9 vecL l) (hc : a0 = none → c = 0) (hlen : l.length ≤ 1000000) :
    Calls Try.prog 19 #[.slice a0 l.length c] w fun e w' => ∃ a1 cap, e = .returned (.slice a1 l.length cap) ∧ rowV w' a1 l.length 9 vecL l ∧ Below w.heap.size w w' := by
  cases a0 with
  | none =>
    have hl : l = [] := by
      rcases h.2 with e | ⟨b, off, e, _⟩
      · exact e
      · cases e
    subst hl
    obtain rfl := hc rfl
    exact (cloneV_none w).mono fun e w' ⟨he, hb⟩ => ⟨none, 0, he, ⟨rfl, .inl rfl⟩, hb⟩
  | some ad => exact cloneV_some l ad c w h hlen

theorem info_I : (Try.prog.info? 29).map (fun i => (i.zero, i.size, i.bytes)) = some (some (.agg #[.int .u64 0, .int .i64 0, .int .u64 0]), 3, 24) := by kernel_rfl
theorem one_I (a : I3) : ∀ u ∈ enI a, u.oneCell' = true := by
  intro u hu
  simp only [List.mem_cons, List.not_mem_nil, or_false] at hu
  rcases hu with rfl | rfl | rfl <;> rfl
set_option maxHeartbeats 2000000 in
theorem cloneI_some (l : List I3) (ad : Addr) (c : Nat) (w : World) (h : rowV w (some ad) l.length 3 enI l) (hlen : l.length ≤ 1000000) :
    Calls Try.prog 8 #[.slice (some ad) l.length c] w fun e w' => ∃ a0 cap, e = .returned (.slice a0 l.length cap) ∧ rowV w' a0 l.length 3 enI l ∧ Below w.heap.size w w' := by
  obtain ⟨i0, hi, hz0, hz1, hz2⟩ := info_parts info_I
  have q24 : ∀ (w : World) (a : Option Addr) (n c n' c' : Nat), (binOp .eql 25 (.slice a n c) (.slice none n' c')).run Try.prog w = .ok (.bool a.isNone) w := fun w a n c n' c' => Lib.run_eql_slice_nil w _ _ a n c n' c' Try.underlying25
  have HC := Lib.hid (flat_in enI 3 (by decide) (fun _ => rfl) h)
  clear h
  go_enter Try.func8, Try.ntmps8
  go_wp2_with (at_builtin; refine wpList_append_own _ rfl _ _ 25 rfl w.heap.size 29 i0 (.agg #[.int .u64 0, .int .i64 0, .int .u64 0]) 3 24 Try.underlying25 hi hz0 hz1 hz2 rfl (by decide) _ _ _ rfl (World.ownsRow_made w #[] 0 (Nat.le_refl _) (Nat.zero_le _) rfl) ad l.length c (l.flatMap enI) rfl ?qc1 ?qc2 ?qc3 ?qc4 ?qc5 ?qc6 ?_)
  case qc1 => exact flat_len' enI 3 (fun _ => rfl) l
  case qc2 =>
    intro j u hj
    exact Lib.cell?_alloc_some _ (HC.out j u hj)
  case qc3 => exact flat_one' enI one_I l
  case qc4 => unfold maxLen; omega
  case qc5 => omega
  case qc6 => simp
  intro v' w1 hown hgrow _
  obtain ⟨a0, cap, hv, hrow, _, _, _⟩ := rowV_of_own (en := enI) (fun _ => rfl) hown
  have HV := Lib.hid hv
  have HR := Lib.hid hrow
  have HB := Lib.hid (((Below.refl _ w).alloc (Nat.le_refl _) _).grown hgrow (by simp) (by intro k hk; simp [Value.ownBlock] at hk; omega))
  clear hv hrow hown hgrow
  go_wp2
  go_ret
  exact ⟨a0, cap, congrArg Ending.returned HV.out, HR.out, HB.out⟩
theorem cloneI_none (w : World) :
    Calls Try.prog 8 #[.slice none 0 0] w fun e w' => e = .returned (.slice none 0 0) ∧ Below w.heap.size w w' := by
  have q24 : ∀ (w : World) (a : Option Addr) (n c n' c' : Nat), (binOp .eql 25 (.slice a n c) (.slice none n' c')).run Try.prog w = .ok (.bool a.isNone) w := fun w a n c n' c' => Lib.run_eql_slice_nil w _ _ a n c n' c' Try.underlying25
  go_enter Try.func8, Try.ntmps8
  go_wp2
  go_ret
  exact ⟨rfl, Below.refl _ _⟩
/-- whatever the slice: its clone is a row of the same -/
theorem cloneI_any (l : List I3) (a0 : Option Addr) (c : Nat) (w : World) (h : rowV w a0 l.length 3 enI l) (hc : a0 = none → c = 0) (hlen : l.length ≤ 1000000) :
    Calls Try.prog 8 #[.slice a0 l.length c] w fun e w' => ∃ a1 cap, e = .returned (.slice a1 l.length cap) ∧ rowV w' a1 l.length 3 enI l ∧ Below w.heap.size w w' := by
  cases a0 with
  | none =>
    have hl : l = [] := by
      rcases h.2 with e | ⟨b, off, e, _⟩
      · exact e
      · cases e
    subst hl
    obtain rfl := hc rfl
    exact (cloneI_none w).mono fun e w' ⟨he, hb⟩ => ⟨none, 0, he, ⟨rfl, .inl rfl⟩, hb⟩
  | some ad => exact cloneI_some l ad c w h hlen

set_option maxHeartbeats 2000000 in
theorem equalV_same (l : List V) (a1 a2 : Option Addr) (c1 c2 : Nat) (w : World) (h1 : rowV w a1 l.length 9 vecL l) (h2 : rowV w a2 l.length 9 vecL l) (hmax : l.length ≤ 9223372036854775807) :
    Calls Try.prog 31 #[.slice a1 l.length c1, .slice a2 l.length c2] w fun e w' => e = .returned (.bool true) ∧ Below w.heap.size w w' := by
  have R1 := Lib.hid h1
  have R2 := Lib.hid h2
  clear h1 h2
  go_enter Try.func31, Try.ntmps31
  go_wp2
  go_loopw [5, 13] (fun _ i wr => ∃ k : Nat, k ≤ l.length ∧ i = .int .i64 k ∧ Below w.heap.size w wr)
    (fun _ i _ => l.length - (intOf i).toNat)
  case atStart => exact ⟨0, Nat.zero_le _, rfl, Below.refl _ _⟩
  case round =>
    obtain ⟨k, hk, rfl, hB⟩ := hrel
    have HB := Lib.hid hB
    by_cases hlt : k < l.length
    · have hne : l ≠ [] := by intro e; subst e; simp at hlt
      obtain ⟨b, off, rfl, hc⟩ := (rowV_below R1.out hB).2.resolve_left hne
      obtain ⟨b', off', rfl, hc'⟩ := (rowV_below R2.out hB).2.resolve_left hne
      have hc0 := row_cells hc k hlt
      have hc1 := row_cells hc' k hlt
      have d0 := hc0 0 (by omega)
      have f0 := hc1 0 (by omega)
      have d1 := hc0 1 (by omega)
      have f1 := hc1 1 (by omega)
      have d2 := hc0 2 (by omega)
      have f2 := hc1 2 (by omega)
      have d3 := hc0 3 (by omega)
      have f3 := hc1 3 (by omega)
      have d4 := hc0 4 (by omega)
      have f4 := hc1 4 (by omega)
      have d5 := hc0 5 (by omega)
      have f5 := hc1 5 (by omega)
      have d6 := hc0 6 (by omega)
      have f6 := hc1 6 (by omega)
      have d7 := hc0 7 (by omega)
      have f7 := hc1 7 (by omega)
      have d8 := hc0 8 (by omega)
      have f8 := hc1 8 (by omega)
      simp only [Nat.add_zero] at d0 f0
      have lb := hc.1
      have lb' := hc'.1
      clear hc hc' hc0 hc1 hne hB
      generalize l[k] = x at *
      have hneq : ∀ W, (binOp .neq 24 (vec x) (vec x)).run Try.prog W = .ok (.bool false) W := fun W => by rw [run_neq_vec, V.same_self]; rfl
      have hn2 := fun (n : Near wr.heap.size wr) (j : Nat) => near_cell wr.heap.size n b j lb
      have hn3 := fun (n : Near wr.heap.size wr) (j : Nat) => near_cell wr.heap.size n b' j lb'
      go_wp2_with fail
      refine wp_region_dep wr.heap.size 9 (by kernel_rfl) (by kernel_rfl) (by rfl) (Nat.le_refl _) ?_
      simp only [List.take_succ_cons, List.take_zero, List.drop_succ_cons, List.drop_zero]
      iterate 9 (refine wpDep_plain (by rfl) (fun K hK => ?_); go_simp; (refine hK _ ?_; clear hK K))
      refine wpDep_nil ?_
      intro f m _
      simp only [fillV]
      have HBm := Lib.hid (HB.out.trans (m.h.mono HB.out.size))
      clear hn2 hn3 hneq d0 d1 d2 d3 d4 d5 d6 d7 d8 f0 f1 f2 f3 f4 f5 f6 f7 f8
      go_wp2_with fail
      refine ⟨⟨k + 1, hlt, by go_num, HBm.out⟩, ?_⟩
      simp [intOf]; omega
    · obtain rfl : k = l.length := by omega
      clear hB
      go_wp2
      go_ret
      exact ⟨rfl, HB.out⟩
end Go.Proofs.Ytjpgabpicfcapaa
