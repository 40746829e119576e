/- slices.SortStableFunc at ids (nineteen at most), ident.Sorted, vector.Of. -/
import Derived.Test.YtjpgabpicfcapaaM9
import Derived.Test.YtjpgabpicfcapaaM4
import Derived.Test.YtjpgabpicfcapaaV6
namespace Go.Proofs.Ytjpgabpicfcapaa
open Go.RowKit

theorem ids_of_own {w : World} {base cap g n : Nat} {l : List I3} (h : w.ownsRow base 29 3 (.slice (some ⟨g, 0, none⟩) n cap) l.length (l.flatMap enI)) : n = l.length ∧ base ≤ g ∧ ids w g l := by
  have hr : ∀ {a0 : Option Addr} {c : Nat}, Value.slice (some ⟨g, 0, none⟩) n cap = .slice a0 l.length c → rowV w a0 l.length 3 enI l → l ≠ [] → rowsAt w g 0 3 enI l := by
    intro a0 c e hr hne
    cases e
    obtain ⟨b, off, e, hc⟩ := hr.2.resolve_left hne
    cases e
    exact hc
  rcases h.2 with ⟨e, _⟩ | ⟨g', cap', cur, e, h2, h3, h4, h5, h6, h7⟩
  · cases e
  · cases e
    obtain ⟨a0, c, e2, hrow, _⟩ := rowV_of_own (en := enI) (fun _ => rfl) h
    refine ⟨rfl, h2, (Array.getElem?_eq_some_iff.1 h3).1, fun k hk => ?_⟩
    have hne : l ≠ [] := by intro e; subst e; simp at hk
    have hc := hr e2 hrow hne
    have d0 := hc.2 k hk 0 (by omega)
    have d1 := hc.2 k hk 1 (by omega)
    have d2 := hc.2 k hk 2 (by omega)
    simp only [enI, List.getElem?_cons_zero, List.getElem?_cons_succ, Nat.add_zero, Nat.zero_add] at d0 d1 d2
    have hf : ∀ o, w.frozen? ⟨g, o, none⟩ = false := fun o => by simp [World.frozen?, h3]
    exact ⟨d0, d1, d2, hf _, hf _, hf _⟩

set_option maxHeartbeats 2000000 in
theorem cloneI_own (l : List I3) (ad : Addr) (c : Nat) (w : World) (h : rowV w (some ad) l.length 3 enI l) (hlen : l.length ≤ 1000000) :
    Calls Try.prog 8 #[.slice (some ad) l.length c] w fun e w' => ∃ g cap, e = .returned (.slice (some ⟨g, 0, none⟩) l.length cap) ∧ w.heap.size ≤ g ∧ ids w' g l ∧ Below w.heap.size w w' := by
  obtain ⟨i0, hi, hz0, hz1, hz2⟩ := info_parts info_I
  have q24 : ∀ (w : World) (a : Option Addr) (n c n' c' : Nat), (binOp .eql 25 (.slice a n c) (.slice none n' c')).run Try.prog w = .ok (.bool a.isNone) w := fun w a n c n' c' => Lib.run_eql_slice_nil w _ _ a n c n' c' Try.underlying25
  have HC := Lib.hid (flat_in enI 3 (by decide) (fun _ => rfl) h)
  clear h
  go_enter Try.func8, Try.ntmps8
  go_wp2_with (at_builtin; refine wpList_append_own _ rfl _ _ 25 rfl w.heap.size 29 i0 (.agg #[.int .u64 0, .int .i64 0, .int .u64 0]) 3 24 Try.underlying25 hi hz0 hz1 hz2 rfl (by decide) _ _ _ rfl (World.ownsRow_made w #[] 0 (Nat.le_refl _) (Nat.zero_le _) rfl) ad l.length c (l.flatMap enI) rfl ?qc1 ?qc2 ?qc3 ?qc4 ?qc5 ?qc6 ?_)
  case qc1 => exact flat_len' enI 3 (fun _ => rfl) l
  case qc2 =>
    intro j u hj
    exact Lib.cell?_alloc_some _ (HC.out j u hj)
  case qc3 => exact flat_one' enI one_I l
  case qc4 => unfold maxLen; omega
  case qc5 => omega
  case qc6 => simp
  intro v' w1 hown hgrow hnil
  have hne : v' ≠ .slice none 0 0 := hnil
  clear hnil
  have hv : ∃ g n cap, v' = .slice (some ⟨g, 0, none⟩) n cap := by
    rcases hown.2 with ⟨e, _⟩ | ⟨g, cap, cur, e, _⟩
    · exact absurd e hne
    · exact ⟨_, _, _, e⟩
  obtain ⟨g, n, cap, rfl⟩ := hv
  obtain ⟨rfl, hge, hids⟩ := ids_of_own (l := l) (by simpa using hown)
  have H1 := Lib.hid hge
  have H2 := Lib.hid hids
  have HB := Lib.hid (((Below.refl _ w).alloc (Nat.le_refl _) _).grown hgrow (by simp) (by intro k hk; simp [Value.ownBlock] at hk; omega))
  clear hown hgrow hne hge hids
  go_wp2
  go_ret
  exact ⟨g, cap, rfl, H1.out, H2.out, HB.out⟩

theorem stable_any (l : List I3) (hn : l.length ≤ 19) (g c cap : Nat) (hgc : ¬ c = g) (w : World) (hg : ids w g l) (hc : holds w c [aheadV]) :
    Calls Try.prog 59 #[.slice (some ⟨g, 0, none⟩) l.length cap, .int .i64 l.length, cmpV c] w fun e w' => e = .returned (.tuple #[]) ∧ ids w' g (sortR l) ∧ holds w' c [aheadV] ∧ Wild.Keep (fun k => k = g) w.heap.size w w' := by
  have HI := Lib.hid (insertion_any l (by omega) g c cap hgc w hg hc)
  clear hg hc
  go_enter Try.func59, Try.ntmps59
  go_wp2_with fail
  go_loop [7, 8] (fun a b => a = .int .i64 0 ∧ b = .int .i64 20) (fun _ _ => 0)
  case atStart => exact ⟨rfl, rfl⟩
  case round =>
    obtain ⟨rfl, rfl⟩ := hrel
    go_wp2_with fail
    refine HI.out.mono ?_
    rintro e w1 ⟨rfl, h1, h2, h3⟩
    have H1 := Lib.hid h1
    have H2 := Lib.hid h2
    have H3 := Lib.hid h3
    clear h1 h2 h3
    go_wp2_with fail
    go_loop [6, 7, 8, 9] (fun s _ _ _ => s = .int .i64 20) (fun _ _ _ _ => 0)
    case atStart => rfl
    case round =>
      obtain rfl := hrel
      go_wp2_with fail
      exact ⟨rfl, _, results_none rfl _ _ _, rfl, H1.out, H2.out, H3.out⟩

theorem sortStable_any (l : List I3) (hn : l.length ≤ 19) (g c cap : Nat) (hgc : ¬ c = g) (w : World) (hg : ids w g l) (hc : holds w c [aheadV]) :
    Calls Try.prog 56 #[.slice (some ⟨g, 0, none⟩) l.length cap, cmpV c] w fun e w' => e = .returned (.tuple #[]) ∧ ids w' g (sortR l) ∧ holds w' c [aheadV] ∧ Wild.Keep (fun k => k = g) w.heap.size w w' := by
  have HI := Lib.hid (stable_any l hn g c cap hgc w hg hc)
  clear hg hc
  go_enter Try.func56, Try.ntmps56
  go_wp2_with fail
  refine HI.out.mono ?_
  rintro e w1 ⟨rfl, h1, h2, h3⟩
  have H1 := Lib.hid h1
  have H2 := Lib.hid h2
  have H3 := Lib.hid h3
  clear h1 h2 h3
  go_wp2_with fail
  exact ⟨rfl, _, results_none rfl _ _ _, rfl, H1.out, H2.out, H3.out⟩

theorem insertion_nil (c : Nat) (w : World) : Calls Try.prog 63 #[.slice none 0 0, .int .i64 0, .int .i64 0, cmpV c] w fun e w' => e = .returned (.tuple #[]) ∧ w = w' := by
  go_enter Try.func63, Try.ntmps63
  go_wp2_with fail
  go_loop [8] (fun i => i = .int .i64 1) (fun _ => 0)
  case atStart => rfl
  case round =>
    obtain rfl := hrel
    go_wp2_with fail
    exact ⟨rfl, _, results_none rfl _ _ _, rfl, rfl⟩
theorem stable_nil (c : Nat) (w : World) : Calls Try.prog 59 #[.slice none 0 0, .int .i64 0, cmpV c] w fun e w' => e = .returned (.tuple #[]) ∧ w = w' := by
  go_enter Try.func59, Try.ntmps59
  go_wp2_with fail
  go_loop [7, 8] (fun a b => a = .int .i64 0 ∧ b = .int .i64 20) (fun _ _ => 0)
  case atStart => exact ⟨rfl, rfl⟩
  case round =>
    obtain ⟨rfl, rfl⟩ := hrel
    go_wp2_with fail
    refine (insertion_nil c w).mono ?_
    rintro e w1 ⟨rfl, rfl⟩
    go_wp2_with fail
    go_loop [6, 7, 8, 9] (fun s _ _ _ => s = .int .i64 20) (fun _ _ _ _ => 0)
    case atStart => rfl
    case round =>
      obtain rfl := hrel
      go_wp2_with fail
      exact ⟨rfl, _, results_none rfl _ _ _, rfl, rfl⟩
theorem sortStable_nil (c : Nat) (w : World) : Calls Try.prog 56 #[.slice none 0 0, cmpV c] w fun e w' => e = .returned (.tuple #[]) ∧ w = w' := by
  go_enter Try.func56, Try.ntmps56
  go_wp2_with fail
  refine (stable_nil c w).mono ?_
  rintro e w1 ⟨rfl, rfl⟩
  go_wp2_with fail
  exact ⟨rfl, _, results_none rfl _ _ _, rfl, rfl⟩

theorem sorted_any (l : List I3) (hn : l.length ≤ 19) (a0 : Option Addr) (cap : Nat) (w : World) (hr : rowV w a0 l.length 3 enI l) (hnil : a0 = none → cap = 0) :
    Calls Try.prog 48 #[.slice a0 l.length cap, aheadV] w fun e w' => ∃ a1 c1, e = .returned (.slice a1 l.length c1) ∧ rowV w' a1 l.length 3 enI (sortR l) ∧ Below w.heap.size w w' := by
  have hmf : ∀ (fn : Fn) (first cap : Array Value) (w : World), (Instr.makeFunc fn first cap).run Try.prog w = .ok (.func fn first cap) w := fun _ _ _ _ => rfl
  have HR := Lib.hid hr
  clear hr
  cases a0 with
  | none =>
    have hl : l = [] := by
      rcases HR.out.2 with e | ⟨b, off, e, _⟩
      · exact e
      · cases e
    subst hl
    obtain rfl := hnil rfl
    go_enter Try.func48, Try.ntmps48
    go_wp2_with fail
    refine (cloneI_none _).mono ?_
    rintro e w1 ⟨rfl, hB⟩
    have H1 := Lib.hid (((Below.refl _ w).alloc (Nat.le_refl _) _).trans (hB.mono (by simp)))
    clear hB
    go_wp2_with fail
    refine (sortStable_nil _ _).mono ?_
    rintro e w2 ⟨rfl, rfl⟩
    go_wp2
    go_ret
    exact ⟨none, 0, rfl, ⟨rfl, .inl rfl⟩, H1.out⟩
  | some ad =>
    go_enter Try.func48, Try.ntmps48
    go_wp2_with fail
    have HR2 := Lib.hid (rowV_below HR.out ((Below.refl _ w).alloc (Nat.le_refl _) (.cells #[aheadV] 68)))
    refine (cloneI_own l ad cap _ HR2.out (by omega)).mono ?_
    rintro e w1 ⟨g, c1, rfl, hge, hids, hB⟩
    have C1 := Lib.hid (show holds w1 w.heap.size [aheadV] from holds_below (holds_new w _ _) hB (by simp))
    have H1 := Lib.hid (((Below.refl _ w).alloc (Nat.le_refl _) _).trans (hB.mono (by simp)))
    have HI := Lib.hid hids
    have hg1 : ¬ w.heap.size = g := by simp at hge; omega
    have hg2 : w.heap.size ≤ g := by simp at hge; omega
    have HG1 := Lib.hid hg1
    have HG2 := Lib.hid hg2
    clear hB hids hge hg1 hg2
    go_wp2_with fail
    refine (sortStable_any l hn g _ _ HG1.out _ HI.out C1.out).mono ?_
    rintro e w2 ⟨rfl, h1, h2, h3⟩
    have H2 := Lib.hid h1
    have H3 := Lib.hid (show Below w.heap.size w w2 from H1.out.trans ((h3.mono H1.out.size).below (Nat.le_refl _) (fun k hk => by rw [hk]; exact HG2.out)))
    clear h1 h2 h3
    go_wp2
    go_ret
    exact ⟨some ⟨g, 0, none⟩, c1, rfl, by have := ids_row H2.out; rwa [sortR_len] at this, H3.out⟩
theorem identSorted_any (l : List I3) (hn : l.length ≤ 19) (a0 : Option Addr) (cap : Nat) (w : World) (hr : rowV w a0 l.length 3 enI l) (hnil : a0 = none → cap = 0) :
    Calls Try.prog 40 #[.slice a0 l.length cap] w fun e w' => ∃ a1 c1, e = .returned (.slice a1 l.length c1) ∧ rowV w' a1 l.length 3 enI (sortR l) ∧ Below w.heap.size w w' := by
  have H := Lib.hid (sorted_any l hn a0 cap w hr hnil)
  clear hr
  go_enter Try.func40, Try.ntmps40
  go_wp2_with fail
  refine H.out.mono ?_
  rintro e w1 ⟨a1, c1, rfl, h1, h2⟩
  have H1 := Lib.hid h1
  have H2 := Lib.hid h2
  clear h1 h2
  go_wp2
  go_ret
  exact ⟨a1, c1, rfl, H1.out, H2.out⟩
end Go.Proofs.Ytjpgabpicfcapaa
