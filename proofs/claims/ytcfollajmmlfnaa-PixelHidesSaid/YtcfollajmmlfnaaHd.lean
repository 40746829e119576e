/- PixelHides, walked -/
import Derived.RegionTactic
import Derived.ChangeAlike
import Derived.Test.YtcfollajmmlfnaaHm
namespace Go.Proofs.Ytcfollajmmlfnaa
open Go.RowKit

theorem two_stores (w1 W : World) (g7 g8 : Nat) (b : C4) (hne : ¬ g7 = g8) (h7 : w1.heap.size ≤ g7) (h8 : w1.heap.size ≤ g8) (c7 : colIn W g7 b) (c8 : colIn W g8 b) (hB : Below w1.heap.size w1 W) :
    ∃ W2, (W.setCell ⟨g7, 3, none⟩ (.int .u8 255)).setCell ⟨g8, 3, none⟩ (.int .u8 0) = W2 ∧ colIn W2 g7 b.whole ∧ colIn W2 g8 b.gone ∧ Below w1.heap.size w1 W2 := by
  obtain ⟨m7, ⟨c70, c71, c72, c73⟩, z70, z71, z72, z73⟩ := c7
  obtain ⟨m8, ⟨c80, c81, c82, c83⟩, z80, z81, z82, z83⟩ := c8
  have hne' : ¬ g8 = g7 := fun e => hne e.symm
  have hS := (hB.setCell (p := ⟨g7, 3, none⟩) h7 (.int .u8 255)).setCell (p := ⟨g8, 3, none⟩) h8 (.int .u8 0)
  clear hB
  refine ⟨_, rfl, ⟨by simp; omega, ⟨?_, ?_, ?_, ?_⟩, ?_, ?_, ?_, ?_⟩, ⟨by simp; omega, ⟨?_, ?_, ?_, ?_⟩, ?_, ?_, ?_, ?_⟩, hS⟩
  all_goals clear hS
  all_goals simp [go_sem, C4.whole, C4.gone, *]

theorem two_new (w1 : World) (b : C4) :
    colIn ((w1.alloc (.cells #[.int .u8 b.r, .int .u8 b.g, .int .u8 b.b, .int .u8 b.a] 26)).alloc (.cells #[.int .u8 b.r, .int .u8 b.g, .int .u8 b.b, .int .u8 b.a] 26)).drew w1.heap.size b ∧
    colIn ((w1.alloc (.cells #[.int .u8 b.r, .int .u8 b.g, .int .u8 b.b, .int .u8 b.a] 26)).alloc (.cells #[.int .u8 b.r, .int .u8 b.g, .int .u8 b.b, .int .u8 b.a] 26)).drew (w1.heap.size + 1) b ∧
    Below w1.heap.size w1 ((w1.alloc (.cells #[.int .u8 b.r, .int .u8 b.g, .int .u8 b.b, .int .u8 b.a] 26)).alloc (.cells #[.int .u8 b.r, .int .u8 b.g, .int .u8 b.b, .int .u8 b.a] 26)).drew := by
  have h : Below w1.heap.size w1 ((w1.alloc (.cells #[.int .u8 b.r, .int .u8 b.g, .int .u8 b.b, .int .u8 b.a] 26)).alloc (.cells #[.int .u8 b.r, .int .u8 b.g, .int .u8 b.b, .int .u8 b.a] 26)) := ((Below.refl _ _).alloc (Nat.le_refl _) _).alloc (by simp) _
  have h7 : colIn ((w1.alloc (.cells #[.int .u8 b.r, .int .u8 b.g, .int .u8 b.b, .int .u8 b.a] 26)).alloc (.cells #[.int .u8 b.r, .int .u8 b.g, .int .u8 b.b, .int .u8 b.a] 26)) w1.heap.size b := by
    refine ⟨by simp; omega, ⟨?_, ?_, ?_, ?_⟩, ?_, ?_, ?_, ?_⟩ <;> simp [go_sem]
  have h8 : colIn ((w1.alloc (.cells #[.int .u8 b.r, .int .u8 b.g, .int .u8 b.b, .int .u8 b.a] 26)).alloc (.cells #[.int .u8 b.r, .int .u8 b.g, .int .u8 b.b, .int .u8 b.a] 26)) (w1.heap.size + 1) b := by
    refine ⟨by simp, ⟨?_, ?_, ?_, ?_⟩, ?_, ?_, ?_, ?_⟩ <;> simp [go_sem]
  exact ⟨h7, h8, ⟨h.os, h.tape, h.output, h.size, h.block⟩⟩

set_option maxRecDepth 4000 in
set_option maxHeartbeats 8000000 in
theorem hides_any (a b : C4) (ha : a.ok) (hb : b.ok) (p : Int) (hp : Byte p) (w : World) :
    Calls Try.prog 6 #[a.val, b.val, .int .u8 p] w fun e w' => e = .returned (.bool true) ∧ Below w.heap.size w w' := by
  have hrA := neq_self a
  have hrB := neq_self b
  have hrW : ∀ w : World, (binOp .neq 26 (.agg #[.int .u8 b.r, .int .u8 b.g, .int .u8 b.b, .int .u8 255]) (.agg #[.int .u8 b.r, .int .u8 b.g, .int .u8 b.b, .int .u8 255])).run Try.prog w = .ok (.bool false) w := neq_self b.whole
  have heA := eql_self a
  have heW : ∀ w : World, (binOp .eql 26 (.agg #[.int .u8 b.r, .int .u8 b.g, .int .u8 b.b, .int .u8 255]) (.agg #[.int .u8 b.r, .int .u8 b.g, .int .u8 b.b, .int .u8 255])).run Try.prog w = .ok (.bool true) w := eql_self b.whole
  go_enter Try.func6, Try.ntmps6
  go_wp2_with fail
  refine (wakes_any _).mono ?_
  rintro e w1 ⟨rfl, hB1⟩
  have s1 := hB1.size
  simp only [World.size_alloc] at s1
  have ca0 : w1.cell? ⟨w.heap.size, 0, none⟩ = some (.int .u8 a.r) := (hB1.cell (p := ⟨w.heap.size, 0, none⟩) (by simp; omega)).trans (by simp [go_sem])
  have ca1 : w1.cell? ⟨w.heap.size, 1, none⟩ = some (.int .u8 a.g) := (hB1.cell (p := ⟨w.heap.size, 1, none⟩) (by simp; omega)).trans (by simp [go_sem])
  have ca2 : w1.cell? ⟨w.heap.size, 2, none⟩ = some (.int .u8 a.b) := (hB1.cell (p := ⟨w.heap.size, 2, none⟩) (by simp; omega)).trans (by simp [go_sem])
  have ca3 : w1.cell? ⟨w.heap.size, 3, none⟩ = some (.int .u8 a.a) := (hB1.cell (p := ⟨w.heap.size, 3, none⟩) (by simp; omega)).trans (by simp [go_sem])
  have cb0 : w1.cell? ⟨w.heap.size + 1, 0, none⟩ = some (.int .u8 b.r) := (hB1.cell (p := ⟨w.heap.size + 1, 0, none⟩) (by simp)).trans (by simp [go_sem])
  have cb1 : w1.cell? ⟨w.heap.size + 1, 1, none⟩ = some (.int .u8 b.g) := (hB1.cell (p := ⟨w.heap.size + 1, 1, none⟩) (by simp)).trans (by simp [go_sem])
  have cb2 : w1.cell? ⟨w.heap.size + 1, 2, none⟩ = some (.int .u8 b.b) := (hB1.cell (p := ⟨w.heap.size + 1, 2, none⟩) (by simp)).trans (by simp [go_sem])
  have cb3 : w1.cell? ⟨w.heap.size + 1, 3, none⟩ = some (.int .u8 b.a) := (hB1.cell (p := ⟨w.heap.size + 1, 3, none⟩) (by simp)).trans (by simp [go_sem])
  have hb1 : Below w.heap.size w w1 := (((Below.refl _ _).alloc (Nat.le_refl _) _).alloc (by simp) _).trans (hB1.mono (by simp; omega))
  clear hB1
  have l0 : w.heap.size < w1.heap.size := by omega
  have l1 : w.heap.size + 1 < w1.heap.size := by omega
  go_wp2
  rename_i KK hKK
  have key : ∀ (g7 g8 : Nat) (W : World), ¬ g7 = g8 → w1.heap.size ≤ g7 → w1.heap.size ≤ g8 → colIn W g7 b → colIn W g8 b → Below w1.heap.size w1 W → KK ⟨#[a.val, b.val, .int .u8 p, .pointer (some ⟨w.heap.size, 0, none⟩), .pointer (some ⟨w.heap.size + 1, 0, none⟩), undef, .bool false, .pointer (some ⟨g7, 0, none⟩), .pointer (some ⟨g8, 0, none⟩), undef, undef, undef, .bool true, .bool false, col b.r b.g b.b b.a, col b.r b.g b.b b.a, undef, undef, undef, undef, undef, undef, undef, undef, undef, undef, undef, undef, undef, undef, undef, undef, undef, undef, undef, undef, undef, undef, undef, undef, undef, undef, undef, undef, undef, undef, undef, undef, undef, undef, undef, undef, undef, undef, undef, undef, undef, undef, undef, undef, undef, undef, undef, undef, undef, undef, undef, undef, undef, undef, undef, undef, undef, undef, undef, undef, undef, undef, undef, undef, undef, undef, undef, undef, undef, undef, undef, undef, undef, undef, undef, undef, undef, undef, undef, undef, undef, undef, undef, undef, undef, undef, undef, undef, undef, undef, undef, undef, undef, undef, undef, undef, undef, undef, undef, undef, undef, undef, undef, undef, undef, undef, undef, undef, undef, undef, undef, undef, undef, undef, undef, undef, undef, undef, undef, undef, undef, undef, undef, undef, undef, undef, undef, undef, undef, undef, undef, undef, undef, undef, undef, undef, undef, undef, undef, undef, undef, undef], []⟩ W := by
    intro g7 g8 W hne h7 h8 c7 c8 hBW
    have hne' : ¬ g8 = g7 := fun e => hne e.symm
    obtain ⟨W2, hW2, d7, d8, hB2⟩ := two_stores w1 W g7 g8 b hne h7 h8 c7 c8 hBW
    obtain ⟨m7, ⟨c70, c71, c72, c73⟩, z70, z71, z72, z73⟩ := c7
    obtain ⟨m8, ⟨c80, c81, c82, c83⟩, z80, z81, z82, z83⟩ := c8
    have hne' : ¬ g8 = g7 := fun e => hne e.symm
    refine hKK _ _ ?_
    clear hKK
    go_wp2_with fail
    clear hW2 m7 c70 c71 c72 c73 z70 z71 z72 z73 m8 c80 c81 c82 c83 z80 z81 z82 z83 hBW
    obtain ⟨m7, ⟨c70, c71, c72, c73⟩, _⟩ := d7
    obtain ⟨m8, ⟨c80, c81, c82, c83⟩, _⟩ := d8
    simp only [C4.whole, C4.gone] at c70 c71 c72 c73 c80 c81 c82 c83
    have ha0 := (hB2.cell (p := ⟨w.heap.size, 0, none⟩) l0).trans ca0
    have ha1 := (hB2.cell (p := ⟨w.heap.size, 1, none⟩) l0).trans ca1
    have ha2 := (hB2.cell (p := ⟨w.heap.size, 2, none⟩) l0).trans ca2
    have ha3 := (hB2.cell (p := ⟨w.heap.size, 3, none⟩) l0).trans ca3
    have he0 := (hB2.cell (p := ⟨w.heap.size + 1, 0, none⟩) l1).trans cb0
    have he1 := (hB2.cell (p := ⟨w.heap.size + 1, 1, none⟩) l1).trans cb1
    have he2 := (hB2.cell (p := ⟨w.heap.size + 1, 2, none⟩) l1).trans cb2
    have he3 := (hB2.cell (p := ⟨w.heap.size + 1, 3, none⟩) l1).trans cb3
    clear ca0 ca1 ca2 ca3 cb0 cb1 cb2 cb3
    have sW := hB2.size
    have hBw : Below w.heap.size w W2 := hb1.trans (hB2.mono (by omega))
    clear hb1 hB2
    have k0 : w.heap.size < W2.heap.size := by omega
    have k1 : w.heap.size + 1 < W2.heap.size := by omega
    have hn := @near_cell W2.heap.size
    refine wp_region_dep W2.heap.size 33 (by kernel_rfl) (by kernel_rfl) (by rfl) (Nat.le_refl _) ?_
    simp only [List.take_succ_cons, List.take_zero, List.drop_succ_cons, List.drop_zero]
    iterate 2 (refine wpDep_plain (by rfl) (fun K hK => ?_); go_simp; (refine hK _ ?_; clear hK K))
    refine wpDep_plain (by rfl) (fun K hK => ?_); go_simp; refine ⟨_, fun n => callsTo_of (over_whole_c a b ha hb _), ?_⟩; (refine hK _ ?_; clear hK K)
    iterate 5 (refine wpDep_plain (by rfl) (fun K hK => ?_); go_simp; (refine hK _ ?_; clear hK K))
    refine wpDep_plain (by rfl) (fun K hK => ?_); go_simp; refine ⟨_, fun n => callsTo_of (over_gone_c a b ha hb _), ?_⟩; (refine hK _ ?_; clear hK K)
    iterate 6 (refine wpDep_plain (by rfl) (fun K hK => ?_); go_simp; (refine hK _ ?_; clear hK K))
    refine wpDep_plain (by rfl) (fun K hK => ?_); go_simp; refine ⟨_, fun n => callsTo_of (mix_none_c a b ha hb _), ?_⟩; (refine hK _ ?_; clear hK K)
    iterate 6 (refine wpDep_plain (by rfl) (fun K hK => ?_); go_simp; (refine hK _ ?_; clear hK K))
    refine wpDep_plain (by rfl) (fun K hK => ?_); go_simp; refine ⟨_, fun n => callsTo_of (mix_all_c a b ha hb _), ?_⟩; (refine hK _ ?_; clear hK K)
    iterate 7 (refine wpDep_plain (by rfl) (fun K hK => ?_); go_simp; (refine hK _ ?_; clear hK K))
    refine wpDep_plain (by rfl) (fun K hK => ?_); go_simp; refine ⟨_, fun n => callsTo_of (mix_same_c p a hp ha _), ?_⟩; (refine hK _ ?_; clear hK K)
    iterate 2 (refine wpDep_plain (by rfl) (fun K hK => ?_); go_simp; (refine hK _ ?_; clear hK K))
    refine wpDep_nil ?_
    intro f m _
    simp only [fillV]
    go_wp2_with fail
    refine (mix_c p a b hp ha hb _).mono ?_
    rintro e w3 ⟨rfl, hB3⟩
    obtain ⟨m3, rfl⟩ : ∃ m3 : Near W2.heap.size W2, w3 = m3.u := ⟨⟨w3, m.h.trans (hB3.mono m.h.size)⟩, rfl⟩
    clear hB3
    have hM0 : min a.r b.r ≤ (C4.mix p a b).r ∧ (C4.mix p a b).r ≤ max a.r b.r := mix_between p 0 _ _ ha.1 hb.1 hp
    have hM1 : min a.g b.g ≤ (C4.mix p a b).g ∧ (C4.mix p a b).g ≤ max a.g b.g := mix_between p 1 _ _ ha.2.1 hb.2.1 hp
    have hM2 : min a.b b.b ≤ (C4.mix p a b).b ∧ (C4.mix p a b).b ≤ max a.b b.b := mix_between p 2 _ _ ha.2.2.1 hb.2.2.1 hp
    have hM3 : min a.a b.a ≤ (C4.mix p a b).a ∧ (C4.mix p a b).a ≤ max a.a b.a := mix_between p 3 _ _ ha.2.2.2 hb.2.2.2 hp
    generalize C4.mix p a b = M at *
    have HM0 := Lib.hid hM0
    have HM1 := Lib.hid hM1
    have HM2 := Lib.hid hM2
    have HM3 := Lib.hid hM3
    clear hM0 hM1 hM2 hM3
    have s3 := m3.h.size
    have j0 : w.heap.size < m3.u.heap.size := by omega
    have j1 : w.heap.size + 1 < m3.u.heap.size := by omega
    have j7 : g7 < m3.u.heap.size := by omega
    go_wp2_with (go_at_call 28; refine (between_yes _ _ _ (by first | exact HM0.out | exact HM1.out | exact HM2.out | exact HM3.out) _).mono ?_; rintro e w' ⟨rfl, rfl⟩)
    refine (over_c a b ha hb _).mono ?_
    rintro e w4 ⟨rfl, hB4⟩
    obtain ⟨m4, rfl⟩ : ∃ m4 : Near W2.heap.size W2, w4 = m4.u := ⟨⟨w4, (m3.h.alloc s3 _).trans (hB4.mono (by simp; omega))⟩, rfl⟩
    clear hB4
    have hO0 : min a.r b.r ≤ (a.over b).r ∧ (a.over b).r ≤ max a.r b.r := cover_between b.a 0 a.r b.r (by decide) ha.1 hb.1 hb.2.2.2
    have hO1 : min a.g b.g ≤ (a.over b).g ∧ (a.over b).g ≤ max a.g b.g := cover_between b.a 1 a.g b.g (by decide) ha.2.1 hb.2.1 hb.2.2.2
    have hO2 : min a.b b.b ≤ (a.over b).b ∧ (a.over b).b ≤ max a.b b.b := cover_between b.a 2 a.b b.b (by decide) ha.2.2.1 hb.2.2.1 hb.2.2.2
    have hq1 : decide (b.a ≤ (a.over b).a) = true := decide_eq_true (cover_alpha b.a a.a ha.2.2.2 hb.2.2.2).1
    have hq2 : decide (a.a ≤ (a.over b).a) = true := decide_eq_true (cover_alpha b.a a.a ha.2.2.2 hb.2.2.2).2
    generalize a.over b = O at *
    have HO0 := Lib.hid hO0
    have HO1 := Lib.hid hO1
    have HO2 := Lib.hid hO2
    clear hO0 hO1 hO2 HM0 HM1 HM2 HM3 j0 j1 j7
    have s4 := m4.h.size
    have i0 : w.heap.size < m4.u.heap.size := by omega
    have i1 : w.heap.size + 1 < m4.u.heap.size := by omega
    have i7 : g7 < m4.u.heap.size := by omega
    have j0 : w.heap.size < m4.u.heap.size + 1 := by omega
    have j1 : w.heap.size + 1 < m4.u.heap.size + 1 := by omega
    have j7 : g7 < m4.u.heap.size + 1 := by omega
    have hn4 := @near_cell (m4.u.heap.size + 1)
    go_wp2
    refine wp_region_dep (m4.u.heap.size + 1) 57 (by kernel_rfl) (by kernel_rfl) (by rfl) (by simp) ?_
    simp only [List.take_succ_cons, List.take_zero, List.drop_succ_cons, List.drop_zero]
    iterate 7 (refine wpDep_plain (by rfl) (fun K hK => ?_); go_simp; (refine hK _ ?_; clear hK K))
    refine wpDep_plain (by rfl) (fun K hK => ?_); go_simp; refine ⟨_, fun n => callsTo_same (between_yes _ _ _ HO0.out _), ?_⟩; (refine hK _ ?_; clear hK K)
    iterate 8 (refine wpDep_plain (by rfl) (fun K hK => ?_); go_simp; (refine hK _ ?_; clear hK K))
    refine wpDep_plain (by rfl) (fun K hK => ?_); go_simp; refine ⟨_, fun n => callsTo_same (between_yes _ _ _ HO1.out _), ?_⟩; (refine hK _ ?_; clear hK K)
    iterate 9 (refine wpDep_plain (by rfl) (fun K hK => ?_); go_simp; (refine hK _ ?_; clear hK K))
    refine wpDep_plain (by rfl) (fun K hK => ?_); go_simp; refine ⟨_, fun n => callsTo_same (between_yes _ _ _ HO2.out _), ?_⟩; (refine hK _ ?_; clear hK K)
    iterate 17 (refine wpDep_plain (by rfl) (fun K hK => ?_); go_simp; (refine hK _ ?_; clear hK K))
    refine wpDep_plain (by rfl) (fun K hK => ?_); go_simp; refine ⟨_, fun n => callsTo_of (layers_nil a ha _), ?_⟩; (refine hK _ ?_; clear hK K)
    iterate 7 (refine wpDep_plain (by rfl) (fun K hK => ?_); go_simp; (refine hK _ ?_; clear hK K))
    refine wpDep_make (rowOf [b, b.whole]) (by rfl) (by rfl) (rowOf_stays _) (by rfl) ?_ ?_
    · intro n
      go_simp
      exact ⟨(Below.refl _ _).alloc (Nat.le_refl _) _, rowOf2 b b.whole n.u⟩
    refine wpDep_use (t := 153) (φ := rowOf [b, b.whole]) (by simp) (by rfl) (by simp [Act.put_size]) (by rfl) (col b.r b.g b.b 255) ?_ ?_
    · rintro x n ⟨g, rfl, hrow⟩
      go_simp
      exact callsTo_of (layers_whole a b ha hb g 2 _ hrow)
    iterate 3 (refine wpDep_plain (by rfl) (fun K hK => ?_); go_simp; (refine hK _ ?_; clear hK K))
    refine wpDep_nil ?_
    intro f2 m5 _
    simp only [fillV]
    go_wp2
    go_ret
    exact ⟨rfl, hBw.trans (((m4.h.alloc s4 _).trans (m5.h.mono (by omega))).mono (by omega))⟩
  clear hKK
  obtain ⟨t7, t8, tB⟩ := two_new w1 b
  go_region
  · exact key w1.heap.size (w1.heap.size + 1) _ (by omega) (Nat.le_refl _) (by omega) t7 t8 tB
  · exact key (w1.heap.size + 1) w1.heap.size _ (by omega) (by omega) (Nat.le_refl _) t8 t7 tB
end Go.Proofs.Ytcfollajmmlfnaa
