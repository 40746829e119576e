/- walks of pixel's Layers -/
import Derived.Test.YtcfollajmmlfnaaW4
namespace Go.Proofs.Ytcfollajmmlfnaa
open Go.RowKit

/-- a colour's numbers -/
structure C4 where
  r : Int
  g : Int
  b : Int
  a : Int
def C4.ok (c : C4) : Prop := Byte c.r ∧ Byte c.g ∧ Byte c.b ∧ Byte c.a
abbrev C4.val (c : C4) : Value := col c.r c.g c.b c.a
def C4.over (u v : C4) : C4 := ⟨coverF v.a 0 u.r v.r, coverF v.a 1 u.g v.g, coverF v.a 2 u.b v.b, coverF v.a 3 u.a v.a⟩
theorem C4.over_ok (u v : C4) : (u.over v).ok := by
  unfold C4.over C4.ok
  refine ⟨?_, ?_, ?_, ?_⟩ <;> (dsimp only; exact coverF_byte _ _ _ _)

/-- a row of colours in memory -/
def colsAt (w : World) (b off : Nat) (l : List C4) : Prop :=
  b < w.heap.size ∧ ∀ k (h : k < l.length), w.cell? ⟨b, off + k * 4, none⟩ = some (.int .u8 l[k].r) ∧ w.cell? ⟨b, off + k * 4 + 1, none⟩ = some (.int .u8 l[k].g) ∧ w.cell? ⟨b, off + k * 4 + 2, none⟩ = some (.int .u8 l[k].b) ∧ w.cell? ⟨b, off + k * 4 + 3, none⟩ = some (.int .u8 l[k].a)

/-- a colour that lies in a block of its own -/
def colIn (w : World) (b : Nat) (c : C4) : Prop :=
  b < w.heap.size ∧ (w.cell? ⟨b, 0, none⟩ = some (.int .u8 c.r) ∧ w.cell? ⟨b, 1, none⟩ = some (.int .u8 c.g) ∧ w.cell? ⟨b, 2, none⟩ = some (.int .u8 c.b) ∧ w.cell? ⟨b, 3, none⟩ = some (.int .u8 c.a)) ∧
  w.frozen? ⟨b, 0, none⟩ = false ∧ w.frozen? ⟨b, 1, none⟩ = false ∧ w.frozen? ⟨b, 2, none⟩ = false ∧ w.frozen? ⟨b, 3, none⟩ = false

theorem colIn_alloc {w : World} {b : Nat} {c : C4} (h : colIn w b c) (o : Obj) : colIn (w.alloc o) b c := by
  obtain ⟨hb, ⟨h0, h1, h2, h3⟩, z0, z1, z2, z3⟩ := h
  refine ⟨by simp; omega, ⟨?_, ?_, ?_, ?_⟩, ?_, ?_, ?_, ?_⟩
  all_goals first | rw [World.cell?_alloc_past _ _ _ hb]; assumption | rw [World.frozen?_alloc_past _ _ _ hb]; assumption

theorem colIn_four {w : World} {b B : Nat} {c : C4} (h : colIn w b c) (hB : b < B) (n : Near B w) (d : C4) : colIn (four n.u b d.r d.g d.b d.a) b d := by
  obtain ⟨hb, ⟨h0, h1, h2, h3⟩, z0, z1, z2, z3⟩ := h
  have hs := n.h.size
  have hn := near_cell B n b
  have hz := near_frozen B n b
  unfold four colIn
  refine ⟨by simp only [World.size_setCell]; omega, ⟨?_, ?_, ?_, ?_⟩, ?_, ?_, ?_, ?_⟩
  all_goals simp [go_sem, hn, hz, hB, h0, h1, h2, h3, z0, z1, z2, z3]

set_option maxHeartbeats 1000000 in
theorem cover_in (B b : Nat) (u v : C4) (w : World) (hB : B ≤ w.heap.size) (hbB : b < B) (hu : u.ok) (hv : v.ok) (hc : colIn w b u) :
    Calls Try.prog 29 #[.pointer (some ⟨b, 0, none⟩), v.val] w fun e w' =>
      e = .returned (.tuple #[]) ∧ colIn w' b (u.over v) ∧ Below b w w' ∧ w.heap.size ≤ w'.heap.size := by
  have hc' := hc
  obtain ⟨hb, ⟨h0, h1, h2, h3⟩, z0, z1, z2, z3⟩ := hc
  refine (cover_any B b u.r u.g u.b u.a v.r v.g v.b v.a w hb hB hu.1 hu.2.1 hu.2.2.1 hu.2.2.2 hv.1 hv.2.1 hv.2.2.1 hv.2.2.2 h0 h1 h2 h3 z0 z1 z2 z3).mono ?_
  rintro e w' ⟨rfl, n, rfl⟩
  refine ⟨rfl, colIn_four hc' hbB n (u.over v), ?_, ?_⟩
  · exact ((((n.h.mono (Nat.le_of_lt hbB)).setCell (p := ⟨b, 0, none⟩) (Nat.le_refl _) _).setCell (p := ⟨b, 1, none⟩) (Nat.le_refl _) _).setCell (p := ⟨b, 2, none⟩) (Nat.le_refl _) _).setCell (p := ⟨b, 3, none⟩) (Nat.le_refl _) _
  · have := n.h.size; simp [four]; omega

theorem foldl_take_succ (u : C4) (l : List C4) (k : Nat) (h : k < l.length) : (l.take (k + 1)).foldl C4.over u = ((l.take k).foldl C4.over u).over l[k] := by
  rw [List.take_succ_eq_append_getElem h, List.foldl_append]; rfl
theorem foldl_ok (l : List C4) : ∀ (u : C4), u.ok → (l.foldl C4.over u).ok := by
  induction l with
  | nil => intro u h; exact h
  | cons c l ih => intro u _; exact ih _ (C4.over_ok _ _)

set_option maxHeartbeats 1000000 in
theorem layers_row (u : C4) (hu : u.ok) (l : List C4) (hl : ∀ c ∈ l, c.ok) (b off cap : Nat) (w : World) (hc : colsAt w b off l) (hlen : l.length ≤ 1000000) :
    Calls Try.prog 15 #[u.val, .slice (some ⟨b, off, none⟩) l.length cap] w fun e w' => e = .returned (l.foldl C4.over u).val ∧ Below w.heap.size w w' := by
  go_enter Try.func15, Try.ntmps15
  go_wp2
  go_loopw [12, 7] (fun i p wr => ∃ k : Nat, k ≤ l.length ∧ i = .int .i64 k ∧ Below (w.heap.size + 1 + 1) (((w.alloc (.cells #[.int .u8 u.r, .int .u8 u.g, .int .u8 u.b, .int .u8 u.a] 26)).alloc (.cells #[.int .u8 0, .int .u8 0, .int .u8 0, .int .u8 0] 26)).alloc (.cells #[.int .u8 u.r, .int .u8 u.g, .int .u8 u.b, .int .u8 u.a] 56)) wr ∧ colIn wr (w.heap.size + 1 + 1) ((l.take k).foldl C4.over u))
    (fun i _ _ => l.length - (intOf i).toNat)
  case atStart =>
    refine ⟨0, Nat.zero_le _, rfl, Below.refl _ _, ?_⟩
    refine ⟨by simp, ⟨?_, ?_, ?_, ?_⟩, ?_, ?_, ?_, ?_⟩ <;> simp [go_sem]
  case round =>
    obtain ⟨k, hk, rfl, hB, hC⟩ := hrel
    have hs : w.heap.size + 1 + 1 < wr.heap.size := hC.1
    have hBb : Below w.heap.size w wr := (((((Below.refl _ _).alloc (Nat.le_refl _) _).alloc (by simp) _).alloc (by simp; omega) _)).trans (hB.mono (by omega))
    by_cases hlt : k < l.length
    · obtain ⟨c0, c1, c2, c3⟩ := hc.2 k hlt
      have d0 := (hBb.cell (p := ⟨b, off + k * 4, none⟩) hc.1).trans c0
      have d1 := (hBb.cell (p := ⟨b, off + k * 4 + 1, none⟩) hc.1).trans c1
      have d2 := (hBb.cell (p := ⟨b, off + k * 4 + 2, none⟩) hc.1).trans c2
      have d3 := (hBb.cell (p := ⟨b, off + k * 4 + 3, none⟩) hc.1).trans c3
      clear c0 c1 c2 c3
      have Hf := Lib.hid (foldl_take_succ u l k hlt)
      have hck := hl _ (List.getElem_mem hlt)
      generalize l[k] = c at *
      have hcu := foldl_ok (l.take k) u hu
      generalize hx : (l.take k).foldl C4.over u = x at *
      clear hx
      clear hc
      go_wp2_with (go_at_call 29; refine (cover_in (w.heap.size + 1 + 1 + 1) (w.heap.size + 1 + 1) x c _ (by simp; omega) (by omega) hcu hck (colIn_alloc hC _)).mono ?_; rintro e w' ⟨rfl, hC2, hB2, hs2⟩)
      go_roundw
      case rel => exact ⟨k + 1, hlt, by go_num, (hB.alloc (by omega) _).trans hB2, by rw [Hf.out]; exact hC2⟩
      case measure => simp [intOf]; omega
    · obtain rfl : k = l.length := by omega
      rw [List.take_length] at hC
      generalize hx : l.foldl C4.over u = x at *
      have Hx := Lib.hid hx
      clear hx
      obtain ⟨hb, ⟨h0, h1, h2, h3⟩, z0, z1, z2, z3⟩ := hC
      have e0 := hB.cell (p := ⟨w.heap.size + 1, 0, none⟩) (by dsimp only; omega)
      have e1 := hB.cell (p := ⟨w.heap.size + 1, 1, none⟩) (by dsimp only; omega)
      have e2 := hB.cell (p := ⟨w.heap.size + 1, 2, none⟩) (by dsimp only; omega)
      have e3 := hB.cell (p := ⟨w.heap.size + 1, 3, none⟩) (by dsimp only; omega)
      have f0 := hB.frozen (p := ⟨w.heap.size + 1, 0, none⟩) (by dsimp only; omega)
      have f1 := hB.frozen (p := ⟨w.heap.size + 1, 1, none⟩) (by dsimp only; omega)
      have f2 := hB.frozen (p := ⟨w.heap.size + 1, 2, none⟩) (by dsimp only; omega)
      have f3 := hB.frozen (p := ⟨w.heap.size + 1, 3, none⟩) (by dsimp only; omega)
      simp [go_sem] at e0 e1 e2 e3 f0 f1 f2 f3
      go_wp2
      refine bodyPost_ret (v := x.val) ?_ rfl ⟨by rw [Hx.out], ?_⟩
      · simp [results, Try.results15, go_sem, e0, e1, e2, e3]
      · refine Below.setCell (Below.setCell (Below.setCell (Below.setCell hBb ?_ _) ?_ _) ?_ _) ?_ _ <;> (dsimp only; omega)
end Go.Proofs.Ytcfollajmmlfnaa
