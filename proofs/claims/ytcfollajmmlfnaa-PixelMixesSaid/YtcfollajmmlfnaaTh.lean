/- A slice of two colours and a part each that came in, opened -/
import Derived.Test.YtcfollajmmlfnaaSl
import Derived.Deep.Strs
namespace Go.Proofs.Ytcfollajmmlfnaa
open Go.ChangeShapes Go.WideShapes Go.ChangeAt Go.RowKit Go.Joins Go.Deep

structure T3 where
  a : C4
  b : C4
  p : Int
def T3.ok (t : T3) : Prop := t.a.ok ∧ t.b.ok ∧ Byte t.p

theorem cells_three {H : Type} {enc : TypeId × Value → H} {w : World} {base n : Nat} {spare : Nat → Bool} {held : Bool} {cs : List Value} {x : DataW H × List MemPlace}
    (h : DataW.trod enc Try.prog w base spare held n 28 cs = some x) : ∃ t : T3, t.ok ∧ cs = [.int .u8 t.a.r, .int .u8 t.a.g, .int .u8 t.a.b, .int .u8 t.a.a, .int .u8 t.b.r, .int .u8 t.b.g, .int .u8 t.b.b, .int .u8 t.b.a, .int .u8 t.p] := by
  obtain ⟨y0, y1, y2, m, hx, hl, h0, h1, h2⟩ := trod_struct3 Try.underlying28 h
  have k1 : Try.prog.cellsOf 5 = 1 := by kernel_rfl
  have k4 : Try.prog.cellsOf 26 = 4 := by kernel_rfl
  have k9 : Try.prog.cellsOf 28 = 9 := by kernel_rfl
  rw [k9] at hl
  simp only [k1, k4] at h0 h1 h2
  obtain ⟨c, hc, e0⟩ := cells_col (by rw [List.length_take, List.length_drop]; omega) h0
  obtain ⟨d, hd, e1⟩ := cells_col (by rw [List.length_take, List.length_drop]; omega) h1
  obtain ⟨q, e2, _, wq⟩ := DataW.trod_int Try.underlying5 h2
  have bq : 0 ≤ q ∧ q ≤ 255 := by simpa [Lit.wf, IntKind.min, IntKind.max, IntKind.signed, IntKind.bits] using wq
  refine ⟨⟨c, d, q⟩, ⟨hc, hd, bq⟩, ?_⟩
  match cs, hl with
  | [c0, c1, c2, c3, c4, c5, c6, c7, c8], _ =>
    simp at e0 e1 e2
    obtain ⟨rfl, rfl, rfl, rfl⟩ := e0
    obtain ⟨rfl, rfl, rfl, rfl⟩ := e1
    subst e2
    rfl

/-- a row of these in memory -/
def threesAt (w : World) (b off : Nat) (l : List T3) : Prop :=
  b < w.heap.size ∧ ∀ k (h : k < l.length), w.cell? ⟨b, off + k * 9, none⟩ = some (.int .u8 l[k].a.r) ∧ w.cell? ⟨b, off + k * 9 + 1, none⟩ = some (.int .u8 l[k].a.g) ∧ w.cell? ⟨b, off + k * 9 + 2, none⟩ = some (.int .u8 l[k].a.b) ∧ w.cell? ⟨b, off + k * 9 + 3, none⟩ = some (.int .u8 l[k].a.a) ∧
    w.cell? ⟨b, off + k * 9 + 4, none⟩ = some (.int .u8 l[k].b.r) ∧ w.cell? ⟨b, off + k * 9 + 5, none⟩ = some (.int .u8 l[k].b.g) ∧ w.cell? ⟨b, off + k * 9 + 6, none⟩ = some (.int .u8 l[k].b.b) ∧ w.cell? ⟨b, off + k * 9 + 7, none⟩ = some (.int .u8 l[k].b.a) ∧
    w.cell? ⟨b, off + k * 9 + 8, none⟩ = some (.int .u8 l[k].p)

def rowThrees (W : World) (a0 : Option Addr) (len : Nat) (l : List T3) : Prop := len = l.length ∧ (∀ c ∈ l, c.ok) ∧ (l = [] ∨ ∃ b off, a0 = some ⟨b, off, none⟩ ∧ threesAt W b off l)

theorem cellsThree : Try.prog.cellsOf 28 = 9 := by kernel_rfl

theorem open_threes {H : Type} {enc : TypeId × Value → H} {W : World} {base : Nat} {spare : Nat → Bool} {held : Bool} {a0 : Option Addr} {len cap : Nat} {d : DataW H} {p : List MemPlace}
    (h : DataW.Trod enc Try.prog W base spare held 22 (.slice a0 len cap) d p) :
    ∃ l, rowThrees W a0 len l ∧ len ≤ cap ∧ cap ≤ maxLen := by
  obtain ⟨fuel, hf⟩ := h
  rcases open_slice Try.underlying22 hf with ⟨hcs, hx⟩ | ⟨a, len', cap', m, n, D, Pl, hcs, _, hl, hm, hmm, hx, hel⟩
  · simp [Value.cells] at hcs
    obtain ⟨rfl, rfl, rfl⟩ := hcs
    exact ⟨[], ⟨rfl, by simp, .inl rfl⟩, Nat.le_refl _, Nat.zero_le _⟩
  · simp [Value.cells] at hcs
    obtain ⟨rfl, rfl, rfl⟩ := hcs
    have hlm : len ≤ m := by rw [hmm]; split <;> omega
    rw [cellsThree] at hel
    obtain ⟨l, hll, hp⟩ := list_of len (fun i (c : T3) => c.ok ∧ W.cells? base (a.add (i * 9)) 9 = some [.int .u8 c.a.r, .int .u8 c.a.g, .int .u8 c.a.b, .int .u8 c.a.a, .int .u8 c.b.r, .int .u8 c.b.g, .int .u8 c.b.b, .int .u8 c.b.a, .int .u8 c.p]) (by
      intro i hi
      obtain ⟨cs, h1, h2⟩ := hel i (by omega)
      obtain ⟨c, hok, rfl⟩ := cells_three h2
      exact ⟨c, hok, h1⟩)
    refine ⟨l, ⟨hll.symm, ?_, ?_⟩, hl, hm⟩
    · intro c hc
      obtain ⟨i, hi, rfl⟩ := List.getElem_of_mem hc
      exact (hp i hi).1
    · by_cases h0 : l = []
      · exact .inl h0
      · right
        have hpos : 0 < l.length := List.length_pos_iff.2 h0
        obtain ⟨b, off, spot⟩ := a
        have hc0 := (World.cells?_some (hp 0 hpos).2).2.2 0 (by omega)
        have hs := World.cell?_spot (hc0.trans rfl)
        have hspot : spot = none := by simpa [Addr.add] using hs
        subst hspot
        have hpl : ∀ o k, (⟨b, o, none⟩ : Addr).add k = ⟨b, o + k, none⟩ := fun o k => by simp [Addr.add]
        refine ⟨b, off, rfl, ?_, ?_⟩
        · rw [hpl, hpl] at hc0
          exact World.block_lt_of_cell? _ _ hc0
        · intro k hk
          have hc := (World.cells?_some (hp k hk).2).2.2
          rw [hpl] at hc
          have g0 := hc 0 (by omega)
          have g1 := hc 1 (by omega)
          have g2 := hc 2 (by omega)
          have g3 := hc 3 (by omega)
          have g4 := hc 4 (by omega)
          have g5 := hc 5 (by omega)
          have g6 := hc 6 (by omega)
          have g7 := hc 7 (by omega)
          have g8 := hc 8 (by omega)
          rw [hpl] at g0 g1 g2 g3 g4 g5 g6 g7 g8
          exact ⟨g0, g1, g2, g3, g4, g5, g6, g7, g8⟩

theorem rowThrees_below {W W' : World} {a0 : Option Addr} {len : Nat} {l : List T3} (h : rowThrees W a0 len l) (hb : Below W.heap.size W W') : rowThrees W' a0 len l := by
  refine ⟨h.1, h.2.1, ?_⟩
  rcases h.2.2 with e | ⟨b, off, e, hlt, hc⟩
  · exact .inl e
  · refine .inr ⟨b, off, e, Nat.lt_of_lt_of_le hlt hb.size, fun k hk => ?_⟩
    obtain ⟨g0, g1, g2, g3, g4, g5, g6, g7, g8⟩ := hc k hk
    have q : ∀ o, W'.cell? ⟨b, o, none⟩ = W.cell? ⟨b, o, none⟩ := fun o => hb.cell (p := ⟨b, o, none⟩) hlt
    simp only [q]
    exact ⟨g0, g1, g2, g3, g4, g5, g6, g7, g8⟩
end Go.Proofs.Ytcfollajmmlfnaa
