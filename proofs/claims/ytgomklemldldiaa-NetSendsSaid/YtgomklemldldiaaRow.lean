/- Values that came in and hold no address (numbers, bools, strings, and structs and arrays of these): their cells, opened; slices of such. No condition but the kernel's look at the type. -/
import Derived.Test.YtgomklemldldiaaProg
import Derived.OpenShut
import Derived.ChangeArms
import Derived.DataReads
import Derived.Below
import Derived.Deep.Slices
import Derived.JoinedOf
import Derived.JoinedAt
import Derived.Lib.SmallJoins
namespace Go.Proofs.Ytgomklemldldiaa
set_option linter.unusedVariables false
set_option linter.unusedSimpArgs false
open Go.RowKit Go.Deep

inductive Prim where
  | int (k : IntKind)
  | bool
  | str
def Prim.is : Prim → Value → Prop
  | .int k, v => ∃ n, v = .int k n ∧ (Lit.int k n).wf = true
  | .bool, v => ∃ b, v = .bool b
  | .str, v => ∃ s : ByteArray, v = .string s ∧ s.size ≤ maxLen
def fitsP : List Prim → List Value → Prop
  | [], [] => True
  | p :: ps, v :: vs => p.is v ∧ fitsP ps vs
  | _, _ => False
theorem fitsP_len : ∀ (ps : List Prim) (vs : List Value), fitsP ps vs → vs.length = ps.length
  | [], [], _ => rfl
  | _ :: ps, _ :: vs, h => by simp [fitsP_len ps vs h.2]
  | [], _ :: _, h => by cases h
  | _ :: _, [], h => by cases h
theorem fitsP_app : ∀ (ps qs : List Prim) (vs ws : List Value), fitsP ps vs → fitsP qs ws → fitsP (ps ++ qs) (vs ++ ws)
  | [], _, [], _, _, h => h
  | _ :: ps, qs, _ :: vs, ws, h, h' => ⟨h.1, fitsP_app ps qs vs ws h.2 h'⟩
  | [], _, _ :: _, _, h, _ => by cases h
  | _ :: _, _, [], _, h, _ => by cases h

def flatF (P : Program) (fl : TypeId → Option (List Prim)) : List Field → Nat → Option (List Prim)
  | [], _ => some []
  | f :: rest, off => if f.offset = off then (fl f.type).bind fun ps => if P.cellsOf f.type = ps.length then (flatF P fl rest (off + ps.length)).map (ps ++ ·) else none else none
/-- The cells of a type that holds no address. -/
def flatT (P : Program) : Nat → TypeId → Option (List Prim)
  | 0, _ => none
  | n + 1, t => match P.underlying t with
    | some (.int k) => some [.int k]
    | some .bool => some [.bool]
    | some .string => some [.str]
    | some (.struct fs) => (flatF P (flatT P n) fs.toList 0).bind fun ps => if P.cellsOf t = ps.length then some ps else none
    | some (.array m e) => (flatT P n e).bind fun ps => if P.cellsOf e = ps.length ∧ P.cellsOf t = m * ps.length then some (List.replicate m ps).flatten else none
    | _ => none

section
variable {H : Type} {enc : TypeId × Value → H} {P : Program} {w : World} {base : Nat} {spare : Nat → Bool} {held : Bool}

theorem flatF_fits {fl : TypeId → Option (List Prim)} {cs : List Value} (l : List Field) :
    ∀ (off : Nat) (ps : List Prim), flatF P fl l off = some ps → (∀ f ∈ l, ∀ qs, fl f.type = some qs → fitsP qs ((cs.drop f.offset).take (P.cellsOf f.type))) → fitsP ps ((cs.drop off).take ps.length) := by
  induction l with
  | nil => intro off ps h _; obtain rfl : [] = ps := by simpa [flatF] using h
           simp [fitsP]
  | cons f l ih =>
    intro off ps h hall
    unfold flatF at h
    by_cases ho : f.offset = off
    · rw [if_pos ho] at h
      obtain ⟨qs, hq, h⟩ := Option.bind_eq_some_iff.1 h
      by_cases hc : P.cellsOf f.type = qs.length
      · rw [if_pos hc] at h
        obtain ⟨rs, hr, rfl⟩ := Option.map_eq_some_iff.1 h
        have h1 := hall f (List.mem_cons_self ..) qs hq
        rw [ho, hc] at h1
        have h2 := ih _ _ hr (fun g hg => hall g (List.mem_cons_of_mem _ hg))
        have h3 := fitsP_app _ _ _ _ h1 h2
        rw [List.length_append, List.take_add, List.drop_drop]
        exact h3
      · rw [if_neg hc] at h; cases h
    · rw [if_neg ho] at h; cases h

theorem flatA_fits {ps : List Prim} {cs : List Value} (n : Nat) (h : ∀ i, i < n → fitsP ps ((cs.drop (i * ps.length)).take ps.length)) : fitsP (List.replicate n ps).flatten (cs.take (n * ps.length)) := by
  induction n with
  | zero => simp [fitsP]
  | succ n ih =>
    have h1 := ih (fun i hi => h i (by omega))
    have h2 := h n (by omega)
    rw [List.replicate_succ', List.flatten_append, Nat.succ_mul, List.take_add]
    simpa using fitsP_app _ _ _ _ h1 h2

theorem flat_trod : ∀ (f n : Nat) (t : TypeId) (ps : List Prim) (cs : List Value) (x : DataW H × List MemPlace), flatT P f t = some ps → DataW.trod enc P w base spare held n t cs = some x → fitsP ps cs := by
  intro f
  induction f with
  | zero => intro n t ps cs x h; cases h
  | succ f ih =>
    intro n t ps cs x h hx
    unfold flatT at h
    split at h
    · rename_i k hk
      obtain rfl := Option.some.inj h
      obtain ⟨a, rfl, _, hw⟩ := DataW.trod_int hk hx
      exact ⟨⟨a, rfl, hw⟩, trivial⟩
    · rename_i hk
      obtain rfl := Option.some.inj h
      obtain ⟨a, rfl, _⟩ := DataW.trod_bool hk hx
      exact ⟨⟨a, rfl⟩, trivial⟩
    · rename_i hk
      obtain rfl := Option.some.inj h
      obtain ⟨a, rfl, _, hw⟩ := DataW.trod_string hk hx
      exact ⟨⟨a, rfl, hw⟩, trivial⟩
    · rename_i fs hk
      obtain ⟨qs, hq, h⟩ := Option.bind_eq_some_iff.1 h
      split at h
      · rename_i hc
        obtain rfl := Option.some.inj h
        obtain ⟨xs, m, _, _, hl, hlen, hf⟩ := DataW.trod_struct hk hx
        have := flatF_fits (cs := cs) fs.toList 0 qs hq (fun g hg rs hrs => by
          obtain ⟨i, hi, rfl⟩ := List.getElem_of_mem hg
          have hi' : i < fs.size := by simpa using hi
          have h1 := hf i fs[i] (Array.getElem?_eq_getElem hi')
          rw [List.getElem?_eq_getElem (by omega)] at h1
          simp only [Array.getElem_toList] at hrs ⊢
          exact ih _ _ _ _ _ hrs h1)
        rw [List.drop_zero, List.take_of_length_le (by omega)] at this
        exact this
      · cases h
    · rename_i m e hk
      obtain ⟨qs, hq, h⟩ := Option.bind_eq_some_iff.1 h
      split at h
      · rename_i hc
        obtain rfl := Option.some.inj h
        obtain ⟨xs, k, _, _, hl, hlen, hf⟩ := DataW.trod_array hk hx
        have := flatA_fits (ps := qs) (cs := cs) m (fun i hi => by
          have h1 := hf i hi
          rw [List.getElem?_eq_getElem (by omega), hc.1] at h1
          exact ih _ _ _ _ _ hq h1)
        rw [List.take_of_length_le (by omega)] at this
        exact this
      · cases h
    · cases h

/-- a row in memory: each element's cells -/
def rowsAt {α : Type} (w : World) (b off sz : Nat) (en : α → List Value) (l : List α) : Prop :=
  b < w.heap.size ∧ ∀ k (h : k < l.length) j, j < sz → w.cell? ⟨b, off + k * sz + j, none⟩ = (en l[k])[j]?
/-- a slice's place and length, and what it holds -/
def rowV {α : Type} (W : World) (a0 : Option Addr) (len sz : Nat) (en : α → List Value) (l : List α) : Prop := len = l.length ∧ (l = [] ∨ ∃ b off, a0 = some ⟨b, off, none⟩ ∧ rowsAt W b off sz en l)

theorem rowV_below {α : Type} {W W' : World} {a0 : Option Addr} {len sz : Nat} {en : α → List Value} {l : List α} (h : rowV W a0 len sz en l) (hb : Below W.heap.size W W') : rowV W' a0 len sz en l := by
  refine ⟨h.1, ?_⟩
  rcases h.2 with e | ⟨b, off, e, hlt, hc⟩
  · exact .inl e
  · exact .inr ⟨b, off, e, Nat.lt_of_lt_of_le hlt hb.size, fun k hk j hj => (hb.cell (p := ⟨b, _, none⟩) hlt).trans (hc k hk j hj)⟩
theorem rowV_take {α : Type} {W : World} {a0 : Option Addr} {len sz : Nat} {en : α → List Value} {l : List α} (h : rowV W a0 len sz en l) (n : Nat) (hn : n ≤ len) : rowV W a0 n sz en (l.take n) := by
  have hl := h.1
  refine ⟨by rw [List.length_take]; omega, ?_⟩
  rcases h.2 with e | ⟨b, off, e, hlt, hc⟩
  · subst e; exact .inl (by simp)
  · refine .inr ⟨b, off, e, hlt, fun k hk j hj => ?_⟩
    rw [List.length_take] at hk
    rw [List.getElem_take]
    exact hc k (by omega) j hj

theorem list_of' {α : Type} (n : Nat) (p : Nat → α → Prop) (h : ∀ i, i < n → ∃ c, p i c) : ∃ l : List α, l.length = n ∧ ∀ i (hi : i < l.length), p i l[i] := by
  induction n with
  | zero => exact ⟨[], rfl, fun i hi => absurd hi (by simp)⟩
  | succ n ih =>
    obtain ⟨l, hl, hp⟩ := ih fun i hi => h i (by omega)
    obtain ⟨c, hc⟩ := h n (by omega)
    refine ⟨l ++ [c], by simp [hl], fun i hi => ?_⟩
    by_cases e : i < l.length
    · rw [List.getElem_append_left e]; exact hp i e
    · have : i = n := by simp [hl] at hi; omega
      subst this
      simp [List.getElem_append_right (show l.length ≤ i by omega), hl, hc]

/-- A slice whose elements hold no address, opened. -/
theorem open_row {α : Type} {t e : TypeId} {ps : List Prim} (f : Nat) (en : α → List Value) (ok : α → Prop) (hP : ∀ cs, fitsP ps cs → ∃ a, ok a ∧ cs = en a) (ht : P.underlying t = some (.slice e)) (hf : flatT P f e = some ps) (hc : P.cellsOf e = ps.length) (hpos : 0 < ps.length)
    {a0 : Option Addr} {len cap : Nat} {d : DataW H} {p : List MemPlace} (h : DataW.Trod enc P w base spare held t (.slice a0 len cap) d p) :
    ∃ l, rowV w a0 len ps.length en l ∧ (∀ a ∈ l, ok a) ∧ len ≤ cap ∧ cap ≤ maxLen ∧ (a0 = none → cap = 0) := by
  obtain ⟨fuel, hfu⟩ := h
  rcases open_slice ht hfu with ⟨hcs, hx⟩ | ⟨a, len', cap', m, n, D, Pl, hcs, _, hl, hm, hmm, hx, hel⟩
  · simp [Value.cells] at hcs
    obtain ⟨rfl, rfl, rfl⟩ := hcs
    exact ⟨[], ⟨rfl, .inl rfl⟩, by simp, Nat.le_refl _, Nat.zero_le _, fun _ => rfl⟩
  · simp [Value.cells] at hcs
    obtain ⟨rfl, rfl, rfl⟩ := hcs
    have hlm : len ≤ m := by rw [hmm]; split <;> omega
    rw [hc] at hel
    obtain ⟨l, hll, hp⟩ := list_of' len (fun i (c : α) => ok c ∧ w.cells? base (a.add (i * ps.length)) ps.length = some (en c)) (by
      intro i hi
      obtain ⟨cs, h1, h2⟩ := hel i (by omega)
      obtain ⟨c, hok, rfl⟩ := hP cs (flat_trod f _ _ _ _ _ hf h2)
      exact ⟨c, hok, h1⟩)
    refine ⟨l, ⟨hll.symm, ?_⟩, ?_, hl, hm, fun e => by cases e⟩
    · by_cases h0 : l = []
      · exact .inl h0
      · right
        have hlp : 0 < l.length := List.length_pos_iff.2 h0
        obtain ⟨b, off, spot⟩ := a
        have hg := World.cells?_some (hp 0 hlp).2
        have hc0 := hg.2.2 0 hpos
        rw [List.getElem?_eq_getElem (by rw [hg.2.1]; exact hpos)] at hc0
        replace hc0 : ∃ v0, w.cell? (((⟨b, off, spot⟩ : Addr).add (0 * ps.length)).add 0) = some v0 := ⟨_, hc0⟩
        obtain ⟨v0, hc0⟩ := hc0
        have hs := World.cell?_spot hc0
        have hspot : spot = none := by simpa [Addr.add] using hs
        subst hspot
        have hpl : ∀ o k, (⟨b, o, none⟩ : Addr).add k = ⟨b, o + k, none⟩ := fun o k => by simp [Addr.add]
        refine ⟨b, off, rfl, ?_, fun k hk j hj => ?_⟩
        · rw [hpl, hpl] at hc0
          exact World.block_lt_of_cell? _ _ hc0
        · have := (World.cells?_some (hp k hk).2).2.2 j hj
          rw [hpl, hpl] at this
          exact this
    · intro c hcm
      obtain ⟨i, hi, rfl⟩ := List.getElem_of_mem hcm
      exact (hp i hi).1
end
end Go.Proofs.Ytgomklemldldiaa
