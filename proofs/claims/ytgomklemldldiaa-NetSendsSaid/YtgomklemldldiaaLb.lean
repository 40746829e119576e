/- Steps of memory: a new block, a store, an append, memory that stays from now on. No condition. -/
import Derived.Test.YtgomklemldldiaaLa
namespace Go.Proofs.Ytgomklemldldiaa
set_option linter.unusedVariables false
set_option linter.unusedSimpArgs false
open Go.RowKit

theorem Rep.mono' {s s' : St} (hnd : ∀ (i : Nat) h, s.β[i]? = some h → h ≠ .nilFunc → s'.β[i]? = some h) (up : ∀ b, s.I b → s'.I b) (imm : ∀ b, s.I b → s'.w.heap[b]? = s.w.heap[b]?) {d : D} {v : Value} (h : Rep s d v) : Rep s' d v := h.monoK (hkeep_of hnd) up imm

theorem BlkOk.monoK {s s' : St} (hnd : hkeep s.β s'.β) (up : ∀ b, s.I b → s'.I b) (imm : ∀ b, s.I b → s'.w.heap[b]? = s.w.heap[b]?)
    {h : Value} {k : Blk} (hk : BlkOk s h k) (e : ∀ b, k.live = true → owns k h b → s'.w.heap[b]? = s.w.heap[b]?) : BlkOk s' h k := by
  cases k with
  | gone => trivial
  | hole => exact hk
  | flat T L => obtain ⟨b, rfl, h2⟩ := hk; exact ⟨b, rfl, (e b rfl rfl).trans h2⟩
  | arr T sz n L =>
    refine ⟨hk.1, ?_⟩
    rcases hk.2 with h0 | ⟨g, cap, cur, rfl, h1, h2, h3⟩
    · exact .inl h0
    · exact .inr ⟨g, cap, cur, rfl, h1, (e g rfl rfl).trans h2, h3⟩
  | mix T l => obtain ⟨b, vs, rfl, h2, h3, h4⟩ := hk; exact ⟨b, vs, rfl, (e b rfl rfl).trans h2, h3, fun j d v a c => (h4 j d v a c).monoK hnd up imm⟩
  | arx T sz n l =>
    obtain ⟨vs, hk, hl, h4⟩ := hk
    refine ⟨vs, ⟨hk.1, ?_⟩, hl, fun j d v a c => (h4 j d v a c).monoK hnd up imm⟩
    rcases hk.2 with h0 | ⟨g, cap, cur, rfl, h1, h2, h3⟩
    · exact .inl h0
    · exact .inr ⟨g, cap, cur, rfl, h1, (e g rfl rfl).trans h2, h3⟩
  | obj o => obtain ⟨b, h1, h2, h3⟩ := hk; exact ⟨b, h1, (e b rfl h1).trans h2, h3⟩
  | lp n F ps asg body st pe => obtain ⟨b, fn, tmps, Df, rfl, h2, h3, h4⟩ := hk; exact ⟨b, fn, tmps, Df, rfl, (e b rfl rfl).trans h2, h3, fun t d a => (h4 t d a).monoK hnd up imm⟩
  | fam Bs =>
    obtain ⟨hs, rfl, hf⟩ := hk
    exact ⟨hs, rfl, hf.len, fun q B u h1 h2 => (hf.ok q B u h1 h2).mono fun b hl hbb => e b rfl ⟨hs, q, B, u, rfl, h1, hl, h2, hbb⟩, hf.inj⟩
theorem BlkOk.mono {s s' : St} (hnd : ∀ (i : Nat) h, s.β[i]? = some h → h ≠ .nilFunc → s'.β[i]? = some h) (up : ∀ b, s.I b → s'.I b) (imm : ∀ b, s.I b → s'.w.heap[b]? = s.w.heap[b]?)
    {h : Value} {k : Blk} (hk : BlkOk s h k) (e : ∀ b, k.live = true → owns k h b → s'.w.heap[b]? = s.w.heap[b]?) : BlkOk s' h k := hk.monoK (hkeep_of hnd) up imm e

/-- it is no family -/
def Blk.nf : Blk → Bool
  | .fam _ => false
  | _ => true
theorem owns_nf {k : Blk} (hk : k.nf = true) {h : Value} {b : Nat} : owns k h b ↔ hb h = some b := by cases k <;> first | exact Iff.rfl | cases hk
theorem owns_hb {k : Blk} {h : Value} {b b' : Nat} (hbb : hb h = some b) (ho : owns k h b') : hb h = some b' := by
  cases k with
  | fam Bs => obtain ⟨hs, k, B, u, rfl, _⟩ := ho; cases hbb
  | _ => exact ho
theorem owns_blk {s : St} {k : Blk} {h : Value} {b b' : Nat} (hk : BlkOk s h k) (hbb : hb h = some b) : owns k h b' ↔ hb h = some b' := by
  cases k with
  | fam Bs => obtain ⟨hs, rfl, _⟩ := hk; cases hbb
  | _ => exact Iff.rfl
theorem owns_of {s : St} {k : Blk} {h : Value} {b : Nat} (hk : BlkOk s h k) (hbb : hb h = some b) : owns k h b := (owns_blk hk hbb).2 hbb
theorem live_of {s : St} {i : Nat} {k : Blk} {h : Value} {b : Nat} (h1 : s.M[i]? = some k) (h2 : k.live = true) (h3 : s.β[i]? = some h) (h4 : owns k h b) : Live s b := ⟨i, k, h, h1, h2, h3, h4⟩

/-- One block set (made, stored into, grown), others perhaps given up. -/
theorem step_set {s : St} (ho : Ok s) (j : Nat) (M1 : List Blk) (h' : Value) (k' : Blk) (w' : World)
    (hM : M1.length = s.M.length) (hM1 : ∀ (i : Nat) k, M1[i]? = some k → s.M[i]? = some k ∨ k = .gone) (hj : j < s.M.length)
    (hh : s.β[j]? = some .nilFunc ∨ s.β[j]? = some h' ∨ ∃ hs hs' : List Value, s.β[j]? = some (.tuple hs.toArray) ∧ h' = .tuple hs'.toArray ∧ ∀ (k : Nat) u, hs[k]? = some u → hs'[k]? = some u) (hn' : h' ≠ .nilFunc)
    (hblk : BlkOk ⟨s.β.set j h', s.I, M1.set j k', w'⟩ h' k')
    (hother : ∀ b, owns k' h' b → ∀ (i : Nat) k h, i ≠ j → M1[i]? = some k → k.live = true → s.β[i]? = some h → ¬ owns k h b)
    (hfrom : ∀ b, owns k' h' b → s.w.heap.size ≤ b ∨ Live s b)
    (hlt : ∀ b, owns k' h' b → b < w'.heap.size)
    (Dr : Nat → Prop) (hDr : ∀ b, Dr b → Live s b ∧ ∀ (i : Nat) k h, i ≠ j → M1[i]? = some k → k.live = true → s.β[i]? = some h → ¬ owns k h b)
    (keep : ∀ b, b < s.w.heap.size → ¬ owns k' h' b → ¬ Dr b → w'.heap[b]? = s.w.heap[b]?)
    (hos : w'.os = s.w.os) (htape : w'.tape = s.w.tape) (hout : w'.output = s.w.output) (hsz : s.w.heap.size ≤ w'.heap.size) :
    Tr s ⟨s.β.set j h', s.I, M1.set j k', w'⟩ := by
  have hlen := ho.len
  have hjb : j < s.β.length := by omega
  have hnd : hkeep s.β (s.β.set j h') := by
    refine ⟨fun i h hi hne ht => ?_, fun i hs hi => ?_⟩
    · by_cases e : j = i
      · subst e
        rcases hh with h0 | h0 | ⟨hs, hs', h0, _, _⟩
        · rw [hi] at h0; exact absurd (Option.some.inj h0) hne
        · rw [hi] at h0; rw [Option.some.inj h0]; simp [hjb]
        · rw [hi] at h0; exact absurd (Option.some.inj h0) (ht _)
      · rw [List.getElem?_set_ne e]; exact hi
    · by_cases e : j = i
      · subst e
        rcases hh with h0 | h0 | ⟨hs0, hs', h0, h1, h2⟩
        · rw [hi] at h0; cases h0
        · rw [hi] at h0; rw [← Option.some.inj h0]; exact ⟨hs, by simp [hjb], fun _ _ h => h⟩
        · rw [hi] at h0
          have e1 : hs = hs0 := by simpa using h0
          subst e1
          exact ⟨hs', by rw [h1]; simp [hjb], h2⟩
      · exact ⟨hs, by rw [List.getElem?_set_ne e]; exact hi, fun _ _ h => h⟩
  have notI : ∀ b, owns k' h' b → ¬ s.I b := fun b hb hI => (hfrom b hb).elim (fun h => absurd (ho.il b hI) (Nat.not_lt.2 h)) (fun h => (ho.lt b h).2 hI)
  have imm : ∀ b, s.I b → w'.heap[b]? = s.w.heap[b]? := fun b hI => keep b (ho.il b hI) (fun e => notI b e hI) fun hd => (ho.lt b (hDr b hd).1).2 hI
  have old : ∀ (i : Nat) k h, i ≠ j → (M1.set j k')[i]? = some k → (s.β.set j h')[i]? = some h → M1[i]? = some k ∧ s.β[i]? = some h := by
    intro i k h hne h1 h2
    rw [List.getElem?_set_ne (Ne.symm hne)] at h1 h2
    exact ⟨h1, h2⟩
  have at_j : ∀ k h, (M1.set j k')[j]? = some k → (s.β.set j h')[j]? = some h → k = k' ∧ h = h' := by
    intro k h h1 h2
    rw [List.getElem?_set_self (by omega)] at h1 h2
    exact ⟨(Option.some.inj h1).symm, (Option.some.inj h2).symm⟩
  have lv : ∀ b, Live ⟨s.β.set j h', s.I, M1.set j k', w'⟩ b → s.w.heap.size ≤ b ∨ Live s b := by
    rintro b ⟨i, k, h, h1, h2, h3, h4⟩
    by_cases e : i = j
    · subst e
      obtain ⟨rfl, rfl⟩ := at_j k h h1 h3
      exact hfrom b h4
    · obtain ⟨a1, a2⟩ := old i k h e h1 h3
      rcases hM1 i k a1 with a3 | rfl
      · exact .inr (live_of a3 h2 a2 h4)
      · cases h2
  refine ⟨⟨by simp [hM, hlen], ?_, ?_, ?_, ?_⟩, hnd, fun b h => h, fun b h => .inl h, fun b hb hn => ?_, lv, hos, htape, hout, hsz⟩
  · intro i k h h1 h2
    by_cases e : i = j
    · subst e
      obtain ⟨rfl, rfl⟩ := at_j k h h1 h2
      exact hblk
    · obtain ⟨a1, a2⟩ := old i k h e h1 h2
      rcases hM1 i k a1 with a3 | rfl
      · refine BlkOk.monoK (s := s) (s' := ⟨s.β.set j h', s.I, M1.set j k', w'⟩) hnd (fun b h => h) imm (ho.blk i k h a3 a2) fun b hl hb => keep b (ho.lt b (live_of a3 hl a2 hb)).1 (fun e2 => hother b e2 i k h e a1 hl a2 hb) fun hd => (hDr b hd).2 i k h e a1 hl a2 hb
      · trivial
  · intro b hb
    refine ⟨?_, fun hI => ?_⟩
    · obtain ⟨i, k, h, h1, h2, h3, h4⟩ := hb
      by_cases e : i = j
      · subst e
        obtain ⟨rfl, rfl⟩ := at_j k h h1 h3
        exact hlt b h4
      · obtain ⟨a1, a2⟩ := old i k h e h1 h3
        rcases hM1 i k a1 with a3 | rfl
        · exact Nat.lt_of_lt_of_le (ho.lt b (live_of a3 h2 a2 h4)).1 hsz
        · cases h2
    · rcases lv b hb with h1 | h1
      · exact absurd (ho.il b hI) (Nat.not_lt.2 h1)
      · exact (ho.lt b h1).2 hI
  · intro i i2 k k2 h h2 b h1 hl1 hb1 e1 g1 gl1 gb1 ge1
    by_cases e : i = j
    · subst e
      obtain ⟨rfl, rfl⟩ := at_j k h h1 hb1
      by_cases e' : i2 = i
      · exact e'.symm
      · obtain ⟨a1, a2⟩ := old i2 k2 h2 e' g1 gb1
        exact absurd ge1 (hother b e1 i2 k2 h2 e' a1 gl1 a2)
    · obtain ⟨a1, a2⟩ := old i k h e h1 hb1
      by_cases e' : i2 = j
      · subst e'
        obtain ⟨rfl, rfl⟩ := at_j k2 h2 g1 gb1
        exact absurd e1 (hother b ge1 i k h e a1 hl1 a2)
      · obtain ⟨c1, c2⟩ := old i2 k2 h2 e' g1 gb1
        rcases hM1 i k a1 with a3 | rfl
        · rcases hM1 i2 k2 c1 with c3 | rfl
          · exact ho.inj i i2 k k2 h h2 b a3 hl1 a2 e1 c3 gl1 c2 ge1
          · cases gl1
        · cases hl1
  · intro b hI
    exact Nat.lt_of_lt_of_le (ho.il b hI) hsz
  · refine keep b hb (fun e => ?_) fun hd => hn (hDr b hd).1
    rcases hfrom b e with h1 | h1
    · omega
    · exact hn h1

/-- Only a count of draws has moved. -/
theorem step_same {s : St} (ho : Ok s) (w' : World) (hh : w'.heap = s.w.heap) (hos : w'.os = s.w.os) (htape : w'.tape = s.w.tape) (hout : w'.output = s.w.output) : Tr s ⟨s.β, s.I, s.M, w'⟩ := by
  have hnd : ∀ (i : Nat) h, s.β[i]? = some h → h ≠ .nilFunc → s.β[i]? = some h := fun _ _ h _ => h
  refine ⟨⟨ho.len, fun i k h h1 h2 => BlkOk.mono (s := s) (s' := ⟨s.β, s.I, s.M, w'⟩) hnd (fun _ h => h) (fun b _ => by simp only [hh]) (ho.blk i k h h1 h2) (fun b _ _ => by simp only [hh]), fun b hb => ?_, ho.inj, fun b hI => ?_⟩,
    hkeep_of hnd, fun _ h => h, fun _ h => .inl h, fun b _ _ => by simp only [hh], fun _ h => .inr h, hos, htape, hout, by simp only [hh]; exact Nat.le_refl _⟩
  · show b < w'.heap.size ∧ _
    rw [hh]; exact ho.lt b hb
  · show b < w'.heap.size
    rw [hh]; exact ho.il b hI

/-- New memory that stays as it is made. -/
theorem step_imm {s : St} (ho : Ok s) (o : Obj) : Tr s ⟨s.β, fun b => s.I b ∨ b = s.w.heap.size, s.M, s.w.alloc o⟩ := by
  have hnd : ∀ (i : Nat) h, s.β[i]? = some h → h ≠ .nilFunc → s.β[i]? = some h := fun _ _ h _ => h
  have keep : ∀ b, b < s.w.heap.size → (s.w.alloc o).heap[b]? = s.w.heap[b]? := fun b h => Below.heap_alloc _ _ _ h
  refine ⟨⟨ho.len, fun i k h h1 h2 => BlkOk.mono (s := s) (s' := ⟨s.β, fun b => s.I b ∨ b = s.w.heap.size, s.M, s.w.alloc o⟩) hnd (fun _ h => .inl h) (fun b hI => keep b (ho.il b hI)) (ho.blk i k h h1 h2) (fun b hl hb => keep b (ho.lt b (live_of h1 hl h2 hb)).1), fun b hb => ?_, ho.inj, fun b hI => ?_⟩,
    hkeep_of hnd, fun _ h => .inl h, fun b h => ?_, fun b hb _ => keep b hb, fun _ h => .inr h, rfl, rfl, rfl, by simp⟩
  · have hb' : Live s b := hb
    obtain ⟨h1, h2⟩ := ho.lt b hb'
    refine ⟨by simp; omega, fun h => h.elim h2 (fun e => by omega)⟩
  · show b < (s.w.alloc o).heap.size
    simp only [World.size_alloc]
    rcases hI with h | h
    · have := ho.il b h; omega
    · omega
  · rcases h with h | h
    · exact .inl h
    · exact .inr (.inl (by omega))

/-- A place for a block that is still to be made. -/
theorem step_hole {s : St} (ho : Ok s) : Tr s ⟨s.β ++ [.nilFunc], s.I, s.M ++ [.hole], s.w⟩ := by
  have hlen := ho.len
  have hnd : ∀ (i : Nat) h, s.β[i]? = some h → h ≠ .nilFunc → (s.β ++ [Value.nilFunc])[i]? = some h := fun i h hi _ => by
    rw [List.getElem?_append_left (List.getElem?_eq_some_iff.1 hi).1]; exact hi
  have old : ∀ (i : Nat) k h, (s.M ++ [.hole])[i]? = some k → (s.β ++ [Value.nilFunc])[i]? = some h → (s.M[i]? = some k ∧ s.β[i]? = some h) ∨ (k = .hole ∧ h = .nilFunc) := by
    intro i k h h1 h2
    by_cases e : i < s.M.length
    · rw [List.getElem?_append_left e] at h1
      rw [List.getElem?_append_left (by omega)] at h2
      exact .inl ⟨h1, h2⟩
    · rw [List.getElem?_append_right (by omega)] at h1 h2
      rcases (List.getElem?_eq_some_iff.1 h1) with ⟨l1, e1⟩
      rcases (List.getElem?_eq_some_iff.1 h2) with ⟨l2, e2⟩
      simp at e1 e2
      exact .inr ⟨e1.symm, e2.symm⟩
  have lv : ∀ b, Live ⟨s.β ++ [.nilFunc], s.I, s.M ++ [.hole], s.w⟩ b → Live s b := by
    rintro b ⟨i, k, h, h1, h2, h3, h4⟩
    rcases old i k h h1 h3 with ⟨a, c⟩ | ⟨rfl, rfl⟩
    · exact live_of a h2 c h4
    · cases h2
  refine ⟨⟨by simp [hlen], fun i k h h1 h2 => ?_, fun b hb => ho.lt b (lv b hb), ?_, ho.il⟩, hkeep_of hnd, fun _ h => h, fun _ h => .inl h, fun _ _ _ => rfl, fun b h => .inr (lv b h), rfl, rfl, rfl, Nat.le_refl _⟩
  · rcases old i k h h1 h2 with ⟨a, c⟩ | ⟨rfl, rfl⟩
    · exact BlkOk.mono (s := s) (s' := ⟨s.β ++ [.nilFunc], s.I, s.M ++ [.hole], s.w⟩) hnd (fun _ h => h) (fun _ _ => rfl) (ho.blk i k h a c) (fun _ _ _ => rfl)
    · rfl
  · intro i j k k' h h' b h1 l1 b1 e1 h2 l2 b2 e2
    rcases old i k h h1 b1 with ⟨a, c⟩ | ⟨rfl, rfl⟩
    · rcases old j k' h' h2 b2 with ⟨a', c'⟩ | ⟨rfl, rfl⟩
      · exact ho.inj i j k k' h h' b a l1 c e1 a' l2 c' e2
      · cases l2
    · cases l1

end Go.Proofs.Ytgomklemldldiaa
