/- Values without addresses: what a value is, read as deep data; what memory a call knows; steps that turn no other memory. No condition. -/
import Derived.WalkKit
import Derived.Below
import Derived.Laws.AppendOwn
namespace Go.Proofs.Ytgomklemldldiaa
set_option linter.unusedVariables false
set_option linter.unusedSimpArgs false
open Go.RowKit

/-- a value as data: addresses are names of blocks (places in a list), or left out -/
inductive D where
  | val (v : Value)
  | loc (i o : Nat)
  | arr (i : Nat)
  | aloc (i o : Nat)
  | own (i sz o n : Nat)
  | dpf (L : List Value)
  | slf (sz n : Nat) (L : List Value)
  | slc (sz n : Nat) (L : List Value)
  | tup (l : List D)
  | agg (l : List D)
  | dpm (l : List D)
  | slm (sz n : Nat) (l : List D)
  | fn (f : Fn) (first caps : List D)
  | ifc (t : TypeId) (d : D)
  | opt (b : Bool) (d : D)
  | hnd (i : Nat)
  | yld (i : Nat)
  | floc (i k o : Nat)
  | farr (i k : Nat)
  | faloc (i k o : Nat)
  | junk

/-- what a slot reads as -/
def lk : List (Nat × D) → Nat → Option D
  | [], _ => none
  | (k, d) :: r, t => bif Nat.beq k t then some d else lk r t

mutual
/-- it holds no name of a block -/
def D.nl : D → Bool
  | .val _ => true
  | .loc _ _ => false
  | .arr _ => false
  | .aloc _ _ => false
  | .own _ _ _ _ => false
  | .dpf _ => true
  | .slf _ _ _ => true
  | .slc _ _ _ => true
  | .tup l => D.nlL l
  | .agg l => D.nlL l
  | .dpm _ => true
  | .slm _ _ _ => true
  | .fn _ a b => D.nlL a && D.nlL b
  | .ifc _ d => d.nl
  | .opt _ d => d.nl
  | .hnd _ => false
  | .yld _ => false
  | .floc _ _ _ => false
  | .farr _ _ => false
  | .faloc _ _ _ => false
  | .junk => true
def D.nlL : List D → Bool
  | [] => true
  | d :: l => d.nl && D.nlL l
end

/-- a member of a family of blocks -/
inductive Mem where
  | gone
  | flat (T : TypeId) (L : List Value)
  | arr (T : TypeId) (sz n : Nat) (L : List Value)
def Mem.live : Mem → Bool
  | .gone => false
  | _ => true

/-- a block that a call knows -/
inductive Blk where
  | gone
  | hole
  | flat (T : TypeId) (L : List Value)
  | arr (T : TypeId) (sz n : Nat) (L : List Value)
  | mix (T : TypeId) (l : List D)
  | arx (T : TypeId) (sz n : Nat) (l : List D)
  | obj (o : Obj)
  | lp (n : Nat) (F : List (Nat × D)) (ps : Array Tmp) (assign body : Code) (st : LoopState) (pe : Option Code)
  | fam (Bs : List Mem)

def Blk.live : Blk → Bool
  | .gone | .hole => false
  | _ => true

/-- handles (the values that name the blocks), memory that stays, blocks, the world -/
structure St where
  β : List Value
  I : Nat → Prop
  M : List Blk
  w : World

def hb : Value → Option Nat
  | .pointer (some a) => some a.block
  | .slice (some a) _ _ => some a.block
  | .map (some b) => some b
  | _ => none

/-- a block that a handle names -/
def owns : Blk → Value → Nat → Prop
  | .fam Bs, h, b => ∃ (hs : List Value) (k : Nat) (B : Mem) (u : Value), h = .tuple hs.toArray ∧ Bs[k]? = some B ∧ B.live = true ∧ hs[k]? = some u ∧ hb u = some b
  | _, h, b => hb h = some b
/-- handles stay; families may grow -/
def hkeep (β β' : List Value) : Prop := (∀ (i : Nat) h, β[i]? = some h → h ≠ .nilFunc → (∀ a, h ≠ .tuple a) → β'[i]? = some h) ∧
  ∀ (i : Nat) (hs : List Value), β[i]? = some (.tuple hs.toArray) → ∃ hs' : List Value, β'[i]? = some (.tuple hs'.toArray) ∧ ∀ (k : Nat) u, hs[k]? = some u → hs'[k]? = some u
theorem hkeep_of {β β' : List Value} (h : ∀ (i : Nat) h, β[i]? = some h → h ≠ .nilFunc → β'[i]? = some h) : hkeep β β' :=
  ⟨fun i x hx hn _ => h i x hx hn, fun i hs hx => ⟨hs, h i _ hx (by simp), fun _ _ h => h⟩⟩
theorem hkeep.refl (β : List Value) : hkeep β β := hkeep_of fun _ _ h _ => h
theorem hkeep.trans {β β' β'' : List Value} (h : hkeep β β') (k : hkeep β' β'') : hkeep β β'' := by
  refine ⟨fun i x hx hn ht => k.1 i x (h.1 i x hx hn ht) hn ht, fun i hs hx => ?_⟩
  obtain ⟨hs', h1, h2⟩ := h.2 i hs hx
  obtain ⟨hs'', h3, h4⟩ := k.2 i hs' h1
  exact ⟨hs'', h3, fun j u hu => h4 j u (h2 j u hu)⟩
/-- these cells stand there -/
def cellsAt (w : World) (b o : Nat) (L : List Value) : Prop := ∀ (j : Nat) v, L[j]? = some v → w.cell? ⟨b, o + j, none⟩ = some v

inductive Rep (s : St) : D → Value → Prop
  | val (v : Value) : Rep s (.val v) v
  | loc {i o b : Nat} (h : s.β[i]? = some (.pointer (some ⟨b, 0, none⟩))) : Rep s (.loc i o) (.pointer (some ⟨b, o, none⟩))
  | arr {i : Nat} {a : Option Addr} {n c : Nat} (h : s.β[i]? = some (.slice a n c)) : Rep s (.arr i) (.slice a n c)
  | aloc {i o n c b : Nat} (h : s.β[i]? = some (.slice (some ⟨b, 0, none⟩) n c)) : Rep s (.aloc i o) (.pointer (some ⟨b, o, none⟩))
  | own {i sz o n N cap c b : Nat} {a : Option Addr} (h : s.β[i]? = some (.slice (some ⟨b, 0, none⟩) N cap)) (ha : n = 0 ∨ a = some ⟨b, o * sz, none⟩) (hN : o + n ≤ N) (hz : a = none → c = 0) (hn : n ≤ c) (hc : c ≤ maxLen) : Rep s (.own i sz o n) (.slice a n c)
  | ownnil {i sz : Nat} (h : s.β[i]? = some (.slice none 0 0)) : Rep s (.own i sz 0 0) (.slice none 0 0)
  | dpf {b o : Nat} {L : List Value} (hI : s.I b) (h : cellsAt s.w b o L) : Rep s (.dpf L) (.pointer (some ⟨b, o, none⟩))
  | slf {sz n cap : Nat} {a : Option Addr} {L : List Value} (hl : L.length = n * sz) (hn : n ≤ cap) (hc : cap ≤ maxLen) (ha : a = none → cap = 0)
      (h : L = [] ∨ ∃ b o, a = some ⟨b, o, none⟩ ∧ s.I b ∧ cellsAt s.w b o L) : Rep s (.slf sz n L) (.slice a n cap)
  | slc {sz n : Nat} {a : Option Addr} {L : List Value} (hl : L.length = n * sz) (hc : n ≤ maxLen) (ha : a = none → n = 0)
      (h : L = [] ∨ ∃ b o, a = some ⟨b, o, none⟩ ∧ s.I b ∧ cellsAt s.w b o L) : Rep s (.slc sz n L) (.slice a n n)
  | tup {l : List D} {vs : List Value} (hl : vs.length = l.length) (h : ∀ (j : Nat) d v, l[j]? = some d → vs[j]? = some v → Rep s d v) : Rep s (.tup l) (.tuple vs.toArray)
  | agg {l : List D} {vs : List Value} (hl : vs.length = l.length) (h : ∀ (j : Nat) d v, l[j]? = some d → vs[j]? = some v → Rep s d v) : Rep s (.agg l) (.agg vs.toArray)
  | dpm {b o : Nat} {l : List D} {vs : List Value} (hnl : D.nlL l = true) (hI : s.I b) (hc : cellsAt s.w b o vs) (hl : vs.length = l.length) (h : ∀ (j : Nat) d v, l[j]? = some d → vs[j]? = some v → Rep s d v) : Rep s (.dpm l) (.pointer (some ⟨b, o, none⟩))
  | slm {sz n cap : Nat} {a : Option Addr} {l : List D} {vs : List Value} (hnl : D.nlL l = true) (hl : l.length = n * sz) (hn : n ≤ cap) (hc : cap ≤ maxLen) (ha : a = none → cap = 0)
      (hv : vs.length = l.length) (h : ∀ (j : Nat) d v, l[j]? = some d → vs[j]? = some v → Rep s d v) (hm : l = [] ∨ ∃ b o, a = some ⟨b, o, none⟩ ∧ s.I b ∧ cellsAt s.w b o vs) : Rep s (.slm sz n l) (.slice a n cap)
  | fn {f : Fn} {l k : List D} {vs us : List Value} (hl : vs.length = l.length) (hk : us.length = k.length) (h : ∀ (j : Nat) d v, l[j]? = some d → vs[j]? = some v → Rep s d v)
      (h' : ∀ (j : Nat) d v, k[j]? = some d → us[j]? = some v → Rep s d v) : Rep s (.fn f l k) (.func f vs.toArray us.toArray)
  | ifc {t : TypeId} {d : D} {v : Value} (h : Rep s d v) : Rep s (.ifc t d) (.iface t v)
  | opt {b : Bool} {d : D} {v : Value} (h : b = true → Rep s d v) (hu : b = false → v = undef) : Rep s (.opt b d) v
  | hnd {i : Nat} {v : Value} (h : s.β[i]? = some v) (hn : v ≠ .nilFunc) (ht : ∀ a, v ≠ .tuple a) : Rep s (.hnd i) v
  | floc {i k o b : Nat} {hs : List Value} (h : s.β[i]? = some (.tuple hs.toArray)) (hk : hs[k]? = some (.pointer (some ⟨b, 0, none⟩))) : Rep s (.floc i k o) (.pointer (some ⟨b, o, none⟩))
  | farr {i k : Nat} {a : Option Addr} {n c : Nat} {hs : List Value} (h : s.β[i]? = some (.tuple hs.toArray)) (hk : hs[k]? = some (.slice a n c)) : Rep s (.farr i k) (.slice a n c)
  | faloc {i k o n c b : Nat} {hs : List Value} (h : s.β[i]? = some (.tuple hs.toArray)) (hk : hs[k]? = some (.slice (some ⟨b, 0, none⟩) n c)) : Rep s (.faloc i k o) (.pointer (some ⟨b, o, none⟩))
  | yld {i l : Nat} (h : s.β[i]? = some (.pointer (some ⟨l, 0, none⟩))) : Rep s (.yld i) (.func (.yield l) #[] #[])
  | junk (v : Value) : Rep s .junk v

/-- the record of a loop over a function -/
abbrev loopObj (fn : FuncId) (tmps : Array Value) (Df : Nat) (ps : Array Tmp) (assign body : Code) (st : LoopState) (pe : Option Code) : Obj :=
  .loop { state := st, pending := pe, fn, tmps, params := ps, assign, body, defers := Df }

/-- a map's handle is one -/
def mapH : Obj → Value → Prop
  | .map _ _, h => ∃ b, h = .map (some b)
  | _, _ => True
/-- what is known of a family's member -/
def MemOk (w : World) (u : Value) : Mem → Prop
  | .gone => True
  | .flat T L => ∃ b, u = .pointer (some ⟨b, 0, none⟩) ∧ w.heap[b]? = some (.cells L.toArray T (0, 0))
  | .arr T sz n L => w.ownsRow 0 T sz u n L
theorem MemOk.mono {w w' : World} {u : Value} {B : Mem} (h : MemOk w u B) (e : ∀ b, B.live = true → hb u = some b → w'.heap[b]? = w.heap[b]?) : MemOk w' u B := by
  cases B with
  | gone => trivial
  | flat T L => obtain ⟨b, rfl, h2⟩ := h; exact ⟨b, rfl, (e b rfl rfl).trans h2⟩
  | arr T sz n L =>
    refine ⟨h.1, ?_⟩
    rcases h.2 with h0 | ⟨g, cap, cur, rfl, h1, h2, h3⟩
    · exact .inl h0
    · exact .inr ⟨g, cap, cur, rfl, h1, (e g rfl rfl).trans h2, h3⟩
/-- what is known of a family -/
structure FamOk (w : World) (hs : List Value) (Bs : List Mem) : Prop where
  len : hs.length = Bs.length
  ok : ∀ (k : Nat) B u, Bs[k]? = some B → hs[k]? = some u → MemOk w u B
  inj : ∀ (k k' : Nat) (B B' : Mem) (u u' : Value) b, Bs[k]? = some B → B.live = true → hs[k]? = some u → hb u = some b → Bs[k']? = some B' → B'.live = true → hs[k']? = some u' → hb u' = some b → k = k'
/-- what is known of a block -/
def BlkOk (s : St) (h : Value) : Blk → Prop
  | .gone => True
  | .hole => h = .nilFunc
  | .flat T L => ∃ b, h = .pointer (some ⟨b, 0, none⟩) ∧ s.w.heap[b]? = some (.cells L.toArray T (0, 0))
  | .arr T sz n L => s.w.ownsRow 0 T sz h n L
  | .mix T l => ∃ (b : Nat) (vs : List Value), h = .pointer (some ⟨b, 0, none⟩) ∧ s.w.heap[b]? = some (.cells vs.toArray T (0, 0)) ∧ vs.length = l.length ∧ ∀ (j : Nat) d v, l[j]? = some d → vs[j]? = some v → Rep s d v
  | .arx T sz n l => ∃ vs : List Value, s.w.ownsRow 0 T sz h n vs ∧ vs.length = l.length ∧ ∀ (j : Nat) d v, l[j]? = some d → vs[j]? = some v → Rep s d v
  | .obj o => ∃ b, hb h = some b ∧ s.w.heap[b]? = some o ∧ mapH o h
  | .lp n F ps assign body st pe => ∃ b fn tmps Df, h = .pointer (some ⟨b, 0, none⟩) ∧ s.w.heap[b]? = some (loopObj fn tmps Df ps assign body st pe) ∧ tmps.size = n ∧ ∀ t d, lk F t = some d → Rep s d (tmps.getD t undef)
  | .fam Bs => ∃ hs : List Value, h = .tuple hs.toArray ∧ FamOk s.w hs Bs

/-- block b is one that the call may write -/
def Live (s : St) (b : Nat) : Prop := ∃ (i : Nat) (k : Blk) (h : Value), s.M[i]? = some k ∧ k.live = true ∧ s.β[i]? = some h ∧ owns k h b

structure Ok (s : St) : Prop where
  len : s.β.length = s.M.length
  blk : ∀ (i : Nat) k h, s.M[i]? = some k → s.β[i]? = some h → BlkOk s h k
  lt : ∀ b, Live s b → b < s.w.heap.size ∧ ¬ s.I b
  inj : ∀ (i j : Nat) (k k' : Blk) (h h' : Value) b, s.M[i]? = some k → k.live = true → s.β[i]? = some h → owns k h b → s.M[j]? = some k' → k'.live = true → s.β[j]? = some h' → owns k' h' b → i = j
  il : ∀ b, s.I b → b < s.w.heap.size

/-- a step: nothing but what it may write has turned -/
structure Tr (s s' : St) : Prop where
  ok : Ok s'
  hnd : hkeep s.β s'.β
  up : ∀ b, s.I b → s'.I b
  new : ∀ b, s'.I b → s.I b ∨ s.w.heap.size ≤ b ∨ Live s b
  keep : ∀ b, b < s.w.heap.size → ¬ Live s b → s'.w.heap[b]? = s.w.heap[b]?
  lv : ∀ b, Live s' b → s.w.heap.size ≤ b ∨ Live s b
  os : s'.w.os = s.w.os
  tape : s'.w.tape = s.w.tape
  output : s'.w.output = s.w.output
  size : s.w.heap.size ≤ s'.w.heap.size

theorem Tr.refl {s : St} (h : Ok s) : Tr s s :=
  ⟨h, hkeep.refl _, fun _ h => h, fun _ h => .inl h, fun _ _ _ => rfl, fun _ h => .inr h, rfl, rfl, rfl, Nat.le_refl _⟩

theorem Tr.trans {s t u : St} (h : Tr s t) (k : Tr t u) : Tr s u := by
  refine ⟨k.ok, h.hnd.trans k.hnd, fun b hb => k.up b (h.up b hb), fun b hb => ?_, fun b hlt hn => ?_, fun b hb => ?_,
    k.os.trans h.os, k.tape.trans h.tape, k.output.trans h.output, Nat.le_trans h.size k.size⟩
  · rcases k.new b hb with h1 | h1 | h1
    · exact h.new b h1
    · exact .inr (.inl (Nat.le_trans h.size h1))
    · exact .inr (h.lv b h1)
  · rw [k.keep b (Nat.lt_of_lt_of_le hlt h.size) fun hl => (h.lv b hl).elim (fun e => absurd hlt (Nat.not_lt.2 e)) hn]
    exact h.keep b hlt hn
  · rcases k.lv b hb with h1 | h1
    · exact .inl (Nat.le_trans h.size h1)
    · exact h.lv b h1

theorem cellsAt_of {w w' : World} {b o : Nat} {L : List Value} (e : w'.heap[b]? = w.heap[b]?) (h : cellsAt w b o L) : cellsAt w' b o L :=
  fun j v hj => (World.cell?_of_block (w := w) (w' := w') (a := ⟨b, o + j, none⟩) e).trans (h j v hj)

theorem Tr.imm {s s' : St} (ho : Ok s) (t : Tr s s') {b : Nat} (h : s.I b) : s'.w.heap[b]? = s.w.heap[b]? :=
  t.keep b (ho.il b h) fun hl => (ho.lt b hl).2 h

theorem Rep.monoK {s s' : St} (hnd : hkeep s.β s'.β) (up : ∀ b, s.I b → s'.I b) (imm : ∀ b, s.I b → s'.w.heap[b]? = s.w.heap[b]?) {d : D} {v : Value} (h : Rep s d v) : Rep s' d v := by
  induction h with
  | val v => exact .val v
  | loc h => exact .loc (hnd.1 _ _ h (by simp) (by simp))
  | arr h => exact .arr (hnd.1 _ _ h (by simp) (by simp))
  | aloc h => exact .aloc (hnd.1 _ _ h (by simp) (by simp))
  | own h ha hN hz hn hc => exact .own (hnd.1 _ _ h (by simp) (by simp)) ha hN hz hn hc
  | ownnil h => exact .ownnil (hnd.1 _ _ h (by simp) (by simp))
  | dpf hI h => exact .dpf (up _ hI) (cellsAt_of (imm _ hI) h)
  | slf hl hn hc ha h => exact .slf hl hn hc ha (h.imp id fun ⟨b, o, e, hI, h⟩ => ⟨b, o, e, up _ hI, cellsAt_of (imm _ hI) h⟩)
  | slc hl hc ha h => exact .slc hl hc ha (h.imp id fun ⟨b, o, e, hI, h⟩ => ⟨b, o, e, up _ hI, cellsAt_of (imm _ hI) h⟩)
  | tup hl _ ih => exact .tup hl ih
  | agg hl _ ih => exact .agg hl ih
  | dpm hnl hI hc hl _ ih => exact .dpm hnl (up _ hI) (cellsAt_of (imm _ hI) hc) hl ih
  | slm hnl hl hn hc ha hv _ hm ih => exact .slm hnl hl hn hc ha hv ih (hm.imp id fun ⟨b, o, e, hI, h⟩ => ⟨b, o, e, up _ hI, cellsAt_of (imm _ hI) h⟩)
  | fn hl hk _ _ ih ih' => exact .fn hl hk ih ih'
  | ifc _ ih => exact .ifc ih
  | opt _ hu ih => exact .opt ih hu
  | hnd h hn ht => exact .hnd (hnd.1 _ _ h hn ht) hn ht
  | yld h => exact .yld (hnd.1 _ _ h (by simp) (by simp))
  | floc h hk => obtain ⟨hs', h1, h2⟩ := hnd.2 _ _ h; exact .floc h1 (h2 _ _ hk)
  | farr h hk => obtain ⟨hs', h1, h2⟩ := hnd.2 _ _ h; exact .farr h1 (h2 _ _ hk)
  | faloc h hk => obtain ⟨hs', h1, h2⟩ := hnd.2 _ _ h; exact .faloc h1 (h2 _ _ hk)
  | junk v => exact .junk v
/-- what a value reads as stays -/
theorem Rep.mono {s s' : St} (ho : Ok s) (t : Tr s s') {d : D} {v : Value} (h : Rep s d v) : Rep s' d v := h.monoK t.hnd t.up fun b hI => t.imm ho hI

theorem BlkOk.live_ne {s : St} {h : Value} {k : Blk} (hk : BlkOk s h k) (hl : k.live = true) : h ≠ .nilFunc := by
  cases k with
  | gone => cases hl
  | hole => cases hl
  | flat T L => obtain ⟨b, rfl, _⟩ := hk; simp
  | arr T sz n L =>
    rcases hk.2 with ⟨rfl, _⟩ | ⟨g, cap, cur, rfl, _⟩ <;> simp
  | mix T l => obtain ⟨b, vs, rfl, _⟩ := hk; simp
  | arx T sz n l =>
    obtain ⟨vs, hk, _⟩ := hk
    rcases hk.2 with ⟨rfl, _⟩ | ⟨g, cap, cur, rfl, _⟩ <;> simp
  | obj o => obtain ⟨b, hk, _⟩ := hk; rintro rfl; cases hk
  | lp n F ps asg body st pe => obtain ⟨b, fn, tmps, Df, rfl, _⟩ := hk; simp
  | fam Bs => obtain ⟨hs, rfl, _⟩ := hk; simp

end Go.Proofs.Ytgomklemldldiaa
