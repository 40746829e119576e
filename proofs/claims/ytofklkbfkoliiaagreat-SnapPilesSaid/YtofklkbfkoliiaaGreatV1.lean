/- Values without addresses: what a value is, read as deep data; what memory a call knows; steps that turn no other memory; Steps of memory: a new block, a store, an append, memory that stays from now on; Frames as data, and the rules of control; Names of blocks, turned into others; blocks that are looked at as memory that stays; Loops, contracts, the entry into a call, an operation, a call; Operations, one behind the other; a call by its contract; A call by its contract, where a call stands; A region that draws its order: walked once, in the text's order. Conditions: the kernel's look at its edges. No condition. -/
import Derived.WalkKit
import Derived.Below
import Derived.Laws.AppendOwn
import Derived.RangeFuncRecord
import Derived.RangeFuncLeaves
import Derived.OrdersIn
open List renaming getElem?_eq_some_iff → qbq, getElem?_eq_getElem → qbr, length_append → qbz, getElem?_set_ne → qbC, cons_append → qbD, nil_append → qbF, getElem?_set_self → qbG, getElem?_append_left → qbI, getElem?_append_right → qbO, length_take → qbS, take_of_length_le → qbT, eq_nil_of_length_eq_zero → qbU, getD_eq_getElem?_getD → qbV, length_cons → qbW, all_eq_true → qbX, append_assoc → qbY, length_drop → qbZ, mem_cons_self → qb1, getElem?_eq_none → qb2, mem_cons_of_mem → qb4, range → qb5, mem_of_getElem? → qb7, getElem_mem → qb9, getElem?_map → qca, getElem?_drop → qcd, length_nil → qce, length_map → qcf
open Nat renaming zero_add → qbs, le_of_ble_eq_true → qbA, le_trans → qbK, le_refl → qbM, zero_le → qb3, mul_le_mul_right → qb6, blt → qcj
open Bool renaming and_eq_true → qbu, or_eq_false_iff → qbv, not_eq_true' → qbx, or_eq_true → qbE
open Option.some renaming inj → qbw
open Option renaming map_eq_some_iff → qbL
open Array renaming replicate → qb8
namespace Go.Proofs.YtofklkbfkoliiaaGreat
theorem zaf {α : Type _} {a b : α} {l : List α} : (a :: l).set 0 b = b :: l := rfl
theorem zag {α : Type _} {a b : α} {n : Nat} {l : List α} : (a :: l).set (n + 1) b = a :: l.set n b := rfl
set_option linter.unusedVariables false
set_option linter.unusedSimpArgs false
open Go.RowKit
inductive D where
 | val (v : Value)
 | loc (i o : Nat)
 | arr (i : Nat)
 | aloc (i o : Nat)
 | own (i sz o n : Nat)
 | part (i sz o n c : Nat)
 | dpf (L : List Value)
 | pin (b : Nat) (L : List Value)
 | pip (L : List Value)
 | slf (sz n : Nat) (L : List Value)
 | slc (sz n : Nat) (L : List Value)
 | tup (l : List D)
 | agg (l : List D)
 | dpm (l : List D)
 | slm (sz n : Nat) (l : List D)
 | smc (sz n : Nat) (l : List D)
 | fn (f : Fn) (first caps : List D)
 | ifc (t : TypeId) (d : D)
 | opt (b : Bool) (d : D)
 | hnd (i : Nat)
 | yld (i : Nat)
 | floc (i k o : Nat)
 | farr (i k : Nat)
 | faloc (i k o : Nat)
 | junk
def lk : List (Nat × D) → Nat → Option D
 | [], _ => none
 | (k, d) :: r, t => bif Nat.beq k t then some d else lk r t
mutual
def D.nl : D → Bool
 | .val _ => true
 | .loc _ _ => false
 | .arr _ => false
 | .aloc _ _ => false
 | .own _ _ _ _ => false
 | .part _ _ _ _ _ => false
 | .dpf _ => true
 | .pin _ _ => true
 | .pip _ => true
 | .slf _ _ _ => true
 | .slc _ _ _ => true
 | .tup l => D.nlL l
 | .agg l => D.nlL l
 | .dpm _ => true
 | .slm _ _ _ => true
 | .smc _ _ _ => true
 | .fn _ a b => D.nlL a && D.nlL b
 | .ifc _ d => d.nl
 | .opt _ d => d.nl
 | .hnd _ => false
 | .yld _ => false
 | .floc _ _ _ => false
 | .farr _ _ => false
 | .faloc _ _ _ => false
 | .junk => true
def D.nlL : List D → Bool
 | [] => true
 | d :: l => d.nl && D.nlL l
end
inductive Mem where
 | gone
 | flat (T : TypeId) (L : List Value)
 | arr (T : TypeId) (sz n : Nat) (L : List Value)
 | que (T : TypeId) (sz n : Nat) (L : List Value)
def Mem.live : Mem → Bool
 | .gone => false
 | _ => true
inductive Blk where
 | gone
 | hole
 | flat (T : TypeId) (L : List Value)
 | arr (T : TypeId) (sz n : Nat) (L : List Value)
 | mix (T : TypeId) (l : List D)
 | arx (T : TypeId) (sz n : Nat) (l : List D)
 | obj (o : Obj)
 | lp (g : Option FuncId) (n : Nat) (F : List (Nat × D)) (ps : Array Tmp) (assign body : Code) (st : LoopState) (pe : Option Code)
 | fam (Bs : List Mem)
 | glob (g : Nat) (L : List Value)
 | mpd (ks : List Int) (l : List D)
 | mit (d : D) (n : Nat) (seen : List Nat)
 | que (T : TypeId) (sz n : Nat) (L : List Value)
def Blk.live : Blk → Bool
 | .gone | .hole => false
 | _ => true
structure St where
 β : List Value
 I : Nat → Prop
 M : List Blk
 w : World
def hb : Value → Option Nat
 | .pointer (some a) => some a.block
 | .slice (some a) _ _ => some a.block
 | .map (some b) => some b
 | _ => none
def jo : Blk → Value → Nat → Prop
 | .fam Bs, h, b => ∃ (hs : List Value) (k : Nat) (B : Mem) (u : Value), h = .tuple hs.toArray ∧ Bs[k]? = some B ∧ B.live = true ∧ hs[k]? = some u ∧ hb u = some b
 | _, h, b => hb h = some b
def hkeep (β β' : List Value) : Prop := (∀ (i : Nat) h, β[i]? = some h → h ≠ .nilFunc → (∀ a, h ≠ .tuple a) → β'[i]? = some h) ∧
 ∀ (i : Nat) (hs : List Value), β[i]? = some (.tuple hs.toArray) → ∃ hs' : List Value, β'[i]? = some (.tuple hs'.toArray) ∧ ∀ (k : Nat) u, hs[k]? = some u → hs'[k]? = some u
theorem jI {β β' : List Value} (h : ∀ (i : Nat) h, β[i]? = some h → h ≠ .nilFunc → β'[i]? = some h) : hkeep β β' :=
 ⟨fun i x hx hn _ => h i x hx hn, fun i hs hx => ⟨hs, h i _ hx (by simp), fun _ _ h => h⟩⟩
theorem hkeep.refl (β : List Value) : hkeep β β := jI fun _ _ h _ => h
theorem hkeep.trans {β β' β'' : List Value} (h : hkeep β β') (k : hkeep β' β'') : hkeep β β'' := by
 refine ⟨fun i x hx hn ht => k.1 i x (h.1 i x hx hn ht) hn ht, fun i hs hx => ?_⟩
 obtain ⟨hs', h1, h2⟩ := h.2 i hs hx
 obtain ⟨hs'', h3, h4⟩ := k.2 i hs' h1
 exact ⟨hs'', h3, fun j u hu => h4 j u (h2 j u hu)⟩
def kc (w : World) (b o : Nat) (L : List Value) : Prop := ∀ (j : Nat) v, L[j]? = some v → w.cell? ⟨b, o + j, none⟩ = some v
inductive Rep (s : St) : D → Value → Prop
 | val (v : Value) : Rep s (.val v) v
 | loc {i o b : Nat} (h : s.β[i]? = some (.pointer (some ⟨b, 0, none⟩))) : Rep s (.loc i o) (.pointer (some ⟨b, o, none⟩))
 | arr {i : Nat} {a : Option Addr} {n c : Nat} (h : s.β[i]? = some (.slice a n c)) : Rep s (.arr i) (.slice a n c)
 | aloc {i o n c b : Nat} (h : s.β[i]? = some (.slice (some ⟨b, 0, none⟩) n c)) : Rep s (.aloc i o) (.pointer (some ⟨b, o, none⟩))
 | own {i sz o n N cap c b : Nat} {a : Option Addr} (h : s.β[i]? = some (.slice (some ⟨b, 0, none⟩) N cap)) (ha : n = 0 ∨ a = some ⟨b, o * sz, none⟩) (hN : o + n ≤ N) (hz : a = none → c = 0) (hn : n ≤ c) (hc : c ≤ maxLen) : Rep s (.own i sz o n) (.slice a n c)
 | ownnil {i sz : Nat} (h : s.β[i]? = some (.slice none 0 0)) : Rep s (.own i sz 0 0) (.slice none 0 0)
 | part {i sz o n c N cap b q : Nat} (h : s.β[i]? = some (.slice (some ⟨b, 0, none⟩) N cap)) (ha : c = 0 ∨ q = o * sz) (hN : o + n = N) (hn : n ≤ c) (hc : o + c ≤ cap) : Rep s (.part i sz o n c) (.slice (some ⟨b, q, none⟩) n c)
 | partnil {i sz : Nat} (h : s.β[i]? = some (.slice none 0 0)) : Rep s (.part i sz 0 0 0) (.slice none 0 0)
 | dpf {b o : Nat} {L : List Value} (hI : s.I b) (h : kc s.w b o L) : Rep s (.dpf L) (.pointer (some ⟨b, o, none⟩))
 | pin {b : Nat} {L : List Value} {A : Array Value} {T : TypeId} (hI : s.I b) (h : kc s.w b 0 L) (ho : s.w.heap[b]? = some (.cells A T (0, 0))) : Rep s (.pin b L) (.pointer (some ⟨b, 0, none⟩))
 | pip {b : Nat} {L : List Value} {A : Array Value} {T : TypeId} (hI : s.I b) (h : kc s.w b 0 L) (ho : s.w.heap[b]? = some (.cells A T (0, 0))) : Rep s (.pip L) (.pointer (some ⟨b, 0, none⟩))
 | slf {sz n cap : Nat} {a : Option Addr} {L : List Value} (hl : L.length = n * sz) (hn : n ≤ cap) (hc : cap ≤ maxLen) (ha : a = none → cap = 0)
   (h : L = [] ∨ ∃ b o, a = some ⟨b, o, none⟩ ∧ s.I b ∧ kc s.w b o L) : Rep s (.slf sz n L) (.slice a n cap)
 | slc {sz n : Nat} {a : Option Addr} {L : List Value} (hl : L.length = n * sz) (hc : n ≤ maxLen) (ha : a = none → n = 0)
   (h : L = [] ∨ ∃ b o, a = some ⟨b, o, none⟩ ∧ s.I b ∧ kc s.w b o L) : Rep s (.slc sz n L) (.slice a n n)
 | tup {l : List D} {vs : List Value} (hl : vs.length = l.length) (h : ∀ (j : Nat) d v, l[j]? = some d → vs[j]? = some v → Rep s d v) : Rep s (.tup l) (.tuple vs.toArray)
 | agg {l : List D} {vs : List Value} (hl : vs.length = l.length) (h : ∀ (j : Nat) d v, l[j]? = some d → vs[j]? = some v → Rep s d v) : Rep s (.agg l) (.agg vs.toArray)
 | dpm {b o : Nat} {l : List D} {vs : List Value} (hnl : D.nlL l = true) (hI : s.I b) (hc : kc s.w b o vs) (hl : vs.length = l.length) (h : ∀ (j : Nat) d v, l[j]? = some d → vs[j]? = some v → Rep s d v) : Rep s (.dpm l) (.pointer (some ⟨b, o, none⟩))
 | smc {sz n : Nat} {a : Option Addr} {l : List D} {vs : List Value} (hnl : D.nlL l = true) (hl : l.length = n * sz) (hc : n ≤ maxLen) (ha : a = none → n = 0)
   (hv : vs.length = l.length) (h : ∀ (j : Nat) d v, l[j]? = some d → vs[j]? = some v → Rep s d v) (hm : l = [] ∨ ∃ b o, a = some ⟨b, o, none⟩ ∧ s.I b ∧ kc s.w b o vs) : Rep s (.smc sz n l) (.slice a n n)
 | slm {sz n cap : Nat} {a : Option Addr} {l : List D} {vs : List Value} (hnl : D.nlL l = true) (hl : l.length = n * sz) (hn : n ≤ cap) (hc : cap ≤ maxLen) (ha : a = none → cap = 0)
   (hv : vs.length = l.length) (h : ∀ (j : Nat) d v, l[j]? = some d → vs[j]? = some v → Rep s d v) (hm : l = [] ∨ ∃ b o, a = some ⟨b, o, none⟩ ∧ s.I b ∧ kc s.w b o vs) : Rep s (.slm sz n l) (.slice a n cap)
 | fn {f : Fn} {l k : List D} {vs us : List Value} (hl : vs.length = l.length) (hk : us.length = k.length) (h : ∀ (j : Nat) d v, l[j]? = some d → vs[j]? = some v → Rep s d v)
   (h' : ∀ (j : Nat) d v, k[j]? = some d → us[j]? = some v → Rep s d v) : Rep s (.fn f l k) (.func f vs.toArray us.toArray)
 | ifc {t : TypeId} {d : D} {v : Value} (h : Rep s d v) : Rep s (.ifc t d) (.iface t v)
 | opt {b : Bool} {d : D} {v : Value} (h : b = true → Rep s d v) (hu : b = false → v = undef) : Rep s (.opt b d) v
 | hnd {i : Nat} {v : Value} (h : s.β[i]? = some v) (hn : v ≠ .nilFunc) (ht : ∀ a, v ≠ .tuple a) : Rep s (.hnd i) v
 | floc {i k o b : Nat} {hs : List Value} (h : s.β[i]? = some (.tuple hs.toArray)) (hk : hs[k]? = some (.pointer (some ⟨b, 0, none⟩))) : Rep s (.floc i k o) (.pointer (some ⟨b, o, none⟩))
 | farr {i k : Nat} {a : Option Addr} {n c : Nat} {hs : List Value} (h : s.β[i]? = some (.tuple hs.toArray)) (hk : hs[k]? = some (.slice a n c)) : Rep s (.farr i k) (.slice a n c)
 | faloc {i k o n c b : Nat} {hs : List Value} (h : s.β[i]? = some (.tuple hs.toArray)) (hk : hs[k]? = some (.slice (some ⟨b, 0, none⟩) n c)) : Rep s (.faloc i k o) (.pointer (some ⟨b, o, none⟩))
 | yld {i l : Nat} (h : s.β[i]? = some (.pointer (some ⟨l, 0, none⟩))) : Rep s (.yld i) (.func (.yield l) #[] #[])
 | junk (v : Value) : Rep s .junk v
abbrev yf (fn : FuncId) (tmps : Array Value) (Df : Nat) (ps : Array Tmp) (assign body : Code) (st : LoopState) (pe : Option Code) : Obj :=
 .loop { state := st, pending := pe, fn, tmps, params := ps, assign, body, defers := Df }
def mapH : Obj → Value → Prop
 | .map _ _, h => ∃ b, h = .map (some b)
 | _, _ => True
def WJ (w : World) (T : TypeId) (sz : Nat) (h : Value) (n : Nat) (L : List Value) : Prop := L.length = n * sz ∧ ((h = .slice none 0 0 ∧ n = 0) ∨
 ∃ (g q c p cap : Nat) (cur : Array Value), h = .slice (some ⟨g, q, none⟩) n c ∧ w.heap[g]? = some (.cells cur T (0, 0)) ∧ n ≤ c ∧ p + c ≤ cap ∧ cap ≤ maxLen ∧ cur.size = cap * sz ∧ (c = 0 ∨ q = p * sz) ∧ (cur.toList.drop (p * sz)).take (n * sz) = L)
def MemOk (w : World) (u : Value) : Mem → Prop
 | .gone => True
 | .flat T L => ∃ b, u = .pointer (some ⟨b, 0, none⟩) ∧ w.heap[b]? = some (.cells L.toArray T (0, 0))
 | .arr T sz n L => w.ownsRow 0 T sz u n L
 | .que T sz n L => WJ w T sz u n L
theorem MemOk.mono {w w' : World} {u : Value} {B : Mem} (h : MemOk w u B) (e : ∀ b, B.live = true → hb u = some b → w'.heap[b]? = w.heap[b]?) : MemOk w' u B := by
 cases B with
 | gone => trivial
 | flat T L => obtain ⟨b, rfl, h2⟩ := h; exact ⟨b, rfl, (e b rfl rfl).trans h2⟩
 | arr T sz n L =>
  refine ⟨h.1, ?_⟩
  rcases h.2 with h0 | ⟨g, cap, cur, rfl, h1, h2, h3⟩
  ·exact .inl h0
  ·exact .inr ⟨g, cap, cur, rfl, h1, (e g rfl rfl).trans h2, h3⟩
 | que T sz n L =>
  refine ⟨h.1, ?_⟩
  rcases h.2 with h0 | ⟨g, q, c, p, cap, cur, rfl, h2, h3⟩
  ·exact .inl h0
  ·exact .inr ⟨g, q, c, p, cap, cur, rfl, (e g rfl rfl).trans h2, h3⟩
structure FamOk (w : World) (hs : List Value) (Bs : List Mem) : Prop where
 len : hs.length = Bs.length
 ok : ∀ (k : Nat) B u, Bs[k]? = some B → hs[k]? = some u → MemOk w u B
 inj : ∀ (k k' : Nat) (B B' : Mem) (u u' : Value) b, Bs[k]? = some B → B.live = true → hs[k]? = some u → hb u = some b → Bs[k']? = some B' → B'.live = true → hs[k']? = some u' → hb u' = some b → k = k'
def Af : Nat → List Int → List Value → List MapEntry
 | o, k :: ks, v :: vs => { key := .int .i64 k, val := v, born := o } :: Af (o + 1) ks vs
 | _, _, _ => []
def BlkOk (s : St) (h : Value) : Blk → Prop
 | .gone => True
 | .hole => h = .nilFunc
 | .flat T L => ∃ b, h = .pointer (some ⟨b, 0, none⟩) ∧ s.w.heap[b]? = some (.cells L.toArray T (0, 0))
 | .arr T sz n L => s.w.ownsRow 0 T sz h n L
 | .que T sz n L => WJ s.w T sz h n L
 | .mix T l => ∃ (b : Nat) (vs : List Value), h = .pointer (some ⟨b, 0, none⟩) ∧ s.w.heap[b]? = some (.cells vs.toArray T (0, 0)) ∧ vs.length = l.length ∧ ∀ (j : Nat) d v, l[j]? = some d → vs[j]? = some v → Rep s d v
 | .arx T sz n l => ∃ vs : List Value, s.w.ownsRow 0 T sz h n vs ∧ vs.length = l.length ∧ ∀ (j : Nat) d v, l[j]? = some d → vs[j]? = some v → Rep s d v
 | .obj o => ∃ b, hb h = some b ∧ s.w.heap[b]? = some o ∧ mapH o h
 | .lp g n F ps assign body st pe => ∃ b fn tmps Df, h = .pointer (some ⟨b, 0, none⟩) ∧ s.w.heap[b]? = some (yf (g.getD fn) tmps Df ps assign body st pe) ∧ tmps.size = n ∧ ∀ t d, lk F t = some d → Rep s d (tmps.getD t undef)
 | .fam Bs => ∃ hs : List Value, h = .tuple hs.toArray ∧ FamOk s.w hs Bs
 | .glob g L => h = .bool true ∧ s.I g ∧ kc s.w g 0 L
 | .mit d n seen => ∃ (b bm : Nat), h = .pointer (some ⟨b, 0, none⟩) ∧ s.w.heap[b]? = some (.mapIter (some bm) n seen.toArray n) ∧ Rep s d (.map (some bm))
 | .mpd ks l => ∃ (b : Nat) (vs : List Value), h = .map (some b) ∧ s.w.heap[b]? = some (.map (Af 0 ks vs).toArray ks.length) ∧ (vs.length = l.length ∧ ks.length = l.length) ∧ ∀ (j : Nat) d v, l[j]? = some d → vs[j]? = some v → Rep s d v
def Live (s : St) (b : Nat) : Prop := ∃ (i : Nat) (k : Blk) (h : Value), s.M[i]? = some k ∧ k.live = true ∧ s.β[i]? = some h ∧ jo k h b
structure Ok (s : St) : Prop where
 len : s.β.length = s.M.length
 blk : ∀ (i : Nat) k h, s.M[i]? = some k → s.β[i]? = some h → BlkOk s h k
 lt : ∀ b, Live s b → b < s.w.heap.size ∧ ¬ s.I b
 inj : ∀ (i j : Nat) (k k' : Blk) (h h' : Value) b, s.M[i]? = some k → k.live = true → s.β[i]? = some h → jo k h b → s.M[j]? = some k' → k'.live = true → s.β[j]? = some h' → jo k' h' b → i = j
 il : ∀ b, s.I b → b < s.w.heap.size
structure Tr (s s' : St) : Prop where
 ok : Ok s'
 hnd : hkeep s.β s'.β
 up : ∀ b, s.I b → s'.I b
 new : ∀ b, s'.I b → s.I b ∨ s.w.heap.size ≤ b ∨ Live s b
 keep : ∀ b, b < s.w.heap.size → ¬ Live s b → s'.w.heap[b]? = s.w.heap[b]?
 lv : ∀ b, Live s' b → s.w.heap.size ≤ b ∨ Live s b
 os : s'.w.os = s.w.os
 tape : s'.w.tape = s.w.tape
 output : s'.w.output = s.w.output
 size : s.w.heap.size ≤ s'.w.heap.size
theorem Tr.refl {s : St} (h : Ok s) : Tr s s :=
 ⟨h, hkeep.refl _, fun _ h => h, fun _ h => .inl h, fun _ _ _ => rfl, fun _ h => .inr h, rfl, rfl, rfl, qbM _⟩
theorem Tr.trans {s t u : St} (h : Tr s t) (k : Tr t u) : Tr s u := by
 refine ⟨k.ok, h.hnd.trans k.hnd, fun b hb => k.up b (h.up b hb), fun b hb => ?_, fun b hlt hn => ?_, fun b hb => ?_,
  k.os.trans h.os, k.tape.trans h.tape, k.output.trans h.output, qbK h.size k.size⟩
 ·rcases k.new b hb with h1 | h1 | h1
  ·exact h.new b h1
  ·exact .inr (.inl (qbK h.size h1))
  ·exact .inr (h.lv b h1)
 ·rw [k.keep b (Nat.lt_of_lt_of_le hlt h.size) fun hl => (h.lv b hl).elim (fun e => absurd hlt (Nat.not_lt.2 e)) hn]
  exact h.keep b hlt hn
 ·rcases k.lv b hb with h1 | h1
  ·exact .inl (qbK h.size h1)
  ·exact h.lv b h1
theorem km {w w' : World} {b o : Nat} {L : List Value} (e : w'.heap[b]? = w.heap[b]?) (h : kc w b o L) : kc w' b o L :=
 fun j v hj => (World.cell?_of_block (w := w) (w' := w') (a := ⟨b, o + j, none⟩) e).trans (h j v hj)
theorem Tr.imm {s s' : St} (ho : Ok s) (t : Tr s s') {b : Nat} (h : s.I b) : s'.w.heap[b]? = s.w.heap[b]? :=
 t.keep b (ho.il b h) fun hl => (ho.lt b hl).2 h
theorem Rep.monoK {s s' : St} (hnd : hkeep s.β s'.β) (up : ∀ b, s.I b → s'.I b) (imm : ∀ b, s.I b → s'.w.heap[b]? = s.w.heap[b]?) {d : D} {v : Value} (h : Rep s d v) : Rep s' d v := by
 induction h with
 | val v => exact .val v
 | loc h => exact .loc (hnd.1 _ _ h (by simp) (by simp))
 | arr h => exact .arr (hnd.1 _ _ h (by simp) (by simp))
 | aloc h => exact .aloc (hnd.1 _ _ h (by simp) (by simp))
 | own h ha hN hz hn hc => exact .own (hnd.1 _ _ h (by simp) (by simp)) ha hN hz hn hc
 | ownnil h => exact .ownnil (hnd.1 _ _ h (by simp) (by simp))
 | part h ha hN hn hc => exact .part (hnd.1 _ _ h (by simp) (by simp)) ha hN hn hc
 | partnil h => exact .partnil (hnd.1 _ _ h (by simp) (by simp))
 | dpf hI h => exact .dpf (up _ hI) (km (imm _ hI) h)
 | pin hI h ho => exact .pin (up _ hI) (km (imm _ hI) h) ((imm _ hI).trans ho)
 | pip hI h ho => exact .pip (up _ hI) (km (imm _ hI) h) ((imm _ hI).trans ho)
 | slf hl hn hc ha h => exact .slf hl hn hc ha (h.imp id fun ⟨b, o, e, hI, h⟩ => ⟨b, o, e, up _ hI, km (imm _ hI) h⟩)
 | slc hl hc ha h => exact .slc hl hc ha (h.imp id fun ⟨b, o, e, hI, h⟩ => ⟨b, o, e, up _ hI, km (imm _ hI) h⟩)
 | tup hl _ ih => exact .tup hl ih
 | agg hl _ ih => exact .agg hl ih
 | dpm hnl hI hc hl _ ih => exact .dpm hnl (up _ hI) (km (imm _ hI) hc) hl ih
 | smc hnl hl hc ha hv _ hm ih => exact .smc hnl hl hc ha hv ih (hm.imp id fun ⟨b, o, e, hI, h⟩ => ⟨b, o, e, up _ hI, km (imm _ hI) h⟩)
 | slm hnl hl hn hc ha hv _ hm ih => exact .slm hnl hl hn hc ha hv ih (hm.imp id fun ⟨b, o, e, hI, h⟩ => ⟨b, o, e, up _ hI, km (imm _ hI) h⟩)
 | fn hl hk _ _ ih ih' => exact .fn hl hk ih ih'
 | ifc _ ih => exact .ifc ih
 | opt _ hu ih => exact .opt ih hu
 | hnd h hn ht => exact .hnd (hnd.1 _ _ h hn ht) hn ht
 | yld h => exact .yld (hnd.1 _ _ h (by simp) (by simp))
 | floc h hk => obtain ⟨hs', h1, h2⟩ := hnd.2 _ _ h; exact .floc h1 (h2 _ _ hk)
 | farr h hk => obtain ⟨hs', h1, h2⟩ := hnd.2 _ _ h; exact .farr h1 (h2 _ _ hk)
 | faloc h hk => obtain ⟨hs', h1, h2⟩ := hnd.2 _ _ h; exact .faloc h1 (h2 _ _ hk)
 | junk v => exact .junk v
theorem Rep.mono {s s' : St} (ho : Ok s) (t : Tr s s') {d : D} {v : Value} (h : Rep s d v) : Rep s' d v := h.monoK t.hnd t.up fun b hI => t.imm ho hI
theorem BlkOk.live_ne {s : St} {h : Value} {k : Blk} (hk : BlkOk s h k) (hl : k.live = true) : h ≠ .nilFunc := by
 cases k with
 | gone => cases hl
 | hole => cases hl
 | flat T L => obtain ⟨b, rfl, _⟩ := hk; simp
 | arr T sz n L =>
  rcases hk.2 with ⟨rfl, _⟩ | ⟨g, cap, cur, rfl, _⟩ <;> simp
 | mix T l => obtain ⟨b, vs, rfl, _⟩ := hk; simp
 | arx T sz n l =>
  obtain ⟨vs, hk, _⟩ := hk
  rcases hk.2 with ⟨rfl, _⟩ | ⟨g, cap, cur, rfl, _⟩ <;> simp
 | obj o => obtain ⟨b, hk, _⟩ := hk; rintro rfl; cases hk
 | lp g n F ps asg body st pe => obtain ⟨b, fn, tmps, Df, rfl, _⟩ := hk; simp
 | fam Bs => obtain ⟨hs, rfl, _⟩ := hk; simp
 | glob g L => obtain ⟨rfl, _⟩ := hk; simp
 | que T sz n L => rcases hk.2 with ⟨rfl, _⟩ | ⟨g, q, c, p, cap, cur, rfl, _⟩ <;> simp
 | mpd ks l => obtain ⟨b, vs, rfl, _⟩ := hk; simp
 | mit d n seen => obtain ⟨b, bm, rfl, _⟩ := hk; simp
end Go.Proofs.YtofklkbfkoliiaaGreat
namespace Go.Proofs.YtofklkbfkoliiaaGreat
set_option linter.unusedVariables false
set_option linter.unusedSimpArgs false
open Go.RowKit
theorem Rep.mono' {s s' : St} (hnd : ∀ (i : Nat) h, s.β[i]? = some h → h ≠ .nilFunc → s'.β[i]? = some h) (up : ∀ b, s.I b → s'.I b) (imm : ∀ b, s.I b → s'.w.heap[b]? = s.w.heap[b]?) {d : D} {v : Value} (h : Rep s d v) : Rep s' d v := h.monoK (jI hnd) up imm
theorem BlkOk.monoK {s s' : St} (hnd : hkeep s.β s'.β) (up : ∀ b, s.I b → s'.I b) (imm : ∀ b, s.I b → s'.w.heap[b]? = s.w.heap[b]?)
  {h : Value} {k : Blk} (hk : BlkOk s h k) (e : ∀ b, k.live = true → jo k h b → s'.w.heap[b]? = s.w.heap[b]?) : BlkOk s' h k := by
 cases k with
 | gone => trivial
 | hole => exact hk
 | flat T L => obtain ⟨b, rfl, h2⟩ := hk; exact ⟨b, rfl, (e b rfl rfl).trans h2⟩
 | arr T sz n L =>
  refine ⟨hk.1, ?_⟩
  rcases hk.2 with h0 | ⟨g, cap, cur, rfl, h1, h2, h3⟩
  ·exact .inl h0
  ·exact .inr ⟨g, cap, cur, rfl, h1, (e g rfl rfl).trans h2, h3⟩
 | mix T l => obtain ⟨b, vs, rfl, h2, h3, h4⟩ := hk; exact ⟨b, vs, rfl, (e b rfl rfl).trans h2, h3, fun j d v a c => (h4 j d v a c).monoK hnd up imm⟩
 | arx T sz n l =>
  obtain ⟨vs, hk, hl, h4⟩ := hk
  refine ⟨vs, ⟨hk.1, ?_⟩, hl, fun j d v a c => (h4 j d v a c).monoK hnd up imm⟩
  rcases hk.2 with h0 | ⟨g, cap, cur, rfl, h1, h2, h3⟩
  ·exact .inl h0
  ·exact .inr ⟨g, cap, cur, rfl, h1, (e g rfl rfl).trans h2, h3⟩
 | obj o => obtain ⟨b, h1, h2, h3⟩ := hk; exact ⟨b, h1, (e b rfl h1).trans h2, h3⟩
 | lp g n F ps asg body st pe => obtain ⟨b, fn, tmps, Df, rfl, h2, h3, h4⟩ := hk; exact ⟨b, fn, tmps, Df, rfl, (e b rfl rfl).trans h2, h3, fun t d a => (h4 t d a).monoK hnd up imm⟩
 | fam Bs =>
  obtain ⟨hs, rfl, hf⟩ := hk
  exact ⟨hs, rfl, hf.len, fun q B u h1 h2 => (hf.ok q B u h1 h2).mono fun b hl hbb => e b rfl ⟨hs, q, B, u, rfl, h1, hl, h2, hbb⟩, hf.inj⟩
 | glob g L => obtain ⟨h1, h2, h3⟩ := hk; exact ⟨h1, up _ h2, km (imm _ h2) h3⟩
 | que T sz n L =>
  refine ⟨hk.1, ?_⟩
  rcases hk.2 with h0 | ⟨g, q, c, p, cap, cur, rfl, h2, h3⟩
  ·exact .inl h0
  ·exact .inr ⟨g, q, c, p, cap, cur, rfl, (e g rfl rfl).trans h2, h3⟩
 | mit d n seen => obtain ⟨b, bm, rfl, h2, h3⟩ := hk; exact ⟨b, bm, rfl, (e b rfl rfl).trans h2, h3.monoK hnd up imm⟩
 | mpd ks l => obtain ⟨b, vs, rfl, h2, h3, h4⟩ := hk; exact ⟨b, vs, rfl, (e b rfl rfl).trans h2, h3, fun j d v a c => (h4 j d v a c).monoK hnd up imm⟩
theorem BlkOk.mono {s s' : St} (hnd : ∀ (i : Nat) h, s.β[i]? = some h → h ≠ .nilFunc → s'.β[i]? = some h) (up : ∀ b, s.I b → s'.I b) (imm : ∀ b, s.I b → s'.w.heap[b]? = s.w.heap[b]?)
  {h : Value} {k : Blk} (hk : BlkOk s h k) (e : ∀ b, k.live = true → jo k h b → s'.w.heap[b]? = s.w.heap[b]?) : BlkOk s' h k := hk.monoK (jI hnd) up imm e
def Blk.nf : Blk → Bool
 | .fam _ => false
 | _ => true
theorem ux {k : Blk} (hk : k.nf = true) {h : Value} {b : Nat} : jo k h b ↔ hb h = some b := by cases k <;> first | exact Iff.rfl | cases hk
theorem Qv {k : Blk} {h : Value} {b b' : Nat} (hbb : hb h = some b) (ho : jo k h b') : hb h = some b' := by
 cases k with
 | fam Bs => obtain ⟨hs, k, B, u, rfl, _⟩ := ho; cases hbb
 | _ => exact ho
theorem Gf {s : St} {k : Blk} {h : Value} {b b' : Nat} (hk : BlkOk s h k) (hbb : hb h = some b) : jo k h b' ↔ hb h = some b' := by
 cases k with
 | fam Bs => obtain ⟨hs, rfl, _⟩ := hk; cases hbb
 | _ => exact Iff.rfl
theorem Qw {s : St} {k : Blk} {h : Value} {b : Nat} (hk : BlkOk s h k) (hbb : hb h = some b) : jo k h b := (Gf hk hbb).2 hbb
theorem qq {s : St} {i : Nat} {k : Blk} {h : Value} {b : Nat} (h1 : s.M[i]? = some k) (h2 : k.live = true) (h3 : s.β[i]? = some h) (h4 : jo k h b) : Live s b := ⟨i, k, h, h1, h2, h3, h4⟩
theorem kV {s : St} (ho : Ok s) (j : Nat) (M1 : List Blk) (h' : Value) (k' : Blk) (w' : World)
  (hM : M1.length = s.M.length) (hM1 : ∀ (i : Nat) k, M1[i]? = some k → s.M[i]? = some k ∨ k = .gone) (hj : j < s.M.length)
  (hh : s.β[j]? = some .nilFunc ∨ s.β[j]? = some h' ∨ ∃ hs hs' : List Value, s.β[j]? = some (.tuple hs.toArray) ∧ h' = .tuple hs'.toArray ∧ ∀ (k : Nat) u, hs[k]? = some u → hs'[k]? = some u) (hn' : h' ≠ .nilFunc)
  (hblk : BlkOk ⟨s.β.set j h', s.I, M1.set j k', w'⟩ h' k')
  (hother : ∀ b, jo k' h' b → ∀ (i : Nat) k h, i ≠ j → M1[i]? = some k → k.live = true → s.β[i]? = some h → ¬ jo k h b)
  (hfrom : ∀ b, jo k' h' b → s.w.heap.size ≤ b ∨ Live s b)
  (hlt : ∀ b, jo k' h' b → b < w'.heap.size)
  (Dr : Nat → Prop) (hDr : ∀ b, Dr b → Live s b ∧ ∀ (i : Nat) k h, i ≠ j → M1[i]? = some k → k.live = true → s.β[i]? = some h → ¬ jo k h b)
  (keep : ∀ b, b < s.w.heap.size → ¬ jo k' h' b → ¬ Dr b → w'.heap[b]? = s.w.heap[b]?)
  (hos : w'.os = s.w.os) (htape : w'.tape = s.w.tape) (hout : w'.output = s.w.output) (hsz : s.w.heap.size ≤ w'.heap.size) :
  Tr s ⟨s.β.set j h', s.I, M1.set j k', w'⟩ := by
 have hlen := ho.len
 have hjb : j < s.β.length := by omega
 have hnd : hkeep s.β (s.β.set j h') := by
  refine ⟨fun i h hi hne ht => ?_, fun i hs hi => ?_⟩
  ·by_cases e : j = i
   ·subst e
    rcases hh with h0 | h0 | ⟨hs, hs', h0, _, _⟩
    ·rw [hi] at h0; exact absurd (qbw h0) hne
    ·rw [hi] at h0; rw [qbw h0]; simp [hjb]
    ·rw [hi] at h0; exact absurd (qbw h0) (ht _)
   ·rw [qbC e]; exact hi
  ·by_cases e : j = i
   ·subst e
    rcases hh with h0 | h0 | ⟨hs0, hs', h0, h1, h2⟩
    ·rw [hi] at h0; cases h0
    ·rw [hi] at h0; rw [← qbw h0]; exact ⟨hs, by simp [hjb], fun _ _ h => h⟩
    ·rw [hi] at h0
     have e1 : hs = hs0 := by simpa using h0
     subst e1
     exact ⟨hs', by rw [h1]; simp [hjb], h2⟩
   ·exact ⟨hs, by rw [qbC e]; exact hi, fun _ _ h => h⟩
 have notI : ∀ b, jo k' h' b → ¬ s.I b := fun b hb hI => (hfrom b hb).elim (fun h => absurd (ho.il b hI) (Nat.not_lt.2 h)) (fun h => (ho.lt b h).2 hI)
 have imm : ∀ b, s.I b → w'.heap[b]? = s.w.heap[b]? := fun b hI => keep b (ho.il b hI) (fun e => notI b e hI) fun hd => (ho.lt b (hDr b hd).1).2 hI
 have old : ∀ (i : Nat) k h, i ≠ j → (M1.set j k')[i]? = some k → (s.β.set j h')[i]? = some h → M1[i]? = some k ∧ s.β[i]? = some h := by
  intro i k h hne h1 h2
  rw [qbC (Ne.symm hne)] at h1 h2
  exact ⟨h1, h2⟩
 have at_j : ∀ k h, (M1.set j k')[j]? = some k → (s.β.set j h')[j]? = some h → k = k' ∧ h = h' := by
  intro k h h1 h2
  rw [qbG (by omega)] at h1 h2
  exact ⟨(qbw h1).symm, (qbw h2).symm⟩
 have lv : ∀ b, Live ⟨s.β.set j h', s.I, M1.set j k', w'⟩ b → s.w.heap.size ≤ b ∨ Live s b := by
  rintro b ⟨i, k, h, h1, h2, h3, h4⟩
  by_cases e : i = j
  ·subst e
   obtain ⟨rfl, rfl⟩ := at_j k h h1 h3
   exact hfrom b h4
  ·obtain ⟨a1, a2⟩ := old i k h e h1 h3
   rcases hM1 i k a1 with a3 | rfl
   ·exact .inr (qq a3 h2 a2 h4)
   ·cases h2
 refine ⟨⟨by simp [hM, hlen], ?_, ?_, ?_, ?_⟩, hnd, fun b h => h, fun b h => .inl h, fun b hb hn => ?_, lv, hos, htape, hout, hsz⟩
 ·intro i k h h1 h2
  by_cases e : i = j
  ·subst e
   obtain ⟨rfl, rfl⟩ := at_j k h h1 h2
   exact hblk
  ·obtain ⟨a1, a2⟩ := old i k h e h1 h2
   rcases hM1 i k a1 with a3 | rfl
   ·refine BlkOk.monoK (s := s) (s' := ⟨s.β.set j h', s.I, M1.set j k', w'⟩) hnd (fun b h => h) imm (ho.blk i k h a3 a2) fun b hl hb => keep b (ho.lt b (qq a3 hl a2 hb)).1 (fun e2 => hother b e2 i k h e a1 hl a2 hb) fun hd => (hDr b hd).2 i k h e a1 hl a2 hb
   ·trivial
 ·intro b hb
  refine ⟨?_, fun hI => ?_⟩
  ·obtain ⟨i, k, h, h1, h2, h3, h4⟩ := hb
   by_cases e : i = j
   ·subst e
    obtain ⟨rfl, rfl⟩ := at_j k h h1 h3
    exact hlt b h4
   ·obtain ⟨a1, a2⟩ := old i k h e h1 h3
    rcases hM1 i k a1 with a3 | rfl
    ·exact Nat.lt_of_lt_of_le (ho.lt b (qq a3 h2 a2 h4)).1 hsz
    ·cases h2
  ·rcases lv b hb with h1 | h1
   ·exact absurd (ho.il b hI) (Nat.not_lt.2 h1)
   ·exact (ho.lt b h1).2 hI
 ·intro i i2 k k2 h h2 b h1 hl1 hb1 e1 g1 gl1 gb1 ge1
  by_cases e : i = j
  ·subst e
   obtain ⟨rfl, rfl⟩ := at_j k h h1 hb1
   by_cases e' : i2 = i
   ·exact e'.symm
   ·obtain ⟨a1, a2⟩ := old i2 k2 h2 e' g1 gb1
    exact absurd ge1 (hother b e1 i2 k2 h2 e' a1 gl1 a2)
  ·obtain ⟨a1, a2⟩ := old i k h e h1 hb1
   by_cases e' : i2 = j
   ·subst e'
    obtain ⟨rfl, rfl⟩ := at_j k2 h2 g1 gb1
    exact absurd e1 (hother b ge1 i k h e a1 hl1 a2)
   ·obtain ⟨c1, c2⟩ := old i2 k2 h2 e' g1 gb1
    rcases hM1 i k a1 with a3 | rfl
    ·rcases hM1 i2 k2 c1 with c3 | rfl
     ·exact ho.inj i i2 k k2 h h2 b a3 hl1 a2 e1 c3 gl1 c2 ge1
     ·cases gl1
    ·cases hl1
 ·intro b hI
  exact Nat.lt_of_lt_of_le (ho.il b hI) hsz
 ·refine keep b hb (fun e => ?_) fun hd => hn (hDr b hd).1
  rcases hfrom b e with h1 | h1
  ·omega
  ·exact hn h1
theorem wB {s : St} (ho : Ok s) (w' : World) (hh : w'.heap = s.w.heap) (hos : w'.os = s.w.os) (htape : w'.tape = s.w.tape) (hout : w'.output = s.w.output) : Tr s ⟨s.β, s.I, s.M, w'⟩ := by
 have hnd : ∀ (i : Nat) h, s.β[i]? = some h → h ≠ .nilFunc → s.β[i]? = some h := fun _ _ h _ => h
 refine ⟨⟨ho.len, fun i k h h1 h2 => BlkOk.mono (s := s) (s' := ⟨s.β, s.I, s.M, w'⟩) hnd (fun _ h => h) (fun b _ => by simp only [hh]) (ho.blk i k h h1 h2) (fun b _ _ => by simp only [hh]), fun b hb => ?_, ho.inj, fun b hI => ?_⟩,
  jI hnd, fun _ h => h, fun _ h => .inl h, fun b _ _ => by simp only [hh], fun _ h => .inr h, hos, htape, hout, by simp only [hh]; exact qbM _⟩
 ·show b < w'.heap.size ∧ _
  rw [hh]; exact ho.lt b hb
 ·show b < w'.heap.size
  rw [hh]; exact ho.il b hI
theorem vX {s : St} (ho : Ok s) (o : Obj) : Tr s ⟨s.β, fun b => s.I b ∨ b = s.w.heap.size, s.M, s.w.alloc o⟩ := by
 have hnd : ∀ (i : Nat) h, s.β[i]? = some h → h ≠ .nilFunc → s.β[i]? = some h := fun _ _ h _ => h
 have keep : ∀ b, b < s.w.heap.size → (s.w.alloc o).heap[b]? = s.w.heap[b]? := fun b h => Below.heap_alloc _ _ _ h
 refine ⟨⟨ho.len, fun i k h h1 h2 => BlkOk.mono (s := s) (s' := ⟨s.β, fun b => s.I b ∨ b = s.w.heap.size, s.M, s.w.alloc o⟩) hnd (fun _ h => .inl h) (fun b hI => keep b (ho.il b hI)) (ho.blk i k h h1 h2) (fun b hl hb => keep b (ho.lt b (qq h1 hl h2 hb)).1), fun b hb => ?_, ho.inj, fun b hI => ?_⟩,
  jI hnd, fun _ h => .inl h, fun b h => ?_, fun b hb _ => keep b hb, fun _ h => .inr h, rfl, rfl, rfl, by simp⟩
 ·have hb' : Live s b := hb
  obtain ⟨h1, h2⟩ := ho.lt b hb'
  refine ⟨by simp; omega, fun h => h.elim h2 (fun e => by omega)⟩
 ·show b < (s.w.alloc o).heap.size
  simp only [World.size_alloc]
  rcases hI with h | h
  ·have := ho.il b h; omega
  ·omega
 ·rcases h with h | h
  ·exact .inl h
  ·exact .inr (.inl (by omega))
theorem gZ {s : St} (ho : Ok s) : Tr s ⟨s.β ++ [.nilFunc], s.I, s.M ++ [.hole], s.w⟩ := by
 have hlen := ho.len
 have hnd : ∀ (i : Nat) h, s.β[i]? = some h → h ≠ .nilFunc → (s.β ++ [Value.nilFunc])[i]? = some h := fun i h hi _ => by
  rw [qbI (qbq.1 hi).1]; exact hi
 have old : ∀ (i : Nat) k h, (s.M ++ [.hole])[i]? = some k → (s.β ++ [Value.nilFunc])[i]? = some h → (s.M[i]? = some k ∧ s.β[i]? = some h) ∨ (k = .hole ∧ h = .nilFunc) := by
  intro i k h h1 h2
  by_cases e : i < s.M.length
  ·rw [qbI e] at h1
   rw [qbI (by omega)] at h2
   exact .inl ⟨h1, h2⟩
  ·rw [qbO (by omega)] at h1 h2
   rcases (qbq.1 h1) with ⟨l1, e1⟩
   rcases (qbq.1 h2) with ⟨l2, e2⟩
   simp at e1 e2
   exact .inr ⟨e1.symm, e2.symm⟩
 have lv : ∀ b, Live ⟨s.β ++ [.nilFunc], s.I, s.M ++ [.hole], s.w⟩ b → Live s b := by
  rintro b ⟨i, k, h, h1, h2, h3, h4⟩
  rcases old i k h h1 h3 with ⟨a, c⟩ | ⟨rfl, rfl⟩
  ·exact qq a h2 c h4
  ·cases h2
 refine ⟨⟨by simp [hlen], fun i k h h1 h2 => ?_, fun b hb => ho.lt b (lv b hb), ?_, ho.il⟩, jI hnd, fun _ h => h, fun _ h => .inl h, fun _ _ _ => rfl, fun b h => .inr (lv b h), rfl, rfl, rfl, qbM _⟩
 ·rcases old i k h h1 h2 with ⟨a, c⟩ | ⟨rfl, rfl⟩
  ·exact BlkOk.mono (s := s) (s' := ⟨s.β ++ [.nilFunc], s.I, s.M ++ [.hole], s.w⟩) hnd (fun _ h => h) (fun _ _ => rfl) (ho.blk i k h a c) (fun _ _ _ => rfl)
  ·rfl
 ·intro i j k k' h h' b h1 l1 b1 e1 h2 l2 b2 e2
  rcases old i k h h1 b1 with ⟨a, c⟩ | ⟨rfl, rfl⟩
  ·rcases old j k' h' h2 b2 with ⟨a', c'⟩ | ⟨rfl, rfl⟩
   ·exact ho.inj i j k k' h h' b a l1 c e1 a' l2 c' e2
   ·cases l2
  ·cases l1
end Go.Proofs.YtofklkbfkoliiaaGreat
namespace Go.Proofs.YtofklkbfkoliiaaGreat
set_option linter.unusedVariables false
set_option linter.unusedSimpArgs false
open Go.RowKit
abbrev Fr := List (Nat × D)
theorem jx (k : Nat) (d : D) (r : Fr) (t : Nat) : lk ((k, d) :: r) t = if k = t then some d else lk r t := by
 show (bif Nat.beq k t then some d else lk r t) = _
 by_cases h : k = t
 ·subst h; simp
 ·rw [if_neg h]
  have : Nat.beq k t = false := by
   cases e : Nat.beq k t
   ·rfl
   ·exact absurd (Nat.eq_of_beq_eq_true e) h
  rw [this]; rfl
def ju (a : Act) (t : Tmp) : Value := a.tmps.getD t undef
theorem yM (a : Act) (d t : Tmp) (v : Value) : ju (a.put (some d) v) t = if t = d ∧ d < a.tmps.size then v else ju a t := by
 unfold ju Act.put
 simp only [Array.getD_eq_getD_getElem?, Array.getElem?_setIfInBounds]
 by_cases h : d = t
 ·subst h
  by_cases h2 : d < a.tmps.size
  ·simp [h2]
  ·simp [h2]
 ·simp [h, Ne.symm h]
theorem ga (a : Act) (d : Option Tmp) (v : Value) : (a.put d v).tmps.size = a.tmps.size := by cases d <;> simp [Act.put]
theorem yy (a : Act) (d : Option Tmp) (v : Value) : (a.put d v).defers = a.defers := by cases d <;> rfl
def FOk (s : St) (F : Fr) (a : Act) : Prop := ∀ t d, lk F t = some d → Rep s d (ju a t)
theorem FOk.mono {s s' : St} {F : Fr} {a : Act} (h : FOk s F a) (ho : Ok s) (t : Tr s s') : FOk s' F a := fun x d hd => (h x d hd).mono ho t
theorem FOk.put {s : St} {F : Fr} {a : Act} (h : FOk s F a) {t : Tmp} (ht : t < a.tmps.size) {d : D} {v : Value} (hd : Rep s d v) : FOk s ((t, d) :: F) (a.put (some t) v) := by
 intro x e hx
 rw [jx] at hx
 rw [yM]
 by_cases hxt : t = x
 ·subst hxt
  rw [if_pos rfl] at hx
  rw [if_pos ⟨rfl, ht⟩]
  obtain rfl := qbw hx
  exact hd
 ·rw [if_neg hxt] at hx
  rw [if_neg (fun q => hxt q.1.symm)]
  exact h x e hx
structure Cx where
 n : Nat
 r : Option Nat := none
 k : Nat
 U : List D := []
 mks : Bool := true
def wd (ρ : Option Nat) : Fence := { fn := fun _ => True, depth := none, alive := false, round := ρ }
theorem yg (ρ : Option Nat) (k : Nat) : (wd ρ).room k := fun _ h => by cases h
theorem jJ {ρ : Option Nat} {P : Program} {m : Machine} : m.fenced P (wd ρ) := fun _ _ => ⟨fun h => by simp [wd] at h, .inl trivial, fun _ _ => trivial, fun _ h => by simp [wd] at h⟩
def Cx.ρ (c : Cx) (s0 : St) : Option Nat :=
 match c.r with
 | none => none
 | some i => match s0.β[i]? with
  | some (.pointer (some ⟨l, _, _⟩)) => some l
  | _ => none
inductive DfOk (s0 s : St) (mk : Bool) : List D → List Deferred → Prop
 | nil : DfOk s0 s mk [] []
 | mark {U : List D} {ds : List Deferred} {b : Nat} (hmk : mk = true) (h : s.w.heap[b]? = some (.deferred (some []))) (hI : ¬ s.I b) (hl : ¬ Live s b) (h0 : s0.w.heap.size ≤ b) (hd : ∀ d ∈ ds, d.target ≠ .collected b) (r : DfOk s0 s mk U ds) :
   DfOk s0 s mk U ({ target := .collected b, args := #[] } :: ds)
 | fn {f : FuncId} {first caps : List D} {vs us : List Value} {U : List D} {ds : List Deferred} (h : Rep s (.fn (.func f) first caps) (.func (.func f) vs.toArray us.toArray)) (r : DfOk s0 s mk U ds) :
   DfOk s0 s mk (.fn (.func f) first caps :: U) ({ target := .fn (.func f) us.toArray, args := vs.toArray } :: ds)
theorem DfOk.mono {s0 s s' : St} {mk : Bool} (ho : Ok s) (t : Tr s s') {U : List D} {ds : List Deferred} (h : DfOk s0 s mk U ds) : DfOk s0 s' mk U ds := by
 induction h with
 | nil => exact .nil
 | mark hmk h hI hl h0 hd _ ih =>
  have hb := (Array.getElem?_eq_some_iff.1 h).1
  refine .mark hmk ((t.keep _ hb hl).trans h) (fun hI' => ?_) (fun hl' => ?_) h0 hd ih
  ·rcases t.new _ hI' with q | q | q
   ·exact hI q
   ·omega
   ·exact hl q
  ·rcases t.lv _ hl' with q | q
   ·omega
   ·exact hl q
 | fn h _ ih => exact .fn (h.mono ho t) ih
def Inv (s0 : St) (c : Cx) (F : Fr) (M : List Blk) (a : Act) (w : World) : Prop := Ok s0 ∧ ∃ s : St, s.M = M ∧ s.w = w ∧ Tr s0 s ∧ FOk s F a ∧ a.tmps.size = c.n ∧ DfOk s0 s c.mks c.U a.defers
def InvP (s0 : St) (c : Cx) (F : Fr) (M : List Blk) (d : D) (ch : List PanicEntry) (a : Act) (w : World) : Prop :=
 Ok s0 ∧ ∃ (s : St) (v : Value), s.M = M ∧ s.w = w ∧ Tr s0 s ∧ FOk s F a ∧ a.tmps.size = c.n ∧ DfOk s0 s c.mks c.U a.defers ∧ ch = [{ v := v, recovered := false }] ∧ Rep s d v
inductive DX where
 | normal
 | exit (id : Nat)
 | goto (l : Nat)
 | ret
 | panic (d : D)
abbrev Cont := DX → Fr → List Blk → Prop
def PostK (s0 : St) (c : Cx) (K : Cont) : Exit → Act → World → Prop
 | .normal, a, w => ∃ F M, Inv s0 c F M a w ∧ K .normal F M
 | .exit id, a, w => ∃ F M, Inv s0 c F M a w ∧ K (.exit id) F M
 | .goto l, a, w => ∃ F M, Inv s0 c F M a w ∧ K (.goto l) F M
 | .ret, a, w => ∃ F M, Inv s0 c F M a w ∧ K .ret F M
 | .panic ch, a, w => ∃ F M d, InvP s0 c F M d ch a w ∧ K (.panic d) F M
 | .outgrown, _, _ => False
theorem PostK.mono {s0 : St} {c : Cx} {K K' : Cont} (h : ∀ x F M, K x F M → K' x F M) : ∀ e a w, PostK s0 c K e a w → PostK s0 c K' e a w := by
 intro e a w hp
 cases e with
 | normal => obtain ⟨F, M, h1, h2⟩ := hp; exact ⟨F, M, h1, h _ _ _ h2⟩
 | exit id => obtain ⟨F, M, h1, h2⟩ := hp; exact ⟨F, M, h1, h _ _ _ h2⟩
 | goto id => obtain ⟨F, M, h1, h2⟩ := hp; exact ⟨F, M, h1, h _ _ _ h2⟩
 | ret => obtain ⟨F, M, h1, h2⟩ := hp; exact ⟨F, M, h1, h _ _ _ h2⟩
 | panic ch => obtain ⟨F, M, d, h1, h2⟩ := hp; exact ⟨F, M, d, h1, h _ _ _ h2⟩
 | outgrown => exact hp
section
variable {P : Program} {s0 : St} {n : Cx}
def dwp (P : Program) (s0 : St) (n : Cx) (c : Code) (F : Fr) (M : List Blk) (K : Cont) : Prop := ∀ a w, Inv s0 n F M a w → c.wpIn (wd (n.ρ s0)) 0 P (PostK s0 n K) a w
theorem Gg {c : Code} {F : Fr} {M : List Blk} {K K' : Cont} (h : dwp P s0 n c F M K) (hk : ∀ x F M, K x F M → K' x F M) : dwp P s0 n c F M K' :=
 fun a w hi => wpIn_mono (h a w hi) (PostK.mono hk)
def Kseq (next : Fr → List Blk → Prop) (K : Cont) : Cont
 | .normal, F, M => next F M
 | x, F, M => K x F M
def Kblk (id : Nat) (K : Cont) : Cont
 | .exit id', F, M => if id' = id then K .normal F M else K (.exit id') F M
 | x, F, M => K x F M
theorem zae {x y : Code} {F : Fr} {M : List Blk} {K : Cont} (h : dwp P s0 n x F M (Kseq (fun F M => dwp P s0 n y F M K) K)) : dwp P s0 n (.seq x y) F M K := by
 intro a w hi
 refine wpIn_seq (wpIn_mono (h a w hi) ?_)
 intro e a' w' hp
 cases e with
 | normal => obtain ⟨F', M', h1, h2⟩ := hp; exact h2 a' w' h1
 | exit id => exact hp
 | goto l => exact hp
 | ret => exact hp
 | panic ch => exact hp
 | outgrown => exact hp
theorem zat {id : Nat} {c : Code} {F : Fr} {M : List Blk} {K : Cont} (h : dwp P s0 n c F M (Kblk id K)) : dwp P s0 n (.block id c) F M K := by
 intro a w hi
 refine wpIn_block (wpIn_mono (h a w hi) ?_)
 intro e a' w' hp
 cases e with
 | exit id' =>
  obtain ⟨F', M', h1, h2⟩ := hp
  simp only [Kblk] at h2
  simp only [Exit.inBlock]
  split
  ·rename_i e; rw [if_pos e] at h2; exact ⟨F', M', h1, h2⟩
  ·rename_i e; rw [if_neg e] at h2; exact ⟨F', M', h1, h2⟩
 | normal => exact hp
 | goto l => exact hp
 | ret => exact hp
 | panic ch => exact hp
 | outgrown => exact hp
theorem zar {F : Fr} {M : List Blk} {K : Cont} (h : K .normal F M) : dwp P s0 n .skip F M K := fun a w hi => wpIn_skip ⟨F, M, hi, h⟩
theorem xb {l : Nat} {F : Fr} {M : List Blk} {K : Cont} (h : K .normal F M) : dwp P s0 n (.label l) F M K := fun a w hi => wpIn_label ⟨F, M, hi, h⟩
theorem qD {id : Nat} {F : Fr} {M : List Blk} {K : Cont} (h : K (.exit id) F M) : dwp P s0 n (.exit id) F M K := fun a w hi => wpIn_exit ⟨F, M, hi, h⟩
theorem qa {F : Fr} {M : List Blk} {K : Cont} (h : K .ret F M) : dwp P s0 n .ret F M K := fun a w hi => wpIn_ret ⟨F, M, hi, h⟩
def ev (F : Fr) : Operand → Option D
 | .tmp t => lk F t
 | .const v => some (.val v)
 | .func f => some (.fn (.func f) [] [])
 | .global g => some (.val (.pointer (some ⟨g, 0, none⟩)))
theorem vY {s : St} {F : Fr} {a : Act} (h : FOk s F a) {x : Operand} {d : D} (hx : ev F x = some d) : Rep s d (a.eval x) := by
 cases x with
 | tmp t => exact h t d hx
 | const v => obtain rfl := qbw hx; exact .val v
 | func f => obtain rfl := qbw hx; exact Rep.fn (vs := []) (us := []) rfl rfl (fun j d v h => by simp at h) (fun j d v h => by simp at h)
 | global g => obtain rfl := qbw hx; exact .val _
def Ev (pc : Bool) (F : Fr) (x : Operand) (d : D) : Prop := ∃ d', ev F x = some d' ∧ ∀ s v, pc = true → Rep s d' v → Rep s d v
theorem ev1 {pc : Bool} {F : Fr} {x : Operand} {d : D} (h : ev F x = some d) : Ev pc F x d := ⟨d, h, fun _ _ _ h => h⟩
theorem ev3 {pc g : Bool} {F : Fr} {x : Operand} {d : D} (h : ev F x = some (.opt g d)) (hg : pc = true → g = true) : Ev pc F x d :=
 ⟨_, h, fun _ _ hp hr => by cases hr with | opt h _ => exact h (hg hp)⟩
theorem ev2 {pc : Bool} {F : Fr} {x : Operand} {d : D} (h : ev F x = some (.opt pc d)) : Ev pc F x d := ev3 h id
theorem Rep.val_eq {s : St} {v u : Value} (h : Rep s (.val v) u) : u = v := by cases h; rfl
theorem qh {c : Operand} {x y : Code} {F : Fr} {M : List Blk} {K : Cont} {b : Bool} (hc : ev F c = some (.val (.bool b))) (ht : b = true → dwp P s0 n x F M K) (hf : b = false → dwp P s0 n y F M K) :
  dwp P s0 n (.cond c x y) F M K := by
 intro a w hi
 have hi' := hi
 obtain ⟨_, s, h1, h2, h3, h4, h5, h6⟩ := hi
 exact wpIn_cond_split (vY h4 hc).val_eq (fun e => ht e a w hi') (fun e => hf e a w hi')
theorem qJ {c : Operand} {x y : Code} {F : Fr} {M : List Blk} {K : Cont} {b : Bool} (hc : ev F c = some (.val (.bool b))) (hb : b = true) (h : dwp P s0 n x F M K) : dwp P s0 n (.cond c x y) F M K := qh hc (fun _ => h) (fun e => by rw [hb] at e; cases e)
theorem qc {c : Operand} {x y : Code} {F : Fr} {M : List Blk} {K : Cont} {b : Bool} (hc : ev F c = some (.val (.bool b))) (hb : b = false) (h : dwp P s0 n y F M K) : dwp P s0 n (.cond c x y) F M K := qh hc (fun e => by rw [hb] at e; cases e) (fun _ => h)
theorem Jm {α : Type} {c : Code} {F : Fr} {M : List Blk} {K : Cont} (J : α → Fr) (JM : α → List Blk) (Pr : α → Prop) (μ : α → Nat) (x0 : α) (h0 : Pr x0)
  (hin : ∀ a w, Inv s0 n F M a w → Inv s0 n (J x0) (JM x0) a w)
  (round : ∀ x, Pr x → dwp P s0 n c (J x) (JM x) (Kseq (fun F' M' => ∃ y, Pr y ∧ μ y < μ x ∧ ∀ a w, Inv s0 n F' M' a w → Inv s0 n (J y) (JM y) a w) K)) : dwp P s0 n (.loop c) F M K := by
 intro a0 w0 hi0
 intro b k cs hro hb hr
 have key : ∀ m x a w, μ x = m → Pr x → Inv s0 n (J x) (JM x) a w → ∃ e a' w', PostK s0 n K e a' w' ∧ ArrivesIn (Machine.fenced P (wd (n.ρ s0))) P (lone (b.atR a (.code c :: .inLoop c :: k)) cs w) b k cs e a' w' := by
  intro m
  induction m using Nat.strongRecOn with
  | _ m ih =>
   intro x a w hm hp hi
   obtain ⟨e, a₁, w₁, hq, harr⟩ := round x hp a w hi b (.inLoop c :: k) cs hro hb hr
   cases e with
   | normal =>
    obtain ⟨F', M', hi', y, hy, hlt, hback⟩ := hq
    obtain ⟨e₂, a₂, w₂, hq₂, harr₂⟩ := ih (μ y) (hm ▸ hlt) y a₁ w₁ rfl hy (hback _ _ hi')
    exact ⟨e₂, a₂, w₂, hq₂, .of_steps (StepsIn.trans harr (.one (fenced_calm hb hr rfl) stepR_inLoop)) harr₂⟩
   | exit id => exact ⟨.exit id, a₁, w₁, hq, .pass (x := .inLoop c) rfl (fun _ _ => .inl (by simp)) harr⟩
   | goto l => exact ⟨.goto l, a₁, w₁, hq, .pass (x := .inLoop c) rfl (fun _ _ => .inl (by simp)) harr⟩
   | ret => exact ⟨.ret, a₁, w₁, hq, .pass (x := .inLoop c) rfl (fun _ _ => .inl (by simp)) harr⟩
   | panic ch => exact ⟨.panic ch, a₁, w₁, hq, .pass (x := .inLoop c) rfl (fun _ _ => .inl (by simp)) harr⟩
   | outgrown => exact ⟨.outgrown, a₁, w₁, hq, .pass (x := .inLoop c) rfl (fun _ _ => .inl (by simp)) harr⟩
 obtain ⟨e, a', w', hq, harr⟩ := key _ x0 a0 w0 rfl h0 (hin _ _ hi0)
 exact ⟨e, a', w', hq, .of_steps (.one (fenced_calm hb hr rfl) stepR_loop) harr⟩
end
end Go.Proofs.YtofklkbfkoliiaaGreat
namespace Go.Proofs.YtofklkbfkoliiaaGreat
set_option linter.unusedVariables false
set_option linter.unusedSimpArgs false
open Go.RowKit
def pos : List Nat → Nat → Option Nat
 | [], _ => none
 | j :: r, i => bif Nat.beq j i then some 0 else (pos r i).map (· + 1)
theorem jy : ∀ (σ : List Nat) (i j : Nat), pos σ i = some j → σ[j]? = some i
 | [], i, j, h => by cases h
 | k :: r, i, j, h => by
  unfold pos at h
  cases e : Nat.beq k i with
  | true => rw [e] at h; cases h; simp [Nat.eq_of_beq_eq_true e]
  | false =>
   rw [e] at h
   simp only [cond_false, qbL] at h
   obtain ⟨m, hm, rfl⟩ := h
   simpa using jy r i m hm
theorem jK : ∀ (σ : List Nat) (i : Nat), pos σ i = none → i ∉ σ
 | [], i, _ => by simp
 | k :: r, i, h => by
  unfold pos at h
  cases e : Nat.beq k i with
  | true => rw [e] at h; cases h
  | false =>
   rw [e] at h
   simp only [cond_false, Option.map_eq_none_iff] at h
   intro hm
   rcases List.mem_cons.1 hm with rfl | hm
   ·simp at e
   ·exact jK r i h hm
def Gh (V : Nat → Bool) (M : List Blk) (i o : Nat) : Option D :=
 bif V i then (match M[i]? with
  | some (.flat _ L) => some (.dpf (L.drop o))
  | some (.mix _ l) => bif D.nlL l then some (.dpm (l.drop o)) else none
  | _ => none) else none
def w4 (V : Nat → Bool) (M : List Blk) (i : Nat) : Option D :=
 bif V i then (match M[i]? with
  | some (.arr _ sz n L) => some (.slf sz n L)
  | _ => none) else none
def zh (V : Nat → Bool) (M : List Blk) (i o : Nat) : Option D :=
 bif V i then (match M[i]? with
  | some (.arr _ _ _ L) => some (.dpf (L.drop o))
  | some (.arx _ _ _ l) => bif D.nlL l then some (.dpm (l.drop o)) else none
  | _ => none) else none
def wU (V : Nat → Bool) (M : List Blk) (i sz o n : Nat) : Option D :=
 bif V i then (match M[i]? with
  | some (.arr _ sz' _ L) => bif Nat.beq sz sz' then some (.slf sz n ((L.drop (o * sz)).take (n * sz))) else none
  | _ => none) else none
def vZ (V : Nat → Bool) (M : List Blk) (i k o : Nat) : Option D :=
 bif V i then (match M[i]? with
  | some (.fam Bs) => match Bs[k]? with
   | some (.flat _ L) => some (.dpf (L.drop o))
   | _ => none
  | _ => none) else none
def yN (V : Nat → Bool) (M : List Blk) (i k : Nat) : Option D :=
 bif V i then (match M[i]? with
  | some (.fam Bs) => match Bs[k]? with
   | some (.arr _ sz n L) => some (.slf sz n L)
   | _ => none
  | _ => none) else none
def wC (V : Nat → Bool) (M : List Blk) (i k o : Nat) : Option D :=
 bif V i then (match M[i]? with
  | some (.fam Bs) => match Bs[k]? with
   | some (.arr _ _ _ L) => some (.dpf (L.drop o))
   | _ => none
  | _ => none) else none
def vw1 (σ : List Nat) (V : Nat → Bool) (M : List Blk) : D → Option D
 | .arr i => match pos σ i with
  | some _ => none
  | none => w4 V M i
 | .own i sz o n => match pos σ i with
  | some _ => none
  | none => wU V M i sz o n
 | .farr i k => match pos σ i with
  | some _ => none
  | none => yN V M i k
 | .floc i k o => match pos σ i with
  | some _ => none
  | none => vZ V M i k o
 | d => bif d.nl then some d else none
def yk (σ : List Nat) (V : Nat → Bool) (M : List Blk) : List D → Option (List D)
 | [] => some []
 | d :: l => match vw1 σ V M d, yk σ V M l with
  | some d', some l' => some (d' :: l')
  | _, _ => none
def uy (σ : List Nat) (V : Nat → Bool) (M : List Blk) (i : Nat) : Option D :=
 bif V i then (match M[i]? with
  | some (.arr _ sz n L) => some (.slf sz n L)
  | some (.arx _ sz n l) => (yk σ V M l).map (.slm sz n)
  | _ => none) else none
mutual
def vw (σ : List Nat) (V : Nat → Bool) (M : List Blk) : D → Option D
 | .val v => some (.val v)
 | .loc i o => match pos σ i with
  | some j => some (.loc j o)
  | none => Gh V M i o
 | .arr i => match pos σ i with
  | some j => some (.arr j)
  | none => uy σ V M i
 | .aloc i o => match pos σ i with
  | some j => some (.aloc j o)
  | none => zh V M i o
 | .own i sz o n => match pos σ i with
  | some j => some (.own j sz o n)
  | none => wU V M i sz o n
 | .part i sz o n c => match pos σ i with
  | some j => some (.part j sz o n c)
  | none => none
 | .dpf L => some (.dpf L)
 | .pin b L => some (.pin b L)
 | .pip L => some (.pip L)
 | .slf sz n L => some (.slf sz n L)
 | .slc sz n L => some (.slc sz n L)
 | .tup l => (vwL σ V M l).map .tup
 | .agg l => (vwL σ V M l).map .agg
 | .dpm l => some (.dpm l)
 | .slm sz n l => some (.slm sz n l)
 | .smc sz n l => some (.smc sz n l)
 | .fn f a b => match vwL σ V M a, vwL σ V M b with
  | some a', some b' => some (.fn f a' b')
  | _, _ => none
 | .ifc t d => (vw σ V M d).map (.ifc t)
 | .opt b d => (vw σ V M d).map (.opt b)
 | .hnd i => match pos σ i with
  | some j => some (.hnd j)
  | none => none
 | .yld i => match pos σ i with
  | some j => some (.yld j)
  | none => none
 | .floc i k o => match pos σ i with
  | some j => some (.floc j k o)
  | none => vZ V M i k o
 | .farr i k => match pos σ i with
  | some j => some (.farr j k)
  | none => yN V M i k
 | .faloc i k o => match pos σ i with
  | some j => some (.faloc j k o)
  | none => wC V M i k o
 | .junk => some .junk
def vwL (σ : List Nat) (V : Nat → Bool) (M : List Blk) : List D → Option (List D)
 | [] => some []
 | d :: l => match vw σ V M d, vwL σ V M l with
  | some d', some l' => some (d' :: l')
  | _, _ => none
end
def vwF (σ : List Nat) (V : Nat → Bool) (M : List Blk) : List (Nat × D) → Option (List (Nat × D))
 | [] => some []
 | (t, d) :: l => match vw σ V M d, vwF σ V M l with
  | some d', some l' => some ((t, d') :: l')
  | _, _ => none
def vwB (σ : List Nat) (V : Nat → Bool) (M : List Blk) : Blk → Option Blk
 | .mix T l => (vwL σ V M l).map (.mix T)
 | .arx T sz n l => (vwL σ V M l).map (.arx T sz n)
 | .mpd ks l => (vwL σ V M l).map (.mpd ks)
 | .mit d n seen => (vw σ V M d).map fun d' => .mit d' n seen
 | .lp g n F ps asg body st pe => (vwF σ V M F).map fun F' => .lp g n F' ps asg body st pe
 | k => some k
def gl (σ : List Nat) (V : Nat → Bool) (M : List Blk) : List Nat → Option (List Blk)
 | [] => some []
 | i :: r => match M[i]?, gl σ V M r with
  | some k, some r' => (vwB σ V M k).map (· :: r')
  | _, _ => none
theorem yl {σ : List Nat} {V : Nat → Bool} {M : List Blk} : ∀ (l l' : List D), vwL σ V M l = some l' → l'.length = l.length ∧ ∀ (j : Nat) d', l'[j]? = some d' → ∃ d, l[j]? = some d ∧ vw σ V M d = some d'
 | [], l', h => by unfold vwL at h; cases h; exact ⟨rfl, fun j d h => by simp at h⟩
 | d :: l, l', h => by
  unfold vwL at h
  cases e1 : vw σ V M d with
  | none => rw [e1] at h; simp at h
  | some d1 =>
   cases e2 : vwL σ V M l with
   | none => rw [e1, e2] at h; simp at h
   | some l1 =>
    rw [e1, e2] at h
    obtain rfl := qbw h
    obtain ⟨h1, h2⟩ := yl l l1 e2
    refine ⟨by simp [h1], fun j d' hj => ?_⟩
    cases j with
    | zero => simp at hj; subst hj; exact ⟨d, rfl, e1⟩
    | succ j => simp at hj; obtain ⟨x, hx, hx2⟩ := h2 j d' hj; exact ⟨x, by simpa using hx, hx2⟩
theorem Gi {σ : List Nat} {V : Nat → Bool} {M : List Blk} : ∀ (l l' : List (Nat × D)), vwF σ V M l = some l' → ∀ t d', lk l' t = some d' → ∃ d, lk l t = some d ∧ vw σ V M d = some d'
 | [], l', h => by unfold vwF at h; cases h; intro t d h; cases h
 | (k, d) :: l, l', h => by
  unfold vwF at h
  cases e1 : vw σ V M d with
  | none => rw [e1] at h; simp at h
  | some d1 =>
   cases e2 : vwF σ V M l with
   | none => rw [e1, e2] at h; simp at h
   | some l1 =>
    rw [e1, e2] at h
    obtain rfl := qbw h
    intro t d' hd
    rw [jx] at hd ⊢
    by_cases e : k = t
    ·rw [if_pos e] at hd ⊢; cases hd; exact ⟨d, rfl, e1⟩
    ·rw [if_neg e] at hd ⊢; exact Gi l l1 e2 t d' hd
theorem y9 {σ : List Nat} {V : Nat → Bool} {M : List Blk} : ∀ (τ : List Nat) (M' : List Blk), gl σ V M τ = some M' → M'.length = τ.length ∧ ∀ (j : Nat) k', M'[j]? = some k' → ∃ i k, τ[j]? = some i ∧ M[i]? = some k ∧ vwB σ V M k = some k'
 | [], M', h => by unfold gl at h; cases h; exact ⟨rfl, fun j d h => by simp at h⟩
 | i :: r, M', h => by
  unfold gl at h
  cases e1 : M[i]? with
  | none => rw [e1] at h; simp at h
  | some k =>
   cases e2 : gl σ V M r with
   | none => rw [e1, e2] at h; simp at h
   | some r1 =>
    rw [e1, e2] at h
    simp only [qbL] at h
    obtain ⟨k1, hk1, rfl⟩ := h
    obtain ⟨h1, h2⟩ := y9 r r1 e2
    refine ⟨by simp [h1], fun j d' hj => ?_⟩
    cases j with
    | zero => simp at hj; subst hj; exact ⟨i, k, rfl, e1, hk1⟩
    | succ j => simp at hj; obtain ⟨x, y, hx, hx2⟩ := h2 j d' hj; exact ⟨x, y, by simpa using hx, hx2⟩
theorem zi {σ : List Nat} {V : Nat → Bool} {M : List Blk} {k k' : Blk} (h : vwB σ V M k = some k') {x : Value} {b : Nat} : jo k' x b ↔ jo k x b := by
 cases k <;> simp only [vwB, Option.some.injEq, qbL] at h
 case mix T l => obtain ⟨a, _, rfl⟩ := h; exact Iff.rfl
 case arx T sz n l => obtain ⟨a, _, rfl⟩ := h; exact Iff.rfl
 case mpd ks l => obtain ⟨a, _, rfl⟩ := h; exact Iff.rfl
 case mit d n seen => obtain ⟨a, _, rfl⟩ := h; exact Iff.rfl
 case lp g n F ps asg body st pe => obtain ⟨a, _, rfl⟩ := h; exact Iff.rfl
 all_goals (subst h; exact Iff.rfl)
theorem uz {σ : List Nat} {V : Nat → Bool} {M : List Blk} {k k' : Blk} (h : vwB σ V M k = some k') : k'.live = k.live := by
 cases k <;> simp only [vwB, Option.some.injEq, qbL] at h
 case mix T l => obtain ⟨a, _, rfl⟩ := h; rfl
 case arx T sz n l => obtain ⟨a, _, rfl⟩ := h; rfl
 case mpd ks l => obtain ⟨a, _, rfl⟩ := h; rfl
 case mit d n seen => obtain ⟨a, _, rfl⟩ := h; rfl
 case lp g n F ps asg body st pe => obtain ⟨a, _, rfl⟩ := h; rfl
 all_goals (subst h; rfl)
def Vis (s : St) (σ : List Nat) (V : Nat → Bool) (b : Nat) : Prop := ∃ (i : Nat) (k : Blk) (h : Value), V i = true ∧ i ∉ σ ∧ s.M[i]? = some k ∧ k.live = true ∧ s.β[i]? = some h ∧ jo k h b
def vst (s : St) (σ : List Nat) (V : Nat → Bool) (M' : List Blk) : St := ⟨σ.map fun i => s.β.getD i .nilFunc, fun b => s.I b ∨ Vis s σ V b, M', s.w⟩
theorem jj {s : St} {σ : List Nat} {V : Nat → Bool} {M' : List Blk} {i j : Nat} {h : Value} (hj : σ[j]? = some i) (hi : s.β[i]? = some h) : (vst s σ V M').β[j]? = some h := by
 show (σ.map fun i => s.β.getD i .nilFunc)[j]? = some h
 rw [qca, hj]
 simp [hi]
theorem qi {w : World} {b : Nat} {cs : Array Value} {T : TypeId} {f : Nat × Nat} (h : w.heap[b]? = some (.cells cs T f)) (o : Nat) : kc w b o (cs.toList.drop o) := by
 intro j v hj
 rw [cell_of_row w b (o + j) cs T f h]
 simpa [qcd] using hj
theorem qN {w : World} {b o : Nat} {L : List Value} (h : kc w b o L) (p q : Nat) : kc w b (o + p) ((L.drop p).take q) := by
 intro j v hj
 rw [List.getElem?_take] at hj
 split at hj
 ·rw [qcd] at hj
  rw [Nat.add_assoc]
  exact h _ v hj
 ·cases hj
theorem jz : ∀ {l : List D} {j : Nat} {d : D}, D.nlL l = true → l[j]? = some d → d.nl = true
 | d :: l, 0, e, h, hj => by simp at hj; subst hj; unfold D.nlL at h; simp at h; exact h.1
 | d :: l, j + 1, e, h, hj => by unfold D.nlL at h; simp at h hj; exact jz h.2 hj
theorem vb : ∀ {l : List D} (o : Nat), D.nlL l = true → D.nlL (l.drop o) = true
 | l, 0, h => by simpa using h
 | [], o + 1, h => by simp [D.nlL]
 | d :: l, o + 1, h => by unfold D.nlL at h; simp at h; simpa using vb o h.2
theorem Rep.nl {s s' : St} (up : ∀ b, s.I b → s'.I b) (imm : ∀ b, s.I b → s'.w.heap[b]? = s.w.heap[b]?) {d : D} {v : Value} (h : Rep s d v) : d.nl = true → Rep s' d v := by
 induction h with
 | val v => intro _; exact .val v
 | loc h => intro e; cases e
 | arr h => intro e; cases e
 | aloc h => intro e; cases e
 | own h => intro e; cases e
 | ownnil h => intro e; cases e
 | part h => intro e; cases e
 | partnil h => intro e; cases e
 | dpf hI h => intro _; exact .dpf (up _ hI) (km (imm _ hI) h)
 | pin hI h ho => intro _; exact .pin (up _ hI) (km (imm _ hI) h) ((imm _ hI).trans ho)
 | pip hI h ho => intro _; exact .pip (up _ hI) (km (imm _ hI) h) ((imm _ hI).trans ho)
 | slf hl hn hc ha h => intro _; exact .slf hl hn hc ha (h.imp id fun ⟨b, o, e, hI, h⟩ => ⟨b, o, e, up _ hI, km (imm _ hI) h⟩)
 | slc hl hc ha h => intro _; exact .slc hl hc ha (h.imp id fun ⟨b, o, e, hI, h⟩ => ⟨b, o, e, up _ hI, km (imm _ hI) h⟩)
 | tup hl _ ih => intro e; exact .tup hl fun j d v hj hv => ih j d v hj hv (jz (by simpa [D.nl] using e) hj)
 | agg hl _ ih => intro e; exact .agg hl fun j d v hj hv => ih j d v hj hv (jz (by simpa [D.nl] using e) hj)
 | dpm hnl hI hc hl _ ih => intro _; exact .dpm hnl (up _ hI) (km (imm _ hI) hc) hl fun j d v hj hv => ih j d v hj hv (jz hnl hj)
 | smc hnl hl hc ha hv _ hm ih => intro _; exact .smc hnl hl hc ha hv (fun j d v hj hv => ih j d v hj hv (jz hnl hj)) (hm.imp id fun ⟨b, o, e, hI, h⟩ => ⟨b, o, e, up _ hI, km (imm _ hI) h⟩)
 | slm hnl hl hn hc ha hv _ hm ih => intro _; exact .slm hnl hl hn hc ha hv (fun j d v hj hv => ih j d v hj hv (jz hnl hj)) (hm.imp id fun ⟨b, o, e, hI, h⟩ => ⟨b, o, e, up _ hI, km (imm _ hI) h⟩)
 | fn hl hk _ _ ih ih' =>
  intro e
  simp only [D.nl, qbu] at e
  exact .fn hl hk (fun j d v hj hv => ih j d v hj hv (jz e.1 hj)) (fun j d v hj hv => ih' j d v hj hv (jz e.2 hj))
 | ifc _ ih => intro e; exact .ifc (ih (by simpa [D.nl] using e))
 | opt _ hu ih => intro e; exact .opt (fun hb => ih hb (by simpa [D.nl] using e)) hu
 | hnd h => intro e; cases e
 | yld h => intro e; cases e
 | floc h => intro e; cases e
 | farr h => intro e; cases e
 | faloc h => intro e; cases e
 | junk v => intro _; exact .junk v
theorem Gj (b o n : Nat) : (⟨b, o, none⟩ : Addr).add n = ⟨b, o + n, none⟩ := by unfold Addr.add; split <;> simp_all
theorem YI {s : St} (ho : Ok s) {σ : List Nat} {V : Nat → Bool} {M' : List Blk} {i n c : Nat} {a : Option Addr} (h : s.β[i]? = some (.slice a n c)) (hp : pos σ i = none) {d' : D} (e : w4 V s.M i = some d') : d'.nl = true ∧ Rep (vst s σ V M') d' (.slice a n c) := by
 simp only [w4] at e
 cases hv : V i with
 | false => rw [hv] at e; cases e
 | true =>
  rw [hv] at e
  simp only [cond_true] at e
  split at e
  ·rename_i T sz m L hM
   cases e
   refine ⟨rfl, ?_⟩
   have hk : s.w.ownsRow 0 T sz _ m L := ho.blk i _ _ hM h
   rcases hk.2 with ⟨e1, e2⟩ | ⟨g, cap, cur, e1, e2, e3, e4, e5, e6, e7⟩
   ·cases e1; subst e2
    exact .slf hk.1 (qbM _) (qb3 _) (fun _ => rfl) (.inl (qbU (by simpa using hk.1)))
   ·cases e1
    refine .slf hk.1 e4 e5 (fun e => by cases e) (.inr ⟨g, 0, rfl, .inr ⟨i, _, _, hv, jK σ i hp, hM, rfl, h, rfl⟩, ?_⟩)
    have hc := qN (qi e3 0) 0 (n * sz)
    show kc s.w g 0 L
    simpa [e7] using hc
  ·cases e
theorem w5 {s : St} (ho : Ok s) {i k : Nat} {Bs : List Mem} {hs : List Value} (hM : s.M[i]? = some (.fam Bs)) (h : s.β[i]? = some (.tuple hs.toArray)) : FamOk s.w hs Bs := by
 obtain ⟨hs', e, hf⟩ := ho.blk i _ _ hM h
 have e1 : hs = hs' := by simpa using e
 subst e1
 exact hf
theorem zj {s : St} (ho : Ok s) {σ : List Nat} {V : Nat → Bool} {M' : List Blk} {i k o b : Nat} {hs : List Value} (h : s.β[i]? = some (.tuple hs.toArray)) (hk : hs[k]? = some (.pointer (some ⟨b, 0, none⟩))) (hp : pos σ i = none) {d' : D} (e : vZ V s.M i k o = some d') : d'.nl = true ∧ Rep (vst s σ V M') d' (.pointer (some ⟨b, o, none⟩)) := by
 simp only [vZ] at e
 cases hv : V i with
 | false => rw [hv] at e; cases e
 | true =>
  rw [hv] at e
  simp only [cond_true] at e
  split at e
  ·rename_i Bs hM
   split at e
   ·rename_i T L hB
    cases e
    have hf := w5 (k := k) ho hM h
    obtain ⟨b', e1, e2⟩ := hf.ok k _ _ hB hk
    cases e1
    exact ⟨rfl, .dpf (.inr ⟨i, _, _, hv, jK σ i hp, hM, rfl, h, hs, k, _, _, rfl, hB, rfl, hk, rfl⟩) (show kc s.w b o (L.drop o) by simpa using qi e2 o)⟩
   ·cases e
  ·cases e
theorem zk {s : St} (ho : Ok s) {σ : List Nat} {V : Nat → Bool} {M' : List Blk} {i k n c : Nat} {a : Option Addr} {hs : List Value} (h : s.β[i]? = some (.tuple hs.toArray)) (hk : hs[k]? = some (.slice a n c)) (hp : pos σ i = none) {d' : D} (e : yN V s.M i k = some d') : d'.nl = true ∧ Rep (vst s σ V M') d' (.slice a n c) := by
 simp only [yN] at e
 cases hv : V i with
 | false => rw [hv] at e; cases e
 | true =>
  rw [hv] at e
  simp only [cond_true] at e
  split at e
  ·rename_i Bs hM
   split at e
   ·rename_i T sz m L hB
    cases e
    refine ⟨rfl, ?_⟩
    have hf := w5 (k := k) ho hM h
    have hk' : s.w.ownsRow 0 T sz _ m L := hf.ok k _ _ hB hk
    rcases hk'.2 with ⟨e1, e2⟩ | ⟨g, cap, cur, e1, e2, e3, e4, e5, e6, e7⟩
    ·cases e1; subst e2
     exact .slf hk'.1 (qbM _) (qb3 _) (fun _ => rfl) (.inl (qbU (by simpa using hk'.1)))
    ·cases e1
     refine .slf hk'.1 e4 e5 (fun e => by cases e) (.inr ⟨g, 0, rfl, .inr ⟨i, _, _, hv, jK σ i hp, hM, rfl, h, hs, k, _, _, rfl, hB, rfl, hk, rfl⟩, ?_⟩)
     have hc := qN (qi e3 0) 0 (n * sz)
     show kc s.w g 0 L
     simpa [e7] using hc
   ·cases e
  ·cases e
theorem Gk {s : St} (ho : Ok s) {σ : List Nat} {V : Nat → Bool} {M' : List Blk} {i k o n c b : Nat} {hs : List Value} (h : s.β[i]? = some (.tuple hs.toArray)) (hk : hs[k]? = some (.slice (some ⟨b, 0, none⟩) n c)) (hp : pos σ i = none) {d' : D} (e : wC V s.M i k o = some d') : Rep (vst s σ V M') d' (.pointer (some ⟨b, o, none⟩)) := by
 simp only [wC] at e
 cases hv : V i with
 | false => rw [hv] at e; cases e
 | true =>
  rw [hv] at e
  simp only [cond_true] at e
  split at e
  ·rename_i Bs hM
   split at e
   ·rename_i T sz m L hB
    cases e
    have hf := w5 (k := k) ho hM h
    have hk' : s.w.ownsRow 0 T sz _ m L := hf.ok k _ _ hB hk
    rcases hk'.2 with ⟨e1, e2⟩ | ⟨g, cap, cur, e1, e2, e3, e4, e5, e6, e7⟩
    ·cases e1
    ·cases e1
     refine .dpf (.inr ⟨i, _, _, hv, jK σ i hp, hM, rfl, h, hs, k, _, _, rfl, hB, rfl, hk, rfl⟩) ?_
     have hc := qN (qi e3 0) 0 (n * sz)
     have hc1 : kc s.w b 0 L := by simpa [e7] using hc
     have hc2 := qN hc1 o L.length
     rw [qbs, qbT (by rw [qbZ]; omega)] at hc2
     exact hc2
   ·cases e
  ·cases e
theorem VE {s : St} (ho : Ok s) {σ : List Nat} {V : Nat → Bool} {M' : List Blk} {i sz o n : Nat} {v : Value} (h : Rep s (.own i sz o n) v) (hp : pos σ i = none) {d' : D} (e : wU V s.M i sz o n = some d') : d'.nl = true ∧ Rep (vst s σ V M') d' v := by
 simp only [wU] at e
 cases hv : V i with
 | false => rw [hv] at e; cases e
 | true =>
  rw [hv] at e
  simp only [cond_true] at e
  split at e
  ·rename_i T sz' m L hM
   cases hs : Nat.beq sz sz' with
   | false => rw [hs] at e; cases e
   | true =>
    rw [hs] at e
    cases e
    refine ⟨rfl, ?_⟩
    obtain rfl := Nat.eq_of_beq_eq_true hs
    cases h with
    | @own _ _ _ _ N cap c b a h ha hN hz hn hc =>
     have hk : s.w.ownsRow 0 T sz _ m L := ho.blk i _ _ hM h
     rcases hk.2 with ⟨e1, e2⟩ | ⟨g, cap', cur, e1, e2, e3, e4, e5, e6, e7⟩
     ·cases e1
     ·cases e1
      have hlen : ((L.drop (o * sz)).take (n * sz)).length = n * sz := by
       rw [qbS, qbZ, hk.1, ← Nat.mul_sub_right_distrib]
       exact Nat.min_eq_left (qb6 _ (by omega))
      refine .slf hlen hn hc hz ?_
      rcases ha with rfl | rfl
      ·left; simp
      ·right
       refine ⟨b, o * sz, rfl, .inr ⟨i, _, _, hv, jK σ i hp, hM, rfl, h, rfl⟩, ?_⟩
       have hc0 := qN (qi e3 0) 0 (m * sz)
       have hc1 : kc s.w b 0 L := by simpa [e7] using hc0
       show kc s.w b (o * sz) _
       simpa using qN hc1 (o * sz) (n * sz)
    | ownnil h => exact .slf (by simp) (qbM _) (qb3 _) (fun _ => rfl) (.inl (by simp))
  ·cases e
theorem Zf {s : St} (ho : Ok s) {σ : List Nat} {V : Nat → Bool} {M' : List Blk} {d : D} {v : Value} (h : Rep s d v) {d' : D} (e : vw1 σ V s.M d = some d') : Rep (vst s σ V M') d' v := by
 have up : ∀ b, s.I b → (vst s σ V M').I b := fun b hb => .inl hb
 have imm : ∀ b, s.I b → (vst s σ V M').w.heap[b]? = s.w.heap[b]? := fun _ _ => rfl
 have oth : ∀ {d : D}, Rep s d v → (bif d.nl then some d else none) = some d' → Rep (vst s σ V M') d' v := fun {d} h e => by
  cases hnl : d.nl with
  | false => rw [hnl] at e; cases e
  | true => rw [hnl] at e; cases e; exact h.nl up imm hnl
 unfold vw1 at e
 split at e
 ·split at e
  ·cases e
  ·rename_i hp
   cases h with
   | arr h => exact (YI ho h hp e).2
 ·split at e
  ·cases e
  ·rename_i hp
   exact (VE ho h hp e).2
 ·split at e
  ·cases e
  ·rename_i hp
   cases h with
   | farr h hk => exact (zk ho h hk hp e).2
 ·split at e
  ·cases e
  ·rename_i hp
   cases h with
   | floc h hk => exact (zj ho h hk hp e).2
 ·exact oth h e
theorem AL {σ : List Nat} {V : Nat → Bool} {M : List Blk} {d d' : D} (e : vw1 σ V M d = some d') : d'.nl = true := by
 unfold vw1 at e
 split at e
 ·split at e
  ·cases e
  ·rename_i i _ _
   simp only [w4] at e
   cases hv : V i with
   | false => rw [hv] at e; cases e
   | true => rw [hv] at e; simp only [cond_true] at e; split at e <;> cases e; rfl
 ·split at e
  ·cases e
  ·rename_i i sz _ _ _ _
   simp only [wU] at e
   cases hv : V i with
   | false => rw [hv] at e; cases e
   | true =>
    rw [hv] at e
    simp only [cond_true] at e
    split at e
    ·rename_i T sz' m L _
     cases hs : Nat.beq sz sz' with
     | false => rw [hs] at e; cases e
     | true => rw [hs] at e; cases e; rfl
    ·cases e
 ·split at e
  ·cases e
  ·rename_i i _ _ _
   simp only [yN] at e
   cases hv : V i with
   | false => rw [hv] at e; cases e
   | true =>
    rw [hv] at e; simp only [cond_true] at e
    split at e
    ·split at e <;> cases e; rfl
    ·cases e
 ·split at e
  ·cases e
  ·rename_i i _ _ _ _
   simp only [vZ] at e
   cases hv : V i with
   | false => rw [hv] at e; cases e
   | true =>
    rw [hv] at e; simp only [cond_true] at e
    split at e
    ·split at e <;> cases e; rfl
    ·cases e
 ·have aux : ∀ d : D, (bif d.nl then some d else none) = some d' → d'.nl = true := fun d e => by
   cases hnl : d.nl with
   | false => rw [hnl] at e; cases e
   | true => rw [hnl] at e; cases e; exact hnl
  exact aux _ e
theorem Ku {σ : List Nat} {V : Nat → Bool} {M : List Blk} : ∀ (l l' : List D), yk σ V M l = some l' → l'.length = l.length ∧ D.nlL l' = true ∧ ∀ (j : Nat) d', l'[j]? = some d' → ∃ d, l[j]? = some d ∧ vw1 σ V M d = some d'
 | [], l', h => by unfold yk at h; cases h; exact ⟨rfl, rfl, fun j d h => by simp at h⟩
 | d :: l, l', h => by
  unfold yk at h
  cases e1 : vw1 σ V M d with
  | none => rw [e1] at h; simp at h
  | some d1 =>
   cases e2 : yk σ V M l with
   | none => rw [e1, e2] at h; simp at h
   | some l1 =>
    rw [e1, e2] at h
    obtain rfl := qbw h
    obtain ⟨h1, h3, h2⟩ := Ku l l1 e2
    refine ⟨by simp [h1], by unfold D.nlL; rw [AL e1, h3]; rfl, fun j d' hj => ?_⟩
    cases j with
    | zero => simp at hj; subst hj; exact ⟨d, rfl, e1⟩
    | succ j => simpa using h2 j d' (by simpa using hj)
theorem j8 {s : St} (ho : Ok s) {σ : List Nat} {V : Nat → Bool} {M' : List Blk} {d : D} {v : Value} (h : Rep s d v) : ∀ d', vw σ V s.M d = some d' → Rep (vst s σ V M') d' v := by
 have up : ∀ b, s.I b → (vst s σ V M').I b := fun b hb => .inl hb
 have imm : ∀ b, s.I b → (vst s σ V M').w.heap[b]? = s.w.heap[b]? := fun _ _ => rfl
 have lists : ∀ {l l' : List D} {vs : List Value}, vwL σ V s.M l = some l' → vs.length = l.length → (∀ (j : Nat) d v, l[j]? = some d → vs[j]? = some v → ∀ d', vw σ V s.M d = some d' → Rep (vst s σ V M') d' v) →
   vs.length = l'.length ∧ ∀ (j : Nat) d v, l'[j]? = some d → vs[j]? = some v → Rep (vst s σ V M') d v := by
  intro l l' vs e hl ih
  obtain ⟨h1, h2⟩ := yl l l' e
  refine ⟨by omega, fun j d v hj hv => ?_⟩
  obtain ⟨x, hx, hx2⟩ := h2 j d hj
  exact ih j x v hx hv d hx2
 induction h with
 | val v => intro d' e; unfold vw at e; cases e; exact .val v
 | @loc i o b h =>
  intro d' e
  unfold vw at e
  cases hp : pos σ i with
  | some j => rw [hp] at e; cases e; exact .loc (jj (jy σ i j hp) h)
  | none =>
   rw [hp] at e
   simp only [Gh] at e
   cases hv : V i with
   | false => rw [hv] at e; cases e
   | true =>
    rw [hv] at e
    simp only [cond_true] at e
    split at e
    ·rename_i T L hM
     cases e
     obtain ⟨b', e1, e2⟩ := ho.blk i _ _ hM h
     cases e1
     exact .dpf (.inr ⟨i, _, _, hv, jK σ i hp, hM, rfl, h, rfl⟩) (show kc s.w b o (L.drop o) by simpa using qi e2 o)
    ·rename_i T l hM
     cases hnl : D.nlL l with
     | false => rw [hnl] at e; cases e
     | true =>
      rw [hnl] at e
      cases e
      obtain ⟨b', vs, e1, e2, e3, e4⟩ := ho.blk i _ _ hM h
      cases e1
      refine .dpm (vs := vs.drop o) (vb o hnl) (.inr ⟨i, _, _, hv, jK σ i hp, hM, rfl, h, rfl⟩) (show kc s.w b o (vs.drop o) by simpa using qi e2 o) (by simp [e3]) fun j d v hj hv => ?_
      rw [qcd] at hj hv
      exact (e4 _ d v hj hv).nl up imm (jz hnl hj)
    ·cases e
 | @arr i a n c h =>
  intro d' e
  unfold vw at e
  cases hp : pos σ i with
  | some j => rw [hp] at e; cases e; exact .arr (jj (jy σ i j hp) h)
  | none =>
   rw [hp] at e
   simp only [uy] at e
   cases hv : V i with
   | false => rw [hv] at e; cases e
   | true =>
    rw [hv] at e
    simp only [cond_true] at e
    split at e
    ·rename_i T sz m L hM
     cases e
     have hk : s.w.ownsRow 0 T sz _ m L := ho.blk i _ _ hM h
     rcases hk.2 with ⟨e1, e2⟩ | ⟨g, cap, cur, e1, e2, e3, e4, e5, e6, e7⟩
     ·cases e1; subst e2
      exact .slf hk.1 (qbM _) (qb3 _) (fun _ => rfl) (.inl (qbU (by simpa using hk.1)))
     ·cases e1
      refine .slf hk.1 e4 e5 (fun e => by cases e) (.inr ⟨g, 0, rfl, .inr ⟨i, _, _, hv, jK σ i hp, hM, rfl, h, rfl⟩, ?_⟩)
      have hc := qN (qi e3 0) 0 (n * sz)
      show kc s.w g 0 L
      simpa [e7] using hc
    ·rename_i T sz m l hM
     simp only [qbL] at e
     obtain ⟨l', e, rfl⟩ := e
     obtain ⟨hll, hnl, hsp⟩ := Ku l l' e
     obtain ⟨vs, hk, q3, q4⟩ := ho.blk i _ _ hM h
     have hel : ∀ (j : Nat) d v, l'[j]? = some d → vs[j]? = some v → Rep (vst s σ V M') d v := fun j d v hj hv => by
      obtain ⟨x, hx, hx2⟩ := hsp j d hj
      exact Zf ho (q4 j x v hx hv) hx2
     have q5 : vs.length = l'.length := q3.trans hll.symm
     rcases hk.2 with ⟨e1, e2⟩ | ⟨g, cap, cur, e1, e2, e3, e4, e5, e6, e7⟩
     ·cases e1; subst e2
      have hl0 : l' = [] := qbU (by rw [← q5, hk.1, Nat.zero_mul])
      exact .slm hnl (by rw [← q5]; exact hk.1) (qbM _) (qb3 _) (fun _ => rfl) q5 hel (.inl hl0)
     ·cases e1
      refine .slm hnl (by rw [← q5]; exact hk.1) e4 e5 (fun e => by cases e) q5 hel (.inr ⟨g, 0, rfl, .inr ⟨i, _, _, hv, jK σ i hp, hM, rfl, h, rfl⟩, ?_⟩)
      have hc := qN (qi e3 0) 0 (n * sz)
      show kc s.w g 0 vs
      simpa [e7] using hc
    ·cases e
 | @aloc i o n c b h =>
  intro d' e
  unfold vw at e
  cases hp : pos σ i with
  | some j => rw [hp] at e; cases e; exact .aloc (jj (jy σ i j hp) h)
  | none =>
   rw [hp] at e
   simp only [zh] at e
   cases hv : V i with
   | false => rw [hv] at e; cases e
   | true =>
    rw [hv] at e
    simp only [cond_true] at e
    split at e
    ·rename_i T sz m L hM
     cases e
     have hk : s.w.ownsRow 0 T sz _ m L := ho.blk i _ _ hM h
     rcases hk.2 with ⟨e1, e2⟩ | ⟨g, cap, cur, e1, e2, e3, e4, e5, e6, e7⟩
     ·cases e1
     ·cases e1
      refine .dpf (.inr ⟨i, _, _, hv, jK σ i hp, hM, rfl, h, rfl⟩) ?_
      show kc s.w b o (L.drop o)
      have hc0 := qN (qi e3 0) 0 (n * sz)
      have hc1 : kc s.w b 0 L := by simpa [e7] using hc0
      have hc2 := qN hc1 o L.length
      rw [qbT (by simp)] at hc2
      simpa using hc2
    ·rename_i T sz m l hM
     cases hnl : D.nlL l with
     | false => rw [hnl] at e; cases e
     | true =>
      rw [hnl] at e
      cases e
      obtain ⟨vs, hk, q3, q4⟩ := ho.blk i _ _ hM h
      rcases hk.2 with ⟨e1, e2⟩ | ⟨g, cap, cur, e1, e2, e3, e4, e5, e6, e7⟩
      ·cases e1
      ·cases e1
       refine .dpm (vs := vs.drop o) (vb o hnl) (.inr ⟨i, _, _, hv, jK σ i hp, hM, rfl, h, rfl⟩) ?_ (by simp [q3]) fun j d v hj hv => ?_
       ·show kc s.w b o (vs.drop o)
        have hc0 := qN (qi e3 0) 0 (n * sz)
        have hc1 : kc s.w b 0 vs := by simpa [e7] using hc0
        have hc2 := qN hc1 o vs.length
        rw [qbT (by simp)] at hc2
        simpa using hc2
       ·rw [qcd] at hj hv
        exact (q4 _ d v hj hv).nl up imm (jz hnl hj)
    ·cases e
 | @own i sz o n N cap c b a h ha hN hz hn hc =>
  intro d' e
  unfold vw at e
  cases hp : pos σ i with
  | some j => rw [hp] at e; cases e; exact .own (jj (jy σ i j hp) h) ha hN hz hn hc
  | none =>
   rw [hp] at e
   simp only [wU] at e
   cases hv : V i with
   | false => rw [hv] at e; cases e
   | true =>
    rw [hv] at e
    simp only [cond_true] at e
    split at e
    ·rename_i T sz' m L hM
     cases hs : Nat.beq sz sz' with
     | false => rw [hs] at e; cases e
     | true =>
      rw [hs] at e
      cases e
      obtain rfl := Nat.eq_of_beq_eq_true hs
      have hk : s.w.ownsRow 0 T sz _ m L := ho.blk i _ _ hM h
      rcases hk.2 with ⟨e1, e2⟩ | ⟨g, cap', cur, e1, e2, e3, e4, e5, e6, e7⟩
      ·cases e1
      ·cases e1
       have hlen : ((L.drop (o * sz)).take (n * sz)).length = n * sz := by
        rw [qbS, qbZ, hk.1, ← Nat.mul_sub_right_distrib]
        exact Nat.min_eq_left (qb6 _ (by omega))
       refine .slf hlen hn hc hz ?_
       rcases ha with rfl | rfl
       ·left; simp
       ·right
        refine ⟨b, o * sz, rfl, .inr ⟨i, _, _, hv, jK σ i hp, hM, rfl, h, rfl⟩, ?_⟩
        have hc0 := qN (qi e3 0) 0 (N * sz)
        have hc1 : kc s.w b 0 L := by simpa [e7] using hc0
        show kc s.w b (o * sz) _
        simpa using qN hc1 (o * sz) (n * sz)
    ·cases e
 | @ownnil i sz h =>
  intro d' e
  unfold vw at e
  cases hp : pos σ i with
  | some j => rw [hp] at e; cases e; exact .ownnil (jj (jy σ i j hp) h)
  | none =>
   rw [hp] at e
   simp only [wU] at e
   cases hv : V i with
   | false => rw [hv] at e; cases e
   | true =>
    rw [hv] at e
    simp only [cond_true] at e
    split at e
    ·rename_i T sz' m L hM
     cases hs : Nat.beq sz sz' with
     | false => rw [hs] at e; cases e
     | true =>
      rw [hs] at e
      cases e
      exact .slf (by simp) (qbM _) (qb3 _) (fun _ => rfl) (.inl (by simp))
    ·cases e
 | part h ha hN hn hc =>
  rename_i i sz o n c N cap b a
  intro d' e
  unfold vw at e
  cases hp : pos σ i with
  | some j => rw [hp] at e; cases e; exact .part (jj (jy σ i j hp) h) ha hN hn hc
  | none => rw [hp] at e; cases e
 | @partnil i sz h =>
  intro d' e
  unfold vw at e
  cases hp : pos σ i with
  | some j => rw [hp] at e; cases e; exact .partnil (jj (jy σ i j hp) h)
  | none => rw [hp] at e; cases e
 | dpf hI h => intro d' e; unfold vw at e; cases e; exact .dpf (up _ hI) h
 | pin hI h ho => intro d' e; unfold vw at e; cases e; exact .pin (up _ hI) h ho
 | pip hI h ho => intro d' e; unfold vw at e; cases e; exact .pip (up _ hI) h ho
 | slf hl hn hc ha h => intro d' e; unfold vw at e; cases e; exact .slf hl hn hc ha (h.imp id fun ⟨b, o, e, hI, h⟩ => ⟨b, o, e, up _ hI, h⟩)
 | slc hl hc ha h => intro d' e; unfold vw at e; cases e; exact .slc hl hc ha (h.imp id fun ⟨b, o, e, hI, h⟩ => ⟨b, o, e, up _ hI, h⟩)
 | tup hl _ ih =>
  intro d' e
  unfold vw at e
  simp only [qbL] at e
  obtain ⟨l', e, rfl⟩ := e
  obtain ⟨h1, h2⟩ := lists e hl ih
  exact .tup h1 h2
 | agg hl _ ih =>
  intro d' e
  unfold vw at e
  simp only [qbL] at e
  obtain ⟨l', e, rfl⟩ := e
  obtain ⟨h1, h2⟩ := lists e hl ih
  exact .agg h1 h2
 | dpm hnl hI hc hl h _ => intro d' e; unfold vw at e; cases e; exact .dpm hnl (up _ hI) hc hl fun j d v hj hv => (h j d v hj hv).nl up imm (jz hnl hj)
 | smc hnl hl hc ha hv h hm _ => intro d' e; unfold vw at e; cases e; exact .smc hnl hl hc ha hv (fun j d v hj hv => (h j d v hj hv).nl up imm (jz hnl hj)) (hm.imp id fun ⟨b, o, e, hI, h⟩ => ⟨b, o, e, up _ hI, h⟩)
 | slm hnl hl hn hc ha hv h hm _ => intro d' e; unfold vw at e; cases e; exact .slm hnl hl hn hc ha hv (fun j d v hj hv => (h j d v hj hv).nl up imm (jz hnl hj)) (hm.imp id fun ⟨b, o, e, hI, h⟩ => ⟨b, o, e, up _ hI, h⟩)
 | @fn f l k vs us hl hk _ _ ih ih' =>
  intro d' e
  unfold vw at e
  cases e1 : vwL σ V s.M l with
  | none => rw [e1] at e; simp at e
  | some a' =>
   cases e2 : vwL σ V s.M k with
   | none => rw [e1, e2] at e; simp at e
   | some b' =>
    rw [e1, e2] at e
    cases e
    obtain ⟨h1, h2⟩ := lists e1 hl ih
    obtain ⟨g1, g2⟩ := lists e2 hk ih'
    exact .fn h1 g1 h2 g2
 | ifc _ ih =>
  intro d' e
  unfold vw at e
  simp only [qbL] at e
  obtain ⟨x, e, rfl⟩ := e
  exact .ifc (ih x e)
 | opt _ hu ih =>
  intro d' e
  unfold vw at e
  simp only [qbL] at e
  obtain ⟨x, e, rfl⟩ := e
  exact .opt (fun hb => ih hb x e) hu
 | @hnd i v h hn ht =>
  intro d' e
  unfold vw at e
  cases hp : pos σ i with
  | some j => rw [hp] at e; cases e; exact .hnd (jj (jy σ i j hp) h) hn ht
  | none => rw [hp] at e; cases e
 | @yld i l h =>
  intro d' e
  unfold vw at e
  cases hp : pos σ i with
  | some j => rw [hp] at e; cases e; exact .yld (jj (jy σ i j hp) h)
  | none => rw [hp] at e; cases e
 | @floc i k o b hs h hk =>
  intro d' e
  unfold vw at e
  cases hp : pos σ i with
  | some j => rw [hp] at e; cases e; exact .floc (jj (jy σ i j hp) h) hk
  | none => rw [hp] at e; exact (zj ho h hk hp e).2
 | @farr i k a n c hs h hk =>
  intro d' e
  unfold vw at e
  cases hp : pos σ i with
  | some j => rw [hp] at e; cases e; exact .farr (jj (jy σ i j hp) h) hk
  | none => rw [hp] at e; exact (zk ho h hk hp e).2
 | @faloc i k o n c b hs h hk =>
  intro d' e
  unfold vw at e
  cases hp : pos σ i with
  | some j => rw [hp] at e; cases e; exact .faloc (jj (jy σ i j hp) h) hk
  | none => rw [hp] at e; exact Gk ho h hk hp e
 | junk v => intro d' e; unfold vw at e; cases e; exact .junk v
end Go.Proofs.YtofklkbfkoliiaaGreat
namespace Go.Proofs.YtofklkbfkoliiaaGreat
set_option linter.unusedVariables false
set_option linter.unusedSimpArgs false
open Go.RowKit
theorem Jn {s : St} {σ : List Nat} {V : Nat → Bool} {M' : List Blk} (ho : Ok s) (hM : gl σ V s.M σ = some M') {j : Nat} {k' : Blk} {h : Value} (h1 : M'[j]? = some k') (h2 : (vst s σ V M').β[j]? = some h) :
  ∃ i k, σ[j]? = some i ∧ s.M[i]? = some k ∧ s.β[i]? = some h ∧ vwB σ V s.M k = some k' := by
 obtain ⟨_, hs⟩ := y9 σ M' hM
 obtain ⟨i, k, e1, e2, e3⟩ := hs j k' h1
 have hi : i < s.β.length := by rw [ho.len]; exact (qbq.1 e2).1
 have e4 : s.β[i]? = some s.β[i] := qbr hi
 rw [jj e1 e4] at h2
 exact ⟨i, k, e1, e2, by rw [e4, h2], e3⟩
theorem WK {σ : List Nat} (hn : σ.Nodup) {i j k : Nat} (h1 : σ[i]? = some k) (h2 : σ[j]? = some k) : i = j := by
 obtain ⟨a, b⟩ := qbq.1 h1
 obtain ⟨c, d⟩ := qbq.1 h2
 exact (List.getElem_inj hn).1 (b.trans d.symm)
theorem yO {s : St} {σ : List Nat} {V : Nat → Bool} {M' : List Blk} (ho : Ok s) (hM : gl σ V s.M σ = some M') {b : Nat} (h : Live (vst s σ V M') b) :
  ∃ (i : Nat) (k : Blk) (h : Value), i ∈ σ ∧ s.M[i]? = some k ∧ k.live = true ∧ s.β[i]? = some h ∧ jo k h b := by
 obtain ⟨j, k', x, h1, h2, h3, h4⟩ := h
 obtain ⟨i, k, e1, e2, e3, e4⟩ := Jn ho hM h1 h3
 exact ⟨i, k, x, qb7 e1, e2, by rw [← uz e4]; exact h2, e3, (zi e4).1 h4⟩
theorem vp {s : St} {σ : List Nat} {V : Nat → Bool} {M' : List Blk} (ho : Ok s) (hM : gl σ V s.M σ = some M') (hn : σ.Nodup) : Ok (vst s σ V M') := by
 have hlen := (y9 σ M' hM).1
 refine ⟨by simp [vst, hlen], fun j k' h h1 h2 => ?_, fun b hb => ?_, ?_, fun b hb => ?_⟩
 ·obtain ⟨i, k, e1, e2, e3, e4⟩ := Jn ho hM h1 h2
  have hk := ho.blk i k h e2 e3
  cases k with
  | gone => cases e4; trivial
  | hole => cases e4; exact hk
  | flat T L => cases e4; exact hk
  | arr T sz n L => cases e4; exact hk
  | que T sz n L => cases e4; exact hk
  | mix T l =>
   simp only [vwB, qbL] at e4
   obtain ⟨l', e4, rfl⟩ := e4
   obtain ⟨b, vs, q1, q2, q3, q4⟩ := hk
   obtain ⟨h1, h2⟩ := yl l l' e4
   refine ⟨b, vs, q1, q2, by omega, fun j d v hj hv => ?_⟩
   obtain ⟨x, hx, hx2⟩ := h2 j d hj
   exact j8 ho (q4 j x v hx hv) d hx2
  | arx T sz n l =>
   simp only [vwB, qbL] at e4
   obtain ⟨l', e4, rfl⟩ := e4
   obtain ⟨vs, q2, q3, q4⟩ := hk
   obtain ⟨h1, h2⟩ := yl l l' e4
   refine ⟨vs, q2, by omega, fun j d v hj hv => ?_⟩
   obtain ⟨x, hx, hx2⟩ := h2 j d hj
   exact j8 ho (q4 j x v hx hv) d hx2
  | obj o => cases e4; exact hk
  | lp g n F ps asg body st pe =>
   simp only [vwB, qbL] at e4
   obtain ⟨F', e4, rfl⟩ := e4
   obtain ⟨b, fn, tmps, Df, q1, q2, q3, q4⟩ := hk
   refine ⟨b, fn, tmps, Df, q1, q2, q3, fun t d hd => ?_⟩
   obtain ⟨x, hx, hx2⟩ := Gi F F' e4 t d hd
   exact j8 ho (q4 t x hx) d hx2
  | fam Bs => cases e4; exact hk
  | glob g L => cases e4; exact ⟨hk.1, .inl hk.2.1, hk.2.2⟩
  | mit d n seen =>
   simp only [vwB, qbL] at e4
   obtain ⟨d', e4, rfl⟩ := e4
   obtain ⟨b, bm, q1, q2, q3⟩ := hk
   exact ⟨b, bm, q1, q2, j8 ho q3 d' e4⟩
  | mpd ks l =>
   simp only [vwB, qbL] at e4
   obtain ⟨l', e4, rfl⟩ := e4
   obtain ⟨b, vs, q1, q2, q3, q4⟩ := hk
   obtain ⟨h1, h2⟩ := yl l l' e4
   refine ⟨b, vs, q1, q2, ⟨by omega, by omega⟩, fun j d v hj hv => ?_⟩
   obtain ⟨x, hx, hx2⟩ := h2 j d hj
   exact j8 ho (q4 j x v hx hv) d hx2
 ·obtain ⟨i, k, x, e0, e1, e2, e3, e4⟩ := yO ho hM hb
  obtain ⟨g1, g2⟩ := ho.lt b (qq e1 e2 e3 e4)
  refine ⟨g1, fun hI => ?_⟩
  rcases hI with hI | ⟨i', k', x', _, f1, f2, f3, f4, f5⟩
  ·exact g2 hI
  ·have := ho.inj i i' k k' x x' b e1 e2 e3 e4 f2 f3 f4 f5
   subst this
   exact f1 e0
 ·intro j1 j2 k1 k2 x1 x2 b a1 a2 a3 a4 b1 b2 b3 b4
  obtain ⟨i1, m1, c1, c2, c3, c4⟩ := Jn ho hM a1 a3
  obtain ⟨i2, m2, d1, d2, d3, d4⟩ := Jn ho hM b1 b3
  have := ho.inj i1 i2 m1 m2 x1 x2 b c2 (by rw [← uz c4]; exact a2) c3 ((zi c4).1 a4) d2 (by rw [← uz d4]; exact b2) d3 ((zi d4).1 b4)
  subst this
  exact WK hn c1 d1
 ·rcases hb with hb | ⟨i', k', x', _, f1, f2, f3, f4, f5⟩
  ·exact ho.il b hb
  ·exact (ho.lt b (qq f2 f3 f4 f5)).1
def okσ (m : Nat) (σ : List Nat) : Bool := (qb5 m).all (fun i => σ[i]? == some i) && decide σ.Nodup
theorem AM {m : Nat} {σ : List Nat} (h : okσ m σ = true) {i : Nat} (hi : i < m) : σ[i]? = some i := by
 simp only [okσ, qbu, decide_eq_true_eq, qbX, List.mem_range, beq_iff_eq] at h
 exact h.1 i hi
theorem WL : ∀ (σ : List Nat) (i j : Nat), σ.Nodup → σ[j]? = some i → pos σ i = some j
 | [], _, _, _, h => by simp at h
 | k :: r, i, 0, _, h => by simp at h; subst h; unfold pos; simp
 | k :: r, i, j + 1, hn, h => by
  obtain ⟨h1, h2⟩ := List.nodup_cons.1 hn
  simp at h
  unfold pos
  have : Nat.beq k i = false := by
   cases e : Nat.beq k i with
   | false => rfl
   | true => exact absurd (Nat.eq_of_beq_eq_true e ▸ qb7 h) h1
  rw [this, cond_false, WL r i j h2 h]
  rfl
mutual
def D.lt (k : Nat) : D → Bool
 | .val _ => true
 | .loc i _ => qcj i k
 | .arr i => qcj i k
 | .aloc i _ => qcj i k
 | .own i _ _ _ => qcj i k
 | .part i _ _ _ _ => qcj i k
 | .dpf _ => true
 | .pin _ _ => true
 | .pip _ => true
 | .slf _ _ _ => true
 | .slc _ _ _ => true
 | .tup l => D.ltL k l
 | .agg l => D.ltL k l
 | .dpm _ => true
 | .slm _ _ _ => true
 | .smc _ _ _ => true
 | .fn _ a b => D.ltL k a && D.ltL k b
 | .ifc _ d => d.lt k
 | .opt _ d => d.lt k
 | .hnd i => qcj i k
 | .yld i => qcj i k
 | .floc i _ _ => qcj i k
 | .farr i _ => qcj i k
 | .faloc i _ _ => qcj i k
 | .junk => true
def D.ltL (k : Nat) : List D → Bool
 | [] => true
 | d :: l => d.lt k && D.ltL k l
end
mutual
theorem Gl {k : Nat} {σ : List Nat} {V : Nat → Bool} {M : List Blk} (h : okσ k σ = true) : ∀ (d : D), d.lt k = true → vw σ V M d = some d
 | .val _, _ => by unfold vw; rfl
 | .loc i o, e => by unfold vw; rw [y1 h (by simpa [D.lt] using e)]
 | .arr i, e => by unfold vw; rw [y1 h (by simpa [D.lt] using e)]
 | .aloc i o, e => by unfold vw; rw [y1 h (by simpa [D.lt] using e)]
 | .own i _ _ _, e => by unfold vw; rw [y1 h (by simpa [D.lt] using e)]
 | .part i _ _ _ _, e => by unfold vw; rw [y1 h (by simpa [D.lt] using e)]
 | .dpf _, _ => by unfold vw; rfl
 | .pin _ _, _ => by unfold vw; rfl
 | .pip _, _ => by unfold vw; rfl
 | .slf _ _ _, _ => by unfold vw; rfl
 | .slc _ _ _, _ => by unfold vw; rfl
 | .tup l, e => by unfold vw; rw [zl h l (by simpa [D.lt] using e)]; rfl
 | .agg l, e => by unfold vw; rw [zl h l (by simpa [D.lt] using e)]; rfl
 | .dpm _, _ => by unfold vw; rfl
 | .slm _ _ _, _ => by unfold vw; rfl
 | .smc _ _ _, _ => by unfold vw; rfl
 | .fn _ a b, e => by
  have e2 : D.ltL k a = true ∧ D.ltL k b = true := by simpa [D.lt] using e
  unfold vw; rw [zl h a e2.1, zl h b e2.2]
 | .ifc _ d, e => by unfold vw; rw [Gl h d (by simpa [D.lt] using e)]; rfl
 | .opt _ d, e => by unfold vw; rw [Gl h d (by simpa [D.lt] using e)]; rfl
 | .hnd i, e => by unfold vw; rw [y1 h (by simpa [D.lt] using e)]
 | .yld i, e => by unfold vw; rw [y1 h (by simpa [D.lt] using e)]
 | .floc i _ _, e => by unfold vw; rw [y1 h (by simpa [D.lt] using e)]
 | .farr i _, e => by unfold vw; rw [y1 h (by simpa [D.lt] using e)]
 | .faloc i _ _, e => by unfold vw; rw [y1 h (by simpa [D.lt] using e)]
 | .junk, _ => by unfold vw; rfl
theorem zl {k : Nat} {σ : List Nat} {V : Nat → Bool} {M : List Blk} (h : okσ k σ = true) : ∀ (l : List D), D.ltL k l = true → vwL σ V M l = some l
 | [], _ => by unfold vwL; rfl
 | d :: l, e => by
  have e2 : d.lt k = true ∧ D.ltL k l = true := by simpa [D.ltL] using e
  unfold vwL; rw [Gl h d e2.1, zl h l e2.2]
theorem y1 {k : Nat} {σ : List Nat} (h : okσ k σ = true) {i : Nat} (hi : i < k) : pos σ i = some i := by
 have h2 := AM h hi
 simp only [okσ, qbu, decide_eq_true_eq] at h
 exact WL σ i i h.2 h2
end
theorem vq {s0 s : St} {σ : List Nat} {V : Nat → Bool} {M' : List Blk} (h0 : Ok s0) (t : Tr s0 s) (hM : gl σ V s.M σ = some M') {m : Nat} (hm : s0.M.length ≤ m) (hσ : okσ m σ = true) : Tr s0 (vst s σ V M') := by
 simp only [okσ, qbu, decide_eq_true_eq, qbX, List.mem_range, beq_iff_eq] at hσ
 have ho := t.ok
 refine ⟨vp ho hM hσ.2, ⟨fun i h hi hne ht => ?_, fun i hs hi => ?_⟩, fun b hb => .inl (t.up b hb), fun b hb => ?_, t.keep, fun b hb => ?_, t.os, t.tape, t.output, t.size⟩
 ·exact jj (hσ.1 i (Nat.lt_of_lt_of_le (by rw [← h0.len]; exact (qbq.1 hi).1) hm)) (t.hnd.1 i h hi hne ht)
 ·obtain ⟨hs', q1, q2⟩ := t.hnd.2 i hs hi
  exact ⟨hs', jj (hσ.1 i (Nat.lt_of_lt_of_le (by rw [← h0.len]; exact (qbq.1 hi).1) hm)) q1, q2⟩
 ·rcases hb with hb | ⟨i', k', x', _, f1, f2, f3, f4, f5⟩
  ·exact t.new b hb
  ·exact .inr (t.lv b (qq f2 f3 f4 f5))
 ·obtain ⟨i, k, x, _, e1, e2, e3, e4⟩ := yO ho hM hb
  exact t.lv b (qq e1 e2 e3 e4)
def nov : Nat → Bool := fun _ => false
def jS : Nat → Bool := fun _ => true
def Fits (F' : Fr) (σ : List Nat) (M' : List Blk) : Fr → Prop
 | [] => True
 | (t, d) :: r => (lk F' t).bind (vw σ nov M') = some d ∧ Fits F' σ M' r
def MFits (σ : List Nat) (V : Nat → Bool) (M : List Blk) : List Nat → List Blk → Prop
 | [], [] => True
 | i :: r, k :: ks => (M[i]?).bind (vwB σ V M) = some k ∧ MFits σ V M r ks
 | _, _ => False
theorem jd {σ : List Nat} {V : Nat → Bool} {M : List Blk} : ∀ (τ : List Nat) (M' : List Blk), MFits σ V M τ M' → gl σ V M τ = some M'
 | [], [], _ => rfl
 | i :: r, k :: ks, h => by
  obtain ⟨h1, h2⟩ := h
  rw [Option.bind_eq_some_iff] at h1
  obtain ⟨x, e1, e2⟩ := h1
  unfold gl
  rw [e1, jd r ks h2]
  simp [e2]
 | [], _ :: _, h => by cases h
 | _ :: _, [], h => by cases h
theorem Qx {F' : Fr} {σ : List Nat} {M' : List Blk} : ∀ (F : Fr), Fits F' σ M' F → ∀ t d, lk F t = some d → ∃ d', lk F' t = some d' ∧ vw σ nov M' d' = some d
 | [], _, t, d, h => by cases h
 | (k, x) :: r, h, t, d, hd => by
  rw [jx] at hd
  split at hd
  ·rename_i e
   subst e
   obtain rfl := qbw hd
   simpa [Option.bind_eq_some_iff] using h.1
  ·exact Qx r h.2 t d hd
theorem Gm {s0 s : St} {mk : Bool} {σ : List Nat} {V : Nat → Bool} {M' : List Blk} {k : Nat} (ho : Ok s) (hM : gl σ V s.M σ = some M') (hσ : okσ k σ = true) {U : List D} {ds : List Deferred} (h : DfOk s0 s mk U ds) : D.ltL k U = true → DfOk s0 (vst s σ V M') mk U ds := by
 induction h with
 | nil => intro _; exact .nil
 | mark hmk h hI hl h0 hd _ ih =>
  intro e
  refine .mark hmk h (fun hI' => ?_) (fun hl' => ?_) h0 hd (ih e)
  ·rcases hI' with q | ⟨i, k, h, _, _, f1, f2, f3, f4⟩
   ·exact hI q
   ·exact hl (qq f1 f2 f3 f4)
  ·obtain ⟨i, k, x, _, e1, e2, e3, e4⟩ := yO ho hM hl'
   exact hl (qq e1 e2 e3 e4)
 | fn h _ ih =>
  intro e
  simp only [D.ltL, qbu] at e
  exact .fn (j8 ho h _ (Gl hσ _ e.1)) (ih e.2)
structure Gs (s0 : St) (c : Cx) : Prop where
 le : s0.M.length ≤ c.k
 lt : D.ltL c.k c.U = true
theorem xR {s0 : St} {n : Cx} {F F' : Fr} {M M' : List Blk} {a : Act} {w : World} {σ : List Nat} (h : Inv s0 n F' M' a w) (hg : Gs s0 n) (hσ : okσ n.k σ = true) (hF : Fits F' σ M' F) (hM : MFits σ nov M' σ M) : Inv s0 n F M a w := by
 obtain ⟨h0, s, h1, h2, h3, h4, h5, h6⟩ := h
 have hMs := jd σ M hM
 subst h1
 refine ⟨h0, vst s σ nov M, rfl, h2, vq h0 h3 hMs hg.le hσ, fun t d hd => ?_, h5, Gm h3.ok hMs hσ h6 hg.lt⟩
 obtain ⟨d', e1, e2⟩ := Qx F hF t d hd
 exact j8 h3.ok (h4 t d' e1) d e2
section
variable {P : Program} {s0 : St} {n : Cx}
def Again {α : Type} (m : Nat) (J : α → Fr) (JM : α → List Blk) (Pr : α → Prop) (μ : α → Nat) (x : α) (F' : Fr) (M' : List Blk) : Prop :=
 ∃ (y : α) (σ : List Nat), Pr y ∧ μ y < μ x ∧ okσ m σ = true ∧ Fits F' σ M' (J y) ∧ MFits σ nov M' σ (JM y)
theorem WM {α : Type} {c : Code} {F : Fr} {M : List Blk} {K : Cont} (hg : Gs s0 n) (J : α → Fr) (JM : α → List Blk) (Pr : α → Prop) (μ : α → Nat) (x0 : α) (σ0 : List Nat) (h0 : Pr x0)
  (hσ0 : okσ n.k σ0 = true) (hF0 : Fits F σ0 M (J x0)) (hM0 : MFits σ0 nov M σ0 (JM x0))
  (round : ∀ x, Pr x → dwp P s0 n c (J x) (JM x) (Kseq (Again n.k J JM Pr μ x) K)) : dwp P s0 n (.loop c) F M K := by
 refine Jm J JM Pr μ x0 h0 (fun a w hi => xR hi hg hσ0 hF0 hM0) fun x hx => Gg (round x hx) ?_
 intro e F' M' hk
 cases e with
 | normal => obtain ⟨y, σ, h1, h2, h3, h4, h5⟩ := hk; exact ⟨y, h1, h2, fun a w hi => xR hi hg h3 h4 h5⟩
 | exit id => exact hk
 | goto l => exact hk
 | ret => exact hk
 | panic d => exact hk
def Reps (s : St) (ds : List D) (vs : List Value) : Prop := vs.length = ds.length ∧ ∀ (j : Nat) d v, ds[j]? = some d → vs[j]? = some v → Rep s d v
def yW (P : Program) (f : FuncId) : Bool := match P.funcs[f]? with
 | some fn => fn.body.isSome && !(fn.name == "runtime.NumGoroutine")
 | none => false
theorem vr {f : FuncId} (h : yW P f = true) (args : Array Value) (w : World) : (callFunc f args).run P w = .ok (.enter f args) w := by
 unfold yW at h
 split at h
 ·rename_i fn hf
  simp only [qbu, qbx] at h
  unfold callFunc
  have h2 : ¬ fn.name = "runtime.NumGoroutine" := by simpa using h.2
  simp [program, Sem.run, hf, h2, Sem.bind, bind, pure, Option.isSome_iff_ne_none.1 h.1]
 ·cases h
def DCalls (P : Program) (f : FuncId) (args : List D) (Min : List Blk) (post pan : D → List Blk → Prop) : Prop :=
 yW P f = true ∧ ∀ (s : St) (vs : List Value), Ok s → s.M = Min → Reps s args vs → Calls P f vs.toArray s.w fun e w' =>
  ∃ s', s'.w = w' ∧ Tr s s' ∧ ((∃ d v, e = .returned v ∧ Rep s' d v ∧ post d s'.M) ∨ (∃ d v, e = .panicked [{ v := v, recovered := false }] ∧ Rep s' d v ∧ pan d s'.M))
def DFun (P : Program) (f : FuncId) (args : List D) (Min : List Blk) (d : D) (Mout : List Blk) : Prop :=
 DCalls P f args Min (fun d' M' => d' = d ∧ M' = Mout) (fun _ _ => False)
def ResD (P : Program) (fn : Func) (F : Fr) (M : List Blk) (d : D) : Prop := ∀ (s : St) (a : Act), Ok s → s.M = M → FOk s F a → ∃ v, (results fn a.tmps).run P s.w = .ok v s.w ∧ Rep s d v
theorem qH {fn : Func} {F : Fr} {M : List Blk} (h : fn.results = #[]) : ResD P fn F M (.tup []) := fun s a _ _ _ => ⟨_, results_none h _ _ _, Rep.tup (vs := []) rfl fun j d v hj => by simp at hj⟩
def ModeOk (s : St) (pn : Option D) (u : FrameMode) : Prop :=
 match pn with
 | none => u = .returning
 | some d => ∃ v, u = .panicking [{ v := v, recovered := false }] ∧ Rep s d v
def DDef (P : Program) (f : FuncId) (args : List D) (Min : List Blk) (pn pn' : Option D) (Mout : List Blk) : Prop :=
 yW P f = true ∧ ∀ (s : St) (vs : List Value) (u : FrameMode), Ok s → s.M = Min → Reps s args vs → ModeOk s pn u → CallsDIn Fence.wide 0 P f vs.toArray u s.w fun e u' w' =>
  ∃ s' v, e = .returned v ∧ s'.w = w' ∧ Tr s s' ∧ s'.M = Mout ∧ ModeOk s' pn' (settle u')
def Lv (s0 : St) (post pan : D → List Blk → Prop) : Ending → World → Prop := fun e w' => ∃ s', s'.w = w' ∧ Tr s0 s' ∧ ((∃ d v, e = .returned v ∧ Rep s' d v ∧ post d s'.M) ∨ (∃ d v, e = .panicked [{ v := v, recovered := false }] ∧ Rep s' d v ∧ pan d s'.M))
def DTurn (P : Program) (f : FuncId) (first caps : List D) (pn : Option D) (M : List Blk) (pn' : Option D) (M' : List Blk) : Prop :=
 yW P f = true ∧ ∀ (s : St) (vs us : List Value) (u : FrameMode), Ok s → s.M = M → Rep s (.fn (.func f) first caps) (.func (.func f) vs.toArray us.toArray) → ModeOk s pn u → CallsDIn Fence.wide 0 P f (vs ++ us).toArray u s.w fun e u' w' =>
  ∃ s' v, e = .returned v ∧ s'.w = w' ∧ Tr s s' ∧ s'.M = M' ∧ ModeOk s' pn' (settle u')
inductive DEnd (P : Program) (fn : Func) (m : Nat) (post pan : D → List Blk → Prop) : List D → Option D → Fr → List Blk → Prop
 | ret {F : Fr} {M Mo : List Blk} {d d' : D} {σ : List Nat} (hr : ResD P fn F M d) (hσ : okσ m σ = true) (hv : vw σ jS M d = some d') (hM : MFits σ jS M σ Mo) (hp : post d' Mo) : DEnd P fn m post pan [] none F M
 | pan {F : Fr} {M Mo : List Blk} {d d' : D} {σ : List Nat} (hσ : okσ m σ = true) (hv : vw σ jS M d = some d') (hM : MFits σ jS M σ Mo) (hp : pan d' Mo) : DEnd P fn m post pan [] (some d) F M
 | fn {f : FuncId} {first caps U : List D} {pn pn' : Option D} {F : Fr} {M M' : List Blk} (h : DTurn P f first caps pn M pn' M') (r : DEnd P fn m post pan U pn' F M') : DEnd P fn m post pan (.fn (.func f) first caps :: U) pn F M
def Kret (P : Program) (fn : Func) (m : Nat) (U : List D) (post pan : D → List Blk → Prop) : Cont
 | .normal, F, M => DEnd P fn m post pan U none F M
 | .ret, F, M => DEnd P fn m post pan U none F M
 | .panic d, F, M => DEnd P fn m post pan U (some d) F M
 | _, _, _ => False
theorem Zg {s : St} (ho : Ok s) {b : Nat} {o : Obj} (hI : ¬ s.I b) (hl : ¬ Live s b) : Ok ⟨s.β, s.I, s.M, s.w.putObj b o⟩ := by
 refine ⟨ho.len, fun i k h h1 h2 => ?_, fun c hc => ?_, ho.inj, fun c hc => by simpa using ho.il c hc⟩
 ·exact BlkOk.mono (s := s) (s' := ⟨s.β, s.I, s.M, s.w.putObj b o⟩) (fun _ _ h _ => h) (fun _ h => h) (fun c hc => World.putObj_heap_other (fun e => hI (e ▸ hc))) (ho.blk i k h h1 h2) fun c hk hb => World.putObj_heap_other (fun e => hl (e ▸ qq h1 hk h2 hb))
 ·have := ho.lt c hc
  exact ⟨by simpa using this.1, this.2⟩
theorem Zh {s0 s : St} (t : Tr s0 s) {b : Nat} {o : Obj} (hI : ¬ s.I b) (hl : ¬ Live s b) (h0 : s0.w.heap.size ≤ b) : Tr s0 ⟨s.β, s.I, s.M, s.w.putObj b o⟩ := by
 refine ⟨Zg t.ok hI hl, t.hnd, t.up, t.new, fun c hc hn => ?_, t.lv, t.os, t.tape, t.output, ?_⟩
 ·exact (World.putObj_heap_other (by omega)).trans (t.keep c hc hn)
 ·show s0.w.heap.size ≤ (s.w.putObj b o).heap.size
  simpa using t.size
theorem zm {s : St} {b : Nat} {o : Obj} (hI : ¬ s.I b) {d : D} {v : Value} (h : Rep s d v) : Rep ⟨s.β, s.I, s.M, s.w.putObj b o⟩ d v :=
 Rep.mono' (s := s) (s' := ⟨s.β, s.I, s.M, s.w.putObj b o⟩) (fun _ _ h _ => h) (fun _ h => h) (fun c hc => World.putObj_heap_other (fun e => hI (by rw [← e]; exact hc))) h
theorem VF {s0 s : St} {mk : Bool} {b : Nat} {o : Obj} (hI : ¬ s.I b) {U : List D} {ds : List Deferred} (h : DfOk s0 s mk U ds) : (∀ d ∈ ds, d.target ≠ .collected b) → DfOk s0 ⟨s.β, s.I, s.M, s.w.putObj b o⟩ mk U ds := by
 induction h with
 | nil => intro _; exact .nil
 | @mark U ds c hmk h hI' hl h0 hd _ ih =>
  intro e
  refine .mark hmk ((World.putObj_heap_other fun q => ?_).trans h) hI' hl h0 hd (ih fun d hd => e d (qb4 _ hd))
  subst q
  exact e _ (qb1 ..) rfl
 | fn h _ ih => intro e; exact .fn (zm hI h) (ih fun d hd => e d (qb4 _ hd))
theorem vt {mk : Bool} {fn : Func} {post pan : D → List Blk → Prop} {m : Nat} (h0 : Ok s0) (hle : s0.M.length ≤ m) (a : Act) : ∀ (ds : List Deferred) (U : List D) (pn : Option D) (F : Fr) (s : St) (u : FrameMode), DfOk s0 s mk U ds → Tr s0 s → FOk s F a → ModeOk s pn u → DEnd P fn m post pan U pn F s.M →
  LeavesInM Fence.wide 0 P fn a.tmps (Lv s0 post pan) ds u s.w := by
 intro ds
 induction ds with
 | nil =>
  intro U pn F s u hd ht hF hm he
  cases hd with
  | nil =>
   cases he with
   | @ret F M Mo d d' σ hr hσ hv hM hp =>
    obtain rfl : u = .returning := hm
    obtain ⟨v, h1, h2⟩ := hr s a ht.ok rfl hF
    exact ⟨v, h1, vst s σ jS Mo, rfl, vq h0 ht (jd σ Mo hM) hle hσ, .inl ⟨d', v, rfl, j8 ht.ok h2 d' hv, hp⟩⟩
   | @pan F M Mo d d' σ hσ hv hM hp =>
    obtain ⟨v, rfl, h2⟩ := hm
    exact ⟨vst s σ jS Mo, rfl, vq h0 ht (jd σ Mo hM) hle hσ, .inr ⟨d', v, rfl, j8 ht.ok h2 d' hv, hp⟩⟩
 | cons x ds ih =>
  intro U pn F s u hd ht hF hm he
  have hrun : u ≠ .run := by
   cases pn with
   | none => obtain rfl : u = .returning := hm; simp
   | some d => obtain ⟨v, rfl, _⟩ := hm; simp
  cases hd with
  | @mark _ _ b hmk h hI hl hb hne r =>
   refine ⟨hrun, .inl ⟨b, s.w.putObj b (.deferred none), rfl, run_takeDeferred h, ?_⟩⟩
   refine ih U pn F ⟨s.β, s.I, s.M, s.w.putObj b (.deferred none)⟩ u (VF hI r hne) (Zh ht hI hl hb) (fun t d hd => zm hI (hF t d hd)) ?_ he
   cases pn with
   | none => exact hm
   | some d => obtain ⟨v, h1, h2⟩ := hm; exact ⟨v, h1, zm hI h2⟩
  | @fn f first caps vs us U ds h r =>
   cases he with
   | @fn _ _ _ _ _ pn' _ M M' hturn he =>
    obtain ⟨hcb, hturn⟩ := hturn
    refine ⟨hrun, .inr ⟨(fun h => by cases h), .func f, us.toArray, f, (vs ++ us).toArray, rfl, ?_, fun _ _ => trivial, ?_⟩⟩
    ·have := vr hcb (vs ++ us).toArray s.w
     simpa [invoke] using this
    ·refine CallsDIn.mono (hturn s vs us u ht.ok rfl h hm) ?_
     rintro e u' w' ⟨s', v, rfl, rfl, ht', rfl, hm'⟩
     exact ih U pn' F s' _ (r.mono ht.ok ht') (ht.trans ht') (hF.mono ht.ok ht') hm' he
def fr0 : Nat → List D → Fr
 | _, [] => []
 | k, d :: l => (k, d) :: fr0 (k + 1) l
theorem xc : ∀ (l : List D) (k t : Nat) (d : D), lk (fr0 k l) t = some d → k ≤ t ∧ l[t - k]? = some d
 | [], k, t, d, h => by cases h
 | x :: l, k, t, d, h => by
  rw [fr0, jx] at h
  split at h
  ·rename_i e; subst e; simpa using h
  ·obtain ⟨h1, h2⟩ := xc l (k + 1) t d h
   refine ⟨by omega, ?_⟩
   rw [show t - k = (t - (k + 1)) + 1 by omega]
   simpa using h2
theorem Zi {fn : Func} {c : Code} {F : Fr} {M : List Blk} {m : Nat} {post pan : D → List Blk → Prop} (hr : n.r = none) (hle : s0.M.length ≤ m) (h : dwp P s0 n c F M (Kret P fn m n.U post pan)) {a : Act} {w : World} (hi : Inv s0 n F M a w) :
  c.wpIn Fence.wide 0 P (bodyPostM Fence.wide 0 P fn (Lv s0 post pan)) a w := by
 have h1 := h a w hi
 have : n.ρ s0 = none := by unfold Cx.ρ; rw [hr]
 rw [this] at h1
 refine wpIn_mono h1 ?_
 intro e a w hp
 cases e with
 | normal => obtain ⟨F, M, ⟨h0, s1, q1, q2, q3, q4, q5, q6⟩, hk⟩ := hp; subst q1 q2; exact vt h0 hle a _ _ none _ _ _ q6 q3 q4 rfl hk
 | ret => obtain ⟨F, M, ⟨h0, s1, q1, q2, q3, q4, q5, q6⟩, hk⟩ := hp; subst q1 q2; exact vt h0 hle a _ _ none _ _ _ q6 q3 q4 rfl hk
 | exit id => obtain ⟨_, _, _, hk⟩ := hp; exact hk
 | goto l => obtain ⟨_, _, _, hk⟩ := hp; exact hk
 | panic ch => obtain ⟨F, M, d, ⟨h0, s1, v, q1, q2, q3, q4, q5, q6, q7, q8⟩, hk⟩ := hp; subst q1 q2 q7; exact vt h0 hle a _ _ (some d) _ _ _ q6 q3 q4 ⟨v, rfl, q8⟩ hk
 | outgrown => exact hp.elim
def zn (P : Program) (s0 : St) (n : Cx) (fn : Func) (m : Nat) (post pan : D → List Blk → Prop) (c : Code) (F : Fr) (M : List Blk) : Prop :=
 ∀ a w, Inv s0 n F M a w → c.wpIn Fence.wide 0 P (bodyPostM Fence.wide 0 P fn (Lv s0 post pan)) a w
theorem qy {fn : Func} {c : Code} {F : Fr} {M : List Blk} {m : Nat} {post pan : D → List Blk → Prop} (hr : n.r = none) (hle : s0.M.length ≤ m) (h : dwp P s0 n c F M (Kret P fn m n.U post pan)) : zn P s0 n fn m post pan c F M :=
 fun _ _ hi => Zi hr hle h hi
theorem qz {fn : Func} {x y : Code} {F : Fr} {M : List Blk} {m : Nat} {post pan : D → List Blk → Prop} (hr : n.r = none) (hle : s0.M.length ≤ m) (h : dwp P s0 n x F M (Kseq (fun F M => zn P s0 n fn m post pan y F M) (Kret P fn m n.U post pan))) : zn P s0 n fn m post pan (.seq x y) F M := by
 intro a w hi
 have h1 := h a w hi
 have : n.ρ s0 = none := by unfold Cx.ρ; rw [hr]
 rw [this] at h1
 refine wpIn_seq (wpIn_mono h1 ?_)
 intro e a w hp
 cases e with
 | normal => obtain ⟨F, M, hi, hk⟩ := hp; exact hk a w hi
 | ret => obtain ⟨F, M, ⟨h0, s1, q1, q2, q3, q4, q5, q6⟩, hk⟩ := hp; subst q1 q2; exact vt h0 hle a _ _ none _ _ _ q6 q3 q4 rfl hk
 | exit id => obtain ⟨_, _, _, hk⟩ := hp; exact hk.elim
 | goto l => obtain ⟨_, _, _, hk⟩ := hp; exact hk.elim
 | panic ch => obtain ⟨F, M, d, ⟨h0, s1, v, q1, q2, q3, q4, q5, q6, q7, q8⟩, hk⟩ := hp; subst q1 q2 q7; exact vt h0 hle a _ _ (some d) _ _ _ q6 q3 q4 ⟨v, rfl, q8⟩ hk
 | outgrown => exact hp.elim
theorem qo {f : FuncId} {fn : Func} {c : Code} {args : List D} {F0 : Fr} {Min : List Blk} {post pan : D → List Blk → Prop} {N : Nat} (m : Nat) (hcb : yW P f = true) (hf : P.funcs[f]? = some fn) (hc : fn.body = some c) (hn : fn.ntmps = N) (hle : Nat.ble args.length N = true) (hF : fr0 0 args = F0) (hm : Min.length = m)
  (h : ∀ s0 : St, s0.M.length ≤ m → zn P s0 ⟨N, none, m, [], true⟩ fn m post pan c F0 Min) : DCalls P f args Min post pan := by
 subst hF hm
 refine ⟨hcb, ?_⟩
 intro s vs ho hM hr
 obtain ⟨hl, hr⟩ := hr
 have hle := qbA hle
 have hslot : ∀ t d, lk (fr0 0 args) t = some d → Rep s d (ju { tmps := vs.toArray ++ qb8 (fn.ntmps - vs.toArray.size) undef, defers := [] } t) := by
  intro t d hd
  obtain ⟨_, h2⟩ := xc args 0 t d hd
  simp only [Nat.sub_zero] at h2
  have hlt : t < args.length := (qbq.1 h2).1
  have hv : vs[t]? = some vs[t] := qbr (by omega)
  have : ju { tmps := vs.toArray ++ qb8 (fn.ntmps - vs.toArray.size) undef, defers := [] } t = vs[t] := by
   unfold ju
   simp only [Array.getD_eq_getD_getElem?]
   rw [Array.getElem?_append_left (by simp; omega)]
   simp [show t < vs.length by omega]
  rw [this]
  exact hr t d _ h2 hv
 refine callsIn_wide.1 (callsIn_of_wp_marks (F := Fence.wide) (n := 0) hf hc trivial (h s (by rw [hM]; exact qbM _) _ _ ⟨ho, s, hM, rfl, Tr.refl ho, hslot, ?_, .nil⟩))
 simp; omega
theorem zap {f : FuncId} {fn : Func} {c : Code} {args : List D} {F0 : Fr} {Min : List Blk} {post pan : D → List Blk → Prop} {N : Nat} (m : Nat) (hcb : yW P f = true) (hf : P.funcs[f]? = some fn) (hc : fn.body = some c) (hn : fn.ntmps = N) (hle : Nat.ble args.length N = true) (hF : fr0 0 args = F0) (hm : Min.length = m)
  (h : ∀ s0 : St, s0.M.length ≤ m → dwp P s0 ⟨N, none, m, [], true⟩ c F0 Min (Kret P fn m [] post pan)) : DCalls P f args Min post pan :=
 qo m hcb hf hc hn hle hF hm fun s0 hs => qy rfl hs (h s0 hs)
end
end Go.Proofs.YtofklkbfkoliiaaGreat
namespace Go.Proofs.YtofklkbfkoliiaaGreat
set_option linter.unusedVariables false
set_option linter.unusedSimpArgs false
open Go.RowKit
def upd : List Blk → List (Nat × Blk) → List Blk
 | M, [] => M
 | M, (i, k) :: r => upd (M.set i k) r
theorem wD : ∀ (wr : List (Nat × Blk)) (M : List Blk), (upd M wr).length = M.length
 | [], _ => rfl
 | (i, k) :: r, M => by rw [upd, wD r]; simp
theorem Jo : ∀ (wr : List (Nat × Blk)) (M : List Blk) (i : Nat), i ∉ wr.map (·.1) → (upd M wr)[i]? = M[i]?
 | [], _, _, _ => rfl
 | (j, k) :: r, M, i, h => by
  simp only [List.map_cons, List.mem_cons, not_or] at h
  rw [upd, Jo r _ i h.2, qbC (Ne.symm h.1)]
def DGives (P : Program) (s : St) (post : St → Value → Prop) : Result Next → Prop
 | .ok (.value v) w' => ∃ s', s'.w = w' ∧ Tr s s' ∧ post s' v
 | .ok .skip w' => ∃ s', s'.w = w' ∧ Tr s s' ∧ post s' undef
 | .ok (.enter f args) w' => w' = s.w ∧ Calls P f args s.w (fun e w'' => ∃ s' v, e = .returned v ∧ s'.w = w'' ∧ Tr s s' ∧ post s' v)
 | .ok (.round l f tmps asg body) w' => w' = s.w ∧ RoundIn Fence.wide 0 P l f tmps asg body s.w (fun e w'' => ∃ s' v, e = .returned v ∧ s'.w = w'' ∧ Tr s s' ∧ post s' v)
 | _ => False
def DOp (P : Program) (pc : Bool) (o : Oper) (F : Fr) (M : List Blk) (fp : List Nat) (d : D) (wr : List (Nat × Blk)) : Prop :=
 pc = true → ∀ (a : Act) (s : St), Ok s → (∀ x ∈ o.op.operands, ∀ d, ev F x = some d → Rep s d (a.eval x)) → (∀ i ∈ fp, s.M[i]? = M[i]?) →
  DGives P s (fun s' v => s'.M = upd s.M wr ∧ Rep s' d v) ((execOp a.eval o).run P s.w)
def putF (dst : Option Tmp) (d : D) (F : Fr) : Fr :=
 match dst with
 | some t => (t, d) :: F
 | none => F
def Jp (n : Nat) : Option Tmp → Bool
 | some t => qcj t n
 | none => true
theorem FOk.putF {s : St} {F : Fr} {a : Act} (h : FOk s F a) {dst : Option Tmp} {n : Nat} (hn : a.tmps.size = n) (hd : Jp n dst = true) {d : D} {v : Value} (hr : Rep s d v) : FOk s (putF dst d F) (a.put dst v) := by
 cases dst with
 | none => exact h
 | some t =>
  refine h.put ?_ hr
  rw [hn]
  exact Nat.blt_eq.mp hd
def DGivesP (P : Program) (s : St) (post : St → Value → Prop) : Result Next → Prop
 | .halt (.panic v) w' => ∃ s', s'.w = w' ∧ Tr s s' ∧ post s' v
 | .ok (.enter f args) w' => w' = s.w ∧ Calls P f args s.w (fun e w'' => ∃ s' v, e = .panicked [{ v := v, recovered := false }] ∧ s'.w = w'' ∧ Tr s s' ∧ post s' v)
 | .ok (.round l f tmps asg body) w' => w' = s.w ∧ RoundIn Fence.wide 0 P l f tmps asg body s.w (fun e w'' => ∃ s' v, e = .panicked [{ v := v, recovered := false }] ∧ s'.w = w'' ∧ Tr s s' ∧ post s' v)
 | _ => False
def DOpP (P : Program) (pc : Bool) (o : Oper) (F : Fr) (M : List Blk) (fp : List Nat) (d : D) (wr : List (Nat × Blk)) : Prop :=
 pc = true → ∀ (a : Act) (s : St), Ok s → (∀ x ∈ o.op.operands, ∀ d, ev F x = some d → Rep s d (a.eval x)) → (∀ i ∈ fp, s.M[i]? = M[i]?) →
  DGivesP P s (fun s' v => s'.M = upd s.M wr ∧ Rep s' d v) ((execOp a.eval o).run P s.w)
def gC : Op → Bool
 | .defer _ => false
 | _ => true
theorem v4 {o : Oper} (h : gC o.op = true) (ρ : Option Nat) (e : Operand → Value) : o.semAt ρ e = execOp e o :=
 Oper.semAt_eq ρ e o fun c hc => by rw [hc] at h; cases h
theorem w6 {P : Program} {ρ : Option Nat} {k : Nat} {f : FuncId} {args : Array Value} {w : World} {R : Ending → World → Prop} (h : Calls P f args w R) : CallsIn (wd ρ) k P f args w R := by
 refine ⟨trivial, fun cs _ => ?_⟩
 obtain ⟨e, w', fr, h1, h2, h3, h4⟩ := h cs
 refine ⟨e, w', fr, h1, ?_, h3, h4⟩
 cases e with
 | returned v => exact (steps_iff.1 h2).mono fun _ _ => jJ
 | panicked ch => exact (steps_iff.1 h2).mono fun _ _ => jJ
 | outgrown => exact h2
section
variable {P : Program} {s0 : St} {n : Cx} {ops : Array Oper}
def Walk (P : Program) (s0 : St) (n : Cx) (ops : Array Oper) (l : List Oper) (F : Fr) (M : List Blk) (K : Cont) : Prop := ∀ a w, Inv s0 n F M a w → wpListIn (wd (n.ρ s0)) 0 P ops (PostK s0 n K) l a w
theorem zab {F : Fr} {M : List Blk} {K : Cont} (h : K .normal F M) : Walk P s0 n ops [] F M K := fun _ _ hi => ⟨F, M, hi, h⟩
theorem vd {o : Oper} {ρ : Option Nat} {a : Act} {s : St} {post : St → Value → Prop} {K : Act → World → Prop} {Q : Exit → Act → World → Prop} (hnd : gC o.op = true) (h : DGives P s post ((execOp a.eval o).run P s.w))
  (hk : ∀ s' v, Tr s s' → post s' v → K (a.put o.dst v) s'.w) : o.wpIn (wd ρ) 0 P a s.w K Q := by
 refine ⟨fun _ _ => trivial, ?_⟩
 rw [v4 hnd]
 generalize (execOp a.eval o).run P s.w = r at h
 cases r with
 | halt x w' => exact h.elim
 | ok x w' =>
  cases x with
  | value v => obtain ⟨s', h1, h2, h3⟩ := h; subst h1; exact hk s' v h2 h3
  | skip => obtain ⟨s', h1, h2, h3⟩ := h; subst h1; exact hk s' undef h2 h3
  | enter f args =>
   obtain ⟨h1, h2⟩ := h
   subst h1
   refine ⟨(fun h => by cases h), w6 (h2.mono ?_)⟩
   rintro e w'' ⟨s', v, rfl, h1, h2, h3⟩
   subst h1
   exact hk s' v h2 h3
  | round l f tmps asg body =>
   obtain ⟨h1, h2⟩ := h
   subst h1
   refine ⟨(fun h => by cases h), RoundIn.mono h2 ?_⟩
   rintro e w'' ⟨s', v, rfl, h1, h2, h3⟩
   subst h1
   exact hk s' v h2 h3
  | _ => exact h.elim
theorem zo {o : Oper} {ρ : Option Nat} {a : Act} {s : St} {post : St → Value → Prop} {K : Act → World → Prop} {Q : Exit → Act → World → Prop} (hnd : gC o.op = true) (h : DGivesP P s post ((execOp a.eval o).run P s.w))
  (hk : ∀ s' v, Tr s s' → post s' v → Q (.panic [{ v := v, recovered := false }]) a s'.w) : o.wpIn (wd ρ) 0 P a s.w K Q := by
 refine ⟨fun _ _ => trivial, ?_⟩
 rw [v4 hnd]
 generalize (execOp a.eval o).run P s.w = r at h
 cases r with
 | halt x w' =>
  cases x with
  | panic v => obtain ⟨s', h1, h2, h3⟩ := h; subst h1; exact hk s' v h2 h3
  | _ => exact h.elim
 | ok x w' =>
  cases x with
  | enter f args =>
   obtain ⟨h1, h2⟩ := h
   subst h1
   refine ⟨(fun h => by cases h), w6 (h2.mono ?_)⟩
   rintro e w'' ⟨s', v, rfl, h1, h2, h3⟩
   subst h1
   exact hk s' v h2 h3
  | round l f tmps asg body =>
   obtain ⟨h1, h2⟩ := h
   subst h1
   refine ⟨(fun h => by cases h), RoundIn.mono h2 ?_⟩
   rintro e w'' ⟨s', v, rfl, h1, h2, h3⟩
   subst h1
   exact hk s' v h2 h3
  | _ => exact h.elim
theorem Jq {o : Oper} {rest : List Oper} {F : Fr} {M : List Blk} {K : Cont} {fp : List Nat} {d : D} {wr : List (Nat × Blk)} (hg : o.guard = none) (hd : Jp n.n o.dst = true) (h : DOp P true o F M fp d wr)
  (hk : Walk P s0 n ops rest (putF o.dst d F) (upd M wr) K) (hnd : gC o.op = true := by rfl) : Walk P s0 n ops (o :: rest) F M K := by
 intro a w hi
 obtain ⟨h0, s, h1, h2, h3, h4, h5, h6⟩ := hi
 subst h1 h2
 show if Region.wanted o (yielded ops a.tmps) then _ else _
 have hw : Region.wanted o (yielded ops a.tmps) = true := by unfold Region.wanted; rw [hg]
 rw [if_pos hw]
 refine vd hnd (h rfl a s h3.ok (fun x _ d hd => vY h4 hd) (fun _ _ => rfl)) fun s' v ht ⟨e1, e2⟩ => ?_
 exact hk _ _ ⟨h0, s', e1, rfl, h3.trans ht, (h4.mono h3.ok ht).putF h5 hd e2, by rw [ga]; exact h5, by rw [yy]; exact h6.mono h3.ok ht⟩
theorem Jr {o : Oper} {rest : List Oper} {F : Fr} {M : List Blk} {K : Cont} {fp : List Nat} {d : D} {t : Nat} (hg : o.guard = none) (hd : o.dst = some t) (ht : qcj t n.n = true) (h : DOp P true o F M fp d []) (hk : Walk P s0 n ops rest ((t, d) :: F) M K) (hnd : gC o.op = true := by rfl) : Walk P s0 n ops (o :: rest) F M K :=
 Jq hg (by rw [hd]; exact ht) h (by rw [hd]; exact hk) hnd
theorem AN {o : Oper} {rest : List Oper} {F : Fr} {M M' : List Blk} {K : Cont} {fp : List Nat} {d : D} {t : Nat} {wr : List (Nat × Blk)} (hg : o.guard = none) (hd : o.dst = some t) (ht : qcj t n.n = true) (h : DOp P true o F M fp d wr) (hM : upd M wr = M') (hk : Walk P s0 n ops rest ((t, d) :: F) M' K) (hnd : gC o.op = true := by rfl) : Walk P s0 n ops (o :: rest) F M K :=
 Jq hg (by rw [hd]; exact ht) h (by rw [hd, hM]; exact hk) hnd
theorem AO {o : Oper} {rest : List Oper} {F : Fr} {M M' : List Blk} {K : Cont} {fp : List Nat} {d : D} {wr : List (Nat × Blk)} (hg : o.guard = none) (hd : o.dst = none) (h : DOp P true o F M fp d wr) (hM : upd M wr = M') (hk : Walk P s0 n ops rest F M' K) (hnd : gC o.op = true := by rfl) : Walk P s0 n ops (o :: rest) F M K :=
 Jq hg (by rw [hd]; rfl) h (by rw [hd, hM]; exact hk) hnd
theorem ky {o : Oper} {rest : List Oper} {F : Fr} {M M' : List Blk} {K : Cont} {fp : List Nat} {d : D} {wr : List (Nat × Blk)} (hg : o.guard = none) (h : DOpP P true o F M fp d wr) (hM : upd M wr = M') (hk : K (.panic d) F M') (hnd : gC o.op = true := by rfl) : Walk P s0 n ops (o :: rest) F M K := by
 intro a w hi
 obtain ⟨h0, s, h1, h2, h3, h4, h5, h6⟩ := hi
 subst h1 h2
 show if Region.wanted o (yielded ops a.tmps) then _ else _
 have hw : Region.wanted o (yielded ops a.tmps) = true := by unfold Region.wanted; rw [hg]
 rw [if_pos hw]
 refine zo hnd (h rfl a s h3.ok (fun x _ d hd => vY h4 hd) (fun _ _ => rfl)) fun s' v ht ⟨e1, e2⟩ => ?_
 exact ⟨F, M', d, ⟨h0, s', v, e1.trans hM, rfl, h3.trans ht, h4.mono h3.ok ht, h5, h6.mono h3.ok ht, rfl, e2⟩, hk⟩
def Gd (ops : Array Oper) (o : Oper) (F : Fr) (pc : Bool) : Prop :=
 match o.guard with
 | none => pc = true
 | some (j, want) => ∃ t g b, (ops[j]?).bind (·.dst) = some t ∧ (lk F t = some (.opt g (.val (.bool b))) ∨ (g = true ∧ lk F t = some (.val (.bool b)))) ∧ pc = (g && (b == want))
def gdd (o : Oper) (pc : Bool) (d : D) : D :=
 match o.guard with
 | none => d
 | some _ => .opt pc d
theorem gd_n {o : Oper} {F : Fr} (h : o.guard = none) : Gd ops o F true := by unfold Gd; rw [h]
theorem qn {o : Oper} {F : Fr} {j t : Nat} {b : Bool} (h : o.guard = some (j, true)) (ht : (ops[j]?).bind (·.dst) = some t) (hl : lk F t = some (.val (.bool b))) : Gd ops o F b := by
 unfold Gd; rw [h]; exact ⟨t, true, b, ht, .inr ⟨rfl, hl⟩, by simp⟩
theorem qe {o : Oper} {F : Fr} {j t : Nat} {b : Bool} (h : o.guard = some (j, false)) (ht : (ops[j]?).bind (·.dst) = some t) (hl : lk F t = some (.val (.bool b))) : Gd ops o F (!b) := by
 unfold Gd; rw [h]; exact ⟨t, true, b, ht, .inr ⟨rfl, hl⟩, by simp⟩
theorem qO {o : Oper} {F : Fr} {j t : Nat} {g b : Bool} (h : o.guard = some (j, true)) (ht : (ops[j]?).bind (·.dst) = some t) (hl : lk F t = some (.opt g (.val (.bool b)))) : Gd ops o F (g && b) := by
 unfold Gd; rw [h]; exact ⟨t, g, b, ht, .inl hl, by simp⟩
theorem Js {j : Nat} {t : Tmp} {a : Act} (h : (ops[j]?).bind (·.dst) = some t) : yielded ops a.tmps j = (match ju a t with | .bool b => some b | _ => none) := by
 unfold yielded ju
 rw [h]
 simp only [Option.bind_some, Array.getD_eq_getD_getElem?]
 cases a.tmps[t]? with
 | none => rfl
 | some x => cases x <;> rfl
theorem wE {o : Oper} {F : Fr} {pc : Bool} {a : Act} {s : St} (h : Gd ops o F pc) (hF : ∀ t d, t ∈ o.looksAt ops → lk F t = some d → Rep s d (ju a t)) : Region.wanted o (yielded ops a.tmps) = pc := by
 unfold Gd at h
 unfold Region.wanted
 have hl : ∀ j want t, o.guard = some (j, want) → (ops[j]?).bind (·.dst) = some t → t ∈ o.looksAt ops := by
  intro j want t hg ht
  unfold Oper.looksAt
  rw [hg]
  exact List.mem_append_right _ (by simp [ht])
 split at h
 ·rename_i hg; rw [hg, h]
 ·rename_i j want hg
  obtain ⟨t, g, b, ht, hlk, rfl⟩ := h
  rw [hg]
  simp only [Js ht]
  have hmem := hl j want t hg ht
  rcases hlk with h | ⟨rfl, h⟩
  ·have hr := hF t _ hmem h
   cases hr with
   | opt h1 h2 =>
    cases g with
    | true => rw [(h1 rfl).val_eq]; simp
    | false => rw [h2 rfl]; simp [undef]
  ·rw [(hF t _ hmem h).val_eq]; simp
theorem AP {o : Oper} {rest : List Oper} {F : Fr} {M : List Blk} {K : Cont} {fp : List Nat} {d : D} {pc : Bool} (hg : Gd ops o F pc) (hng : o.guard.isSome = true) (hd : Jp n.n o.dst = true) (h : DOp P pc o F M fp d [])
  (hk : Walk P s0 n ops rest (putF o.dst (.opt pc d) F) M K) (hnd : gC o.op = true := by rfl) : Walk P s0 n ops (o :: rest) F M K := by
 intro a w hi
 obtain ⟨h0, s, h1, h2, h3, h4, h5, h6⟩ := hi
 subst h1 h2
 show if Region.wanted o (yielded ops a.tmps) then _ else _
 rw [wE hg (fun t d _ hd => h4 t d hd)]
 cases pc with
 | true =>
  rw [if_pos rfl]
  refine vd hnd (h rfl a s h3.ok (fun x _ d hd => vY h4 hd) (fun _ _ => rfl)) fun s' v ht ⟨e1, e2⟩ => ?_
  exact hk _ _ ⟨h0, s', e1, rfl, h3.trans ht, (h4.mono h3.ok ht).putF h5 hd (.opt (fun _ => e2) (fun h => by cases h)), by rw [ga]; exact h5, by rw [yy]; exact h6.mono h3.ok ht⟩
 | false =>
  rw [if_neg (by simp)]
  refine ⟨fun _ _ => trivial, ?_⟩
  exact hk _ _ ⟨h0, s, rfl, rfl, h3, h4.putF h5 hd (.opt (fun h => by cases h) (fun _ => rfl)), by rw [ga]; exact h5, by rw [yy]; exact h6⟩
theorem zai {o : Oper} {rest : List Oper} {F : Fr} {M : List Blk} {K : Cont} {fp : List Nat} {d : D} {pc : Bool} {t : Nat} (hg : Gd ops o F pc) (hng : o.guard.isSome = true) (hd : o.dst = some t) (ht : qcj t n.n = true) (h : DOp P pc o F M fp d [])
  (hk : Walk P s0 n ops rest ((t, .opt pc d) :: F) M K) (hnd : gC o.op = true := by rfl) : Walk P s0 n ops (o :: rest) F M K := AP hg hng (by rw [hd]; exact ht) h (by rw [hd]; exact hk) hnd
theorem zac {id : Nat} {l : List Oper} {F : Fr} {M : List Blk} {K : Cont} (h : Walk P s0 n l.toArray l F M K) : dwp P s0 n (.region id l.toArray false) F M K := fun a w hi => wpIn_region_lit (h a w hi)
theorem zp {F : Fr} {M : List Blk} {a : Act} {w : World} (h : Inv s0 n F M a w) : Inv s0 n F (M ++ [.hole]) a w := by
 obtain ⟨h0, s, h1, h2, h3, h4, h5, h6⟩ := h
 subst h1 h2
 have t := gZ h3.ok
 exact ⟨h0, ⟨s.β ++ [.nilFunc], s.I, s.M ++ [.hole], s.w⟩, rfl, rfl, h3.trans t, h4.mono h3.ok t, h5, h6.mono h3.ok t⟩
def Qy (M : List Blk) : Nat → List Blk
 | 0 => M
 | k + 1 => Qy (M ++ [.hole]) k
theorem VG {c : Code} {F : Fr} {M M' : List Blk} {K : Cont} (k : Nat) (hM : Qy M k = M') (h : dwp P s0 n c F M' K) : dwp P s0 n c F M K := by
 subst hM
 induction k generalizing M with
 | zero => exact h
 | succ k ih => exact fun a w hi => ih h a w (zp hi)
theorem ym {c : Code} {F : Fr} {M : List Blk} {K : Cont} (h : dwp P s0 n c F (M ++ [.hole]) K) : dwp P s0 n c F M K := fun a w hi => h a w (zp hi)
end
mutual
def sb (τ : List Nat) : D → Option D
 | .val v => some (.val v)
 | .loc j o => (τ[j]?).map fun i => .loc i o
 | .arr j => (τ[j]?).map .arr
 | .aloc j o => (τ[j]?).map fun i => .aloc i o
 | .own j sz o n => (τ[j]?).map fun i => .own i sz o n
 | .part j sz o n c => (τ[j]?).map fun i => .part i sz o n c
 | .dpf L => some (.dpf L)
 | .pin b L => some (.pin b L)
 | .pip L => some (.pip L)
 | .slf sz n L => some (.slf sz n L)
 | .slc sz n L => some (.slc sz n L)
 | .tup l => (sbL τ l).map .tup
 | .agg l => (sbL τ l).map .agg
 | .dpm l => some (.dpm l)
 | .slm sz n l => some (.slm sz n l)
 | .smc sz n l => some (.smc sz n l)
 | .fn f a b => match sbL τ a, sbL τ b with
  | some a', some b' => some (.fn f a' b')
  | _, _ => none
 | .ifc t d => (sb τ d).map (.ifc t)
 | .opt b d => (sb τ d).map (.opt b)
 | .hnd j => (τ[j]?).map .hnd
 | .yld j => (τ[j]?).map .yld
 | .floc j k o => (τ[j]?).map fun i => .floc i k o
 | .farr j k => (τ[j]?).map fun i => .farr i k
 | .faloc j k o => (τ[j]?).map fun i => .faloc i k o
 | .junk => some .junk
def sbL (τ : List Nat) : List D → Option (List D)
 | [] => some []
 | d :: l => match sb τ d, sbL τ l with
  | some d', some l' => some (d' :: l')
  | _, _ => none
end
mutual
def D.fl : D → Bool
 | .val _ => true
 | .loc _ _ => true
 | .arr _ => true
 | .aloc _ _ => true
 | .own _ _ _ _ => true
 | .part _ _ _ _ _ => true
 | .dpf _ => false
 | .pin _ _ => false
 | .pip _ => false
 | .slf _ _ L => L.isEmpty
 | .slc _ _ L => L.isEmpty
 | .tup l => D.flL l
 | .agg l => D.flL l
 | .dpm _ => false
 | .slm _ _ l => l.isEmpty
 | .smc _ _ l => l.isEmpty
 | .fn _ a b => D.flL a && D.flL b
 | .ifc _ d => d.fl
 | .opt _ d => d.fl
 | .hnd _ => true
 | .yld _ => true
 | .floc _ _ _ => true
 | .farr _ _ => true
 | .faloc _ _ _ => true
 | .junk => true
def D.flL : List D → Bool
 | [] => true
 | d :: l => d.fl && D.flL l
end
def sbF (τ : List Nat) : List (Nat × D) → Option (List (Nat × D))
 | [] => some []
 | (t, d) :: l => match sb τ d, sbF τ l with
  | some d', some l' => some ((t, d') :: l')
  | _, _ => none
def flF : List (Nat × D) → Bool
 | [] => true
 | (_, d) :: l => d.fl && flF l
def sbB (τ : List Nat) : Blk → Option Blk
 | .mix T l => (sbL τ l).map (.mix T)
 | .arx T sz n l => (sbL τ l).map (.arx T sz n)
 | .mpd ks l => (sbL τ l).map (.mpd ks)
 | .mit d n seen => (sb τ d).map fun d' => .mit d' n seen
 | .lp g n F ps asg body st pe => (sbF τ F).map fun F' => .lp g n F' ps asg body st pe
 | k => some k
def Blk.fl : Blk → Bool
 | .mix _ l => D.flL l
 | .arx _ _ _ l => D.flL l
 | .mpd _ l => D.flL l
 | .mit d _ _ => d.fl
 | .lp _ _ F _ _ _ _ _ => flF F
 | .glob _ _ => false
 | _ => true
def yt (τ0 : List Nat) : List Nat → List Blk → Option (List (Nat × Blk))
 | [], [] => some []
 | i :: r, k :: ks => match sbB τ0 k, yt τ0 r ks with
  | some k', some r' => some ((i, k') :: r')
  | _, _ => none
 | _, _ => none
theorem v5 {τ : List Nat} : ∀ (l l' : List D), sbL τ l = some l' → l'.length = l.length ∧ ∀ (j : Nat) d', l'[j]? = some d' → ∃ d, l[j]? = some d ∧ sb τ d = some d'
 | [], l', h => by unfold sbL at h; cases h; exact ⟨rfl, fun j d h => by simp at h⟩
 | d :: l, l', h => by
  unfold sbL at h
  cases e1 : sb τ d with
  | none => rw [e1] at h; simp at h
  | some d1 =>
   cases e2 : sbL τ l with
   | none => rw [e1, e2] at h; simp at h
   | some l1 =>
    rw [e1, e2] at h
    obtain rfl := qbw h
    obtain ⟨h1, h2⟩ := v5 l l1 e2
    refine ⟨by simp [h1], fun j d' hj => ?_⟩
    cases j with
    | zero => simp at hj; subst hj; exact ⟨d, rfl, e1⟩
    | succ j => simp at hj; obtain ⟨x, hx, hx2⟩ := h2 j d' hj; exact ⟨x, by simpa using hx, hx2⟩
theorem Gn {τ : List Nat} : ∀ (l l' : List (Nat × D)), sbF τ l = some l' → ∀ t d', lk l' t = some d' → ∃ d, lk l t = some d ∧ sb τ d = some d' ∧ (flF l = true → d.fl = true)
 | [], l', h => by unfold sbF at h; cases h; intro t d h; cases h
 | (k, d) :: l, l', h => by
  unfold sbF at h
  cases e1 : sb τ d with
  | none => rw [e1] at h; simp at h
  | some d1 =>
   cases e2 : sbF τ l with
   | none => rw [e1, e2] at h; simp at h
   | some l1 =>
    rw [e1, e2] at h
    obtain rfl := qbw h
    intro t d' hd
    rw [jx] at hd ⊢
    by_cases e : k = t
    ·rw [if_pos e] at hd ⊢; cases hd; exact ⟨d, rfl, e1, fun h => by unfold flF at h; simp at h; exact h.1⟩
    ·rw [if_neg e] at hd ⊢
     obtain ⟨x, hx, hx2, hx3⟩ := Gn l l1 e2 t d' hd
     exact ⟨x, hx, hx2, fun h => hx3 (by unfold flF at h; simp at h; exact h.2)⟩
theorem uA : ∀ {l : List D} {j : Nat} {d : D}, D.flL l = true → l[j]? = some d → d.fl = true
 | d :: l, 0, e, h, hj => by simp at hj; subst hj; unfold D.flL at h; simp at h; exact h.1
 | d :: l, j + 1, e, h, hj => by unfold D.flL at h; simp at h hj; exact uA h.2 hj
theorem AQ {s s' : St} {τ : List Nat} (V : Prop) (hnd : ∀ (j i : Nat) h, τ[j]? = some i → s.β[j]? = some h → h ≠ .nilFunc → s'.β[i]? = some h) (up : ¬ V → ∀ b, s.I b → s'.I b) (imm : ¬ V → ∀ b, s.I b → s'.w.heap[b]? = s.w.heap[b]?)
  {d : D} {v : Value} (h : Rep s d v) : (V → d.fl = true) → ∀ d', sb τ d = some d' → Rep s' d' v := by
 have no : ∀ {b : Bool}, (V → b = true) → b = false → ¬ V := fun h e hv => by rw [h hv] at e; cases e
 have lists : ∀ {l l' : List D} {vs : List Value}, sbL τ l = some l' → (V → D.flL l = true) → vs.length = l.length → (∀ (j : Nat) d v, l[j]? = some d → vs[j]? = some v → (V → d.fl = true) → ∀ d', sb τ d = some d' → Rep s' d' v) →
   vs.length = l'.length ∧ ∀ (j : Nat) d v, l'[j]? = some d → vs[j]? = some v → Rep s' d v := by
  intro l l' vs e hf hl ih
  obtain ⟨h1, h2⟩ := v5 l l' e
  refine ⟨by omega, fun j d v hj hv => ?_⟩
  obtain ⟨x, hx, hx2⟩ := h2 j d hj
  exact ih j x v hx hv (fun hV => uA (hf hV) hx) d hx2
 induction h with
 | val v => intro _ d' e; unfold sb at e; cases e; exact .val v
 | @loc i o b h =>
  intro _ d' e
  unfold sb at e
  simp only [qbL] at e
  obtain ⟨k, hk, rfl⟩ := e
  exact .loc (hnd i k _ hk h (by simp))
 | @arr i a n c h =>
  intro _ d' e
  unfold sb at e
  simp only [qbL] at e
  obtain ⟨k, hk, rfl⟩ := e
  exact .arr (hnd i k _ hk h (by simp))
 | @aloc i o n c b h =>
  intro _ d' e
  unfold sb at e
  simp only [qbL] at e
  obtain ⟨k, hk, rfl⟩ := e
  exact .aloc (hnd i k _ hk h (by simp))
 | own h ha hN hz hn hc =>
  intro _ d' e
  unfold sb at e
  simp only [qbL] at e
  obtain ⟨k, hk, rfl⟩ := e
  exact .own (hnd _ k _ hk h (by simp)) ha hN hz hn hc
 | ownnil h =>
  intro _ d' e
  unfold sb at e
  simp only [qbL] at e
  obtain ⟨k, hk, rfl⟩ := e
  exact .ownnil (hnd _ k _ hk h (by simp))
 | part h ha hN hn hc =>
  intro _ d' e
  unfold sb at e
  simp only [qbL] at e
  obtain ⟨k, hk, rfl⟩ := e
  exact .part (hnd _ k _ hk h (by simp)) ha hN hn hc
 | partnil h =>
  intro _ d' e
  unfold sb at e
  simp only [qbL] at e
  obtain ⟨k, hk, rfl⟩ := e
  exact .partnil (hnd _ k _ hk h (by simp))
 | dpf hI h => intro hf d' e; unfold sb at e; cases e; have hV := no hf rfl; exact .dpf (up hV _ hI) (km (imm hV _ hI) h)
 | pin hI h ho => intro hf d' e; unfold sb at e; cases e; have hV := no hf rfl; exact .pin (up hV _ hI) (km (imm hV _ hI) h) ((imm hV _ hI).trans ho)
 | pip hI h ho => intro hf d' e; unfold sb at e; cases e; have hV := no hf rfl; exact .pip (up hV _ hI) (km (imm hV _ hI) h) ((imm hV _ hI).trans ho)
 | @slf sz n cap a L hl hn hc ha h =>
  intro hf d' e
  unfold sb at e
  cases e
  refine .slf hl hn hc ha ?_
  rcases h with h | ⟨b, o, e, hI, h⟩
  ·exact .inl h
  ·cases L with
   | nil => exact .inl rfl
   | cons x L => have hV := no hf rfl; exact .inr ⟨b, o, e, up hV _ hI, km (imm hV _ hI) h⟩
 | @slc sz n a L hl hc ha h =>
  intro hf d' e
  unfold sb at e
  cases e
  refine .slc hl hc ha ?_
  rcases h with h | ⟨b, o, e, hI, h⟩
  ·exact .inl h
  ·cases L with
   | nil => exact .inl rfl
   | cons x L => have hV := no hf rfl; exact .inr ⟨b, o, e, up hV _ hI, km (imm hV _ hI) h⟩
 | tup hl _ ih =>
  intro hf d' e
  unfold sb at e
  simp only [qbL] at e
  obtain ⟨l', e, rfl⟩ := e
  obtain ⟨h1, h2⟩ := lists e (fun hV => by have := hf hV; simpa [D.fl] using this) hl ih
  exact .tup h1 h2
 | agg hl _ ih =>
  intro hf d' e
  unfold sb at e
  simp only [qbL] at e
  obtain ⟨l', e, rfl⟩ := e
  obtain ⟨h1, h2⟩ := lists e (fun hV => by have := hf hV; simpa [D.fl] using this) hl ih
  exact .agg h1 h2
 | dpm hnl hI hc hl h _ => intro hf d' e; unfold sb at e; cases e; have hV := no hf rfl; exact .dpm hnl (up hV _ hI) (km (imm hV _ hI) hc) hl fun j d v hj hv => (h j d v hj hv).nl (up hV) (imm hV) (jz hnl hj)
 | @smc sz n a l vs hnl hl hc ha hv h hm _ =>
  intro hf d' e
  unfold sb at e
  cases e
  cases l with
  | nil => exact .smc hnl hl hc ha hv (fun j d v hj => by simp at hj) (.inl rfl)
  | cons x l =>
   have hV := no hf rfl
   exact .smc hnl hl hc ha hv (fun j d v hj hv => (h j d v hj hv).nl (up hV) (imm hV) (jz hnl hj)) (hm.imp id fun ⟨b, o, e, hI, h⟩ => ⟨b, o, e, up hV _ hI, km (imm hV _ hI) h⟩)
 | @slm sz n cap a l vs hnl hl hn hc ha hv h hm _ =>
  intro hf d' e
  unfold sb at e
  cases e
  cases l with
  | nil => exact .slm hnl hl hn hc ha hv (fun j d v hj => by simp at hj) (.inl rfl)
  | cons x l =>
   have hV := no hf rfl
   exact .slm hnl hl hn hc ha hv (fun j d v hj hv => (h j d v hj hv).nl (up hV) (imm hV) (jz hnl hj)) (hm.imp id fun ⟨b, o, e, hI, h⟩ => ⟨b, o, e, up hV _ hI, km (imm hV _ hI) h⟩)
 | @fn f l k vs us hl hk _ _ ih ih' =>
  intro hf d' e
  unfold sb at e
  cases e1 : sbL τ l with
  | none => rw [e1] at e; simp at e
  | some a' =>
   cases e2 : sbL τ k with
   | none => rw [e1, e2] at e; simp at e
   | some b' =>
    rw [e1, e2] at e
    cases e
    obtain ⟨h1, h2⟩ := lists e1 (fun hV => by have := hf hV; simp [D.fl] at this; exact this.1) hl ih
    obtain ⟨g1, g2⟩ := lists e2 (fun hV => by have := hf hV; simp [D.fl] at this; exact this.2) hk ih'
    exact .fn h1 g1 h2 g2
 | ifc _ ih =>
  intro hf d' e
  unfold sb at e
  simp only [qbL] at e
  obtain ⟨x, e, rfl⟩ := e
  exact .ifc (ih (fun hV => by have := hf hV; simpa [D.fl] using this) x e)
 | opt _ hu ih =>
  intro hf d' e
  unfold sb at e
  simp only [qbL] at e
  obtain ⟨x, e, rfl⟩ := e
  exact .opt (fun hb => ih hb (fun hV => by have := hf hV; simpa [D.fl] using this) x e) hu
 | @hnd i v h hn ht =>
  intro _ d' e
  unfold sb at e
  simp only [qbL] at e
  obtain ⟨k, hk, rfl⟩ := e
  exact .hnd (hnd i k _ hk h hn) hn ht
 | @yld i l h =>
  intro _ d' e
  unfold sb at e
  simp only [qbL] at e
  obtain ⟨k, hk, rfl⟩ := e
  exact .yld (hnd i k _ hk h (by simp))
 | @floc i k o b hs h hk =>
  intro _ d' e
  unfold sb at e
  simp only [qbL] at e
  obtain ⟨m, hm, rfl⟩ := e
  exact .floc (hnd i m _ hm h (by simp)) hk
 | @farr i k a n c hs h hk =>
  intro _ d' e
  unfold sb at e
  simp only [qbL] at e
  obtain ⟨m, hm, rfl⟩ := e
  exact .farr (hnd i m _ hm h (by simp)) hk
 | @faloc i k o n c b hs h hk =>
  intro _ d' e
  unfold sb at e
  simp only [qbL] at e
  obtain ⟨m, hm, rfl⟩ := e
  exact .faloc (hnd i m _ hm h (by simp)) hk
 | junk v => intro _ d' e; unfold sb at e; cases e; exact .junk v
end Go.Proofs.YtofklkbfkoliiaaGreat
namespace Go.Proofs.YtofklkbfkoliiaaGreat
set_option linter.unusedVariables false
set_option linter.unusedSimpArgs false
open Go.RowKit
def EvL (pc : Bool) (F : Fr) : List Operand → List D → Prop
 | [], [] => True
 | x :: xs, d :: ds => Ev pc F x d ∧ EvL pc F xs ds
 | _, _ => False
theorem en {pc : Bool} {F : Fr} : EvL pc F [] [] := trivial
theorem ec {pc : Bool} {F : Fr} {x : Operand} {xs : List Operand} {d : D} {ds : List D} (h : Ev pc F x d) (h' : EvL pc F xs ds) : EvL pc F (x :: xs) (d :: ds) := ⟨h, h'⟩
theorem gv {pc : Bool} {F : Fr} {a : Act} {s : St} (hp : pc = true) : ∀ (xs : List Operand) (ds : List D), EvL pc F xs ds → (∀ x ∈ xs, ∀ d, ev F x = some d → Rep s d (a.eval x)) → Reps s ds (xs.map a.eval)
 | [], [], _, _ => ⟨rfl, fun j d v h => by simp at h⟩
 | x :: xs, d :: ds, ⟨⟨d', e1, e2⟩, h⟩, hr => by
  obtain ⟨h1, h2⟩ := gv hp xs ds h (fun y hy => hr y (qb4 _ hy))
  refine ⟨by simp [h1], fun j e v hj hv => ?_⟩
  cases j with
  | zero => simp at hj hv; subst hj; subst hv; exact e2 s _ hp (hr x (qb1 ..) d' e1)
  | succ j => simp at hj; exact h2 j e v hj (by simpa using hv)
 | [], _ :: _, h, _ => by cases h
 | _ :: _, [], h, _ => by cases h
theorem Gp {V : Nat → Bool} {M M' : List Blk} {i : Nat} (h : V i = true → M[i]? = M'[i]?) (o : Nat) : Gh V M i o = Gh V M' i o := by
 unfold Gh; cases hv : V i with
 | false => rfl
 | true => simp only [cond_true]; rw [h hv]
theorem xu {V : Nat → Bool} {M M' : List Blk} {i : Nat} (h : V i = true → M[i]? = M'[i]?) (sz o n : Nat) : wU V M i sz o n = wU V M' i sz o n := by
 unfold wU; cases hv : V i with
 | false => rfl
 | true => simp only [cond_true]; rw [h hv]
theorem Jt {V : Nat → Bool} {M M' : List Blk} {i : Nat} (h : V i = true → M[i]? = M'[i]?) : w4 V M i = w4 V M' i := by
 unfold w4; cases hv : V i with
 | false => rfl
 | true => simp only [cond_true]; rw [h hv]
theorem uB {V : Nat → Bool} {M M' : List Blk} {i : Nat} (h : V i = true → M[i]? = M'[i]?) (k o : Nat) : vZ V M i k o = vZ V M' i k o := by
 unfold vZ; cases hv : V i with
 | false => rfl
 | true => simp only [cond_true]; rw [h hv]
theorem uC {V : Nat → Bool} {M M' : List Blk} {i : Nat} (h : V i = true → M[i]? = M'[i]?) (k : Nat) : yN V M i k = yN V M' i k := by
 unfold yN; cases hv : V i with
 | false => rfl
 | true => simp only [cond_true]; rw [h hv]
theorem Ki {V : Nat → Bool} {M M' : List Blk} {i : Nat} (h : V i = true → M[i]? = M'[i]?) (k o : Nat) : wC V M i k o = wC V M' i k o := by
 unfold wC; cases hv : V i with
 | false => rfl
 | true => simp only [cond_true]; rw [h hv]
theorem VH {σ : List Nat} {V : Nat → Bool} {M M' : List Blk} (h : ∀ i, V i = true → M[i]? = M'[i]?) (d : D) : vw1 σ V M d = vw1 σ V M' d := by
 cases d with
 | arr i => simp only [vw1]; rw [Jt (h i)]
 | own i sz o n => simp only [vw1]; rw [xu (h i)]
 | farr i k => simp only [vw1]; rw [uC (h i)]
 | floc i k o => simp only [vw1]; rw [uB (h i)]
 | _ => rfl
theorem zq {σ : List Nat} {V : Nat → Bool} {M M' : List Blk} (h : ∀ i, V i = true → M[i]? = M'[i]?) : ∀ l, yk σ V M l = yk σ V M' l
 | [] => rfl
 | d :: l => by unfold yk; rw [VH h d, zq h l]
theorem Gq {σ : List Nat} {V : Nat → Bool} {M M' : List Blk} (h : ∀ i, V i = true → M[i]? = M'[i]?) (i : Nat) : uy σ V M i = uy σ V M' i := by
 unfold uy; cases hv : V i with
 | false => rfl
 | true => simp only [cond_true]; rw [h i hv]; simp only [zq h]
theorem Ju {V : Nat → Bool} {M M' : List Blk} {i : Nat} (h : V i = true → M[i]? = M'[i]?) (o : Nat) : zh V M i o = zh V M' i o := by
 unfold zh; cases hv : V i with
 | false => rfl
 | true => simp only [cond_true]; rw [h hv]
mutual
theorem v6 {σ : List Nat} {V : Nat → Bool} {M M' : List Blk} (h : ∀ i, V i = true → M[i]? = M'[i]?) : ∀ d, vw σ V M d = vw σ V M' d
 | .val v => rfl
 | .loc i o => by unfold vw; rw [Gp (h i)]
 | .arr i => by unfold vw; rw [Gq h i]
 | .aloc i o => by unfold vw; rw [Ju (h i)]
 | .own i sz o n => by unfold vw; rw [xu (h i)]
 | .part _ _ _ _ _ => rfl
 | .dpf L => rfl
 | .pin b L => rfl
 | .pip L => rfl
 | .slf sz n L => rfl
 | .slc sz n L => rfl
 | .tup l => by unfold vw; rw [gm h l]
 | .agg l => by unfold vw; rw [gm h l]
 | .dpm l => rfl
 | .slm sz n l => rfl
 | .smc sz n l => rfl
 | .fn f a b => by unfold vw; rw [gm h a, gm h b]
 | .ifc t d => by unfold vw; rw [v6 h d]
 | .opt b d => by unfold vw; rw [v6 h d]
 | .hnd _ => rfl
 | .yld _ => rfl
 | .floc i k o => by unfold vw; rw [uB (h i)]
 | .farr i k => by unfold vw; rw [uC (h i)]
 | .faloc i k o => by unfold vw; rw [Ki (h i)]
 | .junk => rfl
theorem gm {σ : List Nat} {V : Nat → Bool} {M M' : List Blk} (h : ∀ i, V i = true → M[i]? = M'[i]?) : ∀ l, vwL σ V M l = vwL σ V M' l
 | [] => rfl
 | d :: l => by unfold vwL; rw [v6 h d, gm h l]
end
theorem Kv {σ : List Nat} {V : Nat → Bool} {M M' : List Blk} (h : ∀ i, V i = true → M[i]? = M'[i]?) : ∀ l, vwF σ V M l = vwF σ V M' l
 | [] => rfl
 | (t, d) :: l => by unfold vwF; rw [v6 h d, Kv h l]
theorem vu {σ : List Nat} {V : Nat → Bool} {M M' : List Blk} (h : ∀ i, V i = true → M[i]? = M'[i]?) : ∀ (τ : List Nat), (∀ i ∈ τ, M[i]? = M'[i]?) → gl σ V M τ = gl σ V M' τ
 | [], _ => rfl
 | i :: r, ht => by
  unfold gl
  rw [ht i (qb1 ..), vu h r (fun j hj => ht j (qb4 _ hj))]
  have : ∀ k, vwB σ V M k = vwB σ V M' k := fun k => by cases k <;> simp [vwB, v6 h, gm h, Kv h]
  simp only [this]
theorem WN {P : Program} {o : Oper} {a : Act} {x : Operand} {asL : List Operand} {tys : Array TypeId} {g : FuncId} {v1 v2 : Array Value} {w : World} (ho : o.op = .call { callee := .value x, args := asL.toArray, argTypes := tys }) (hx : a.eval x = .func (.func g) v1 v2) (hcb : yW P g = true) :
  (execOp a.eval o).run P w = .ok (.enter g (v1 ++ (asL.map a.eval).toArray ++ v2)) w := by
 have e : execOp a.eval o = callFunc g (v1 ++ (asL.map a.eval).toArray ++ v2) := by
  unfold execOp
  simp only [ho, resolve, hx, Deferred.ofValue]
  simp [invoke, pure, bind, Sem.bind]
 rw [e, vr hcb]
theorem Kw {τ0 : List Nat} : ∀ (τ : List Nat) (Mo : List Blk) (wr : List (Nat × Blk)), yt τ0 τ Mo = some wr → wr.map (·.1) = τ ∧ Mo.length = τ.length ∧ ∀ (j : Nat) i k, τ[j]? = some i → Mo[j]? = some k → ∃ k', sbB τ0 k = some k' ∧ wr[j]? = some (i, k')
 | [], [], wr, h => by unfold yt at h; cases h; exact ⟨rfl, rfl, fun j i k h => by simp at h⟩
 | i :: r, k :: ks, wr, h => by
  unfold yt at h
  cases e1 : sbB τ0 k with
  | none => rw [e1] at h; simp at h
  | some k1 =>
   cases e2 : yt τ0 r ks with
   | none => rw [e1, e2] at h; simp at h
   | some r1 =>
    rw [e1, e2] at h
    obtain rfl := qbw h
    obtain ⟨h1, h2, h3⟩ := Kw r ks r1 e2
    refine ⟨by simp [h1], by simp [h2], fun j i' k' hj hk => ?_⟩
    cases j with
    | zero => simp at hj hk; subst hj; subst hk; exact ⟨k1, e1, rfl⟩
    | succ j => simp at hj hk; simpa using h3 j i' k' hj hk
 | [], _ :: _, wr, h => by cases h
 | _ :: _, [], wr, h => by cases h
theorem WO : ∀ (wr : List (Nat × Blk)) (M : List Blk) (j i : Nat) (k : Blk), (wr.map (·.1)).Nodup → i < M.length → wr[j]? = some (i, k) → (upd M wr)[i]? = some k
 | (i0, k0) :: r, M, 0, i, k, hn, hi, hj => by
  simp at hj
  obtain ⟨rfl, rfl⟩ := hj
  simp only [List.map_cons, List.nodup_cons] at hn
  rw [upd, Jo r _ _ hn.1]
  simp [hi]
 | (i0, k0) :: r, M, j + 1, i, k, hn, hi, hj => by
  simp only [List.map_cons, List.nodup_cons] at hn
  rw [upd]
  exact WO r _ j i k hn.2 (by simpa using hi) (by simpa using hj)
theorem YJ : ∀ (σ : List Nat) (i j : Nat), σ.Nodup → σ[j]? = some i → pos σ i = some j
 | k :: r, i, 0, _, h => by simp at h; subst h; simp [pos]
 | k :: r, i, j + 1, hn, h => by
  simp at h hn
  have hne : k ≠ i := fun e => hn.1 (e ▸ qb7 h)
  unfold pos
  have : Nat.beq k i = false := by
   cases e : Nat.beq k i
   ·rfl
   ·exact absurd (Nat.eq_of_beq_eq_true e) hne
  rw [this, YJ r i j hn.2 h]
  rfl
section
variable {P : Program}
def back (s s2 : St) (σ : List Nat) (V : Nat → Bool) (ν : List Nat) (M3 : List Blk) : St :=
 ⟨(qb5 s.β.length).map fun i => match pos (σ ++ ν) i with | some k => s2.β.getD k .nilFunc | none => s.β.getD i .nilFunc, fun b => s2.I b ∧ ¬ Vis s σ V b, M3, s2.w⟩
theorem Gr {s s2 : St} {σ : List Nat} {V : Nat → Bool} {ν : List Nat} {M3 : List Blk} {i : Nat} {h : Value} (hi : i ∉ σ ++ ν) (hs : s.β[i]? = some h) : (back s s2 σ V ν M3).β[i]? = some h := by
 have hlt := (qbq.1 hs).1
 show ((qb5 s.β.length).map _)[i]? = some h
 rw [qca, List.getElem?_range hlt]
 cases hp : pos (σ ++ ν) i with
 | some k => exact absurd (qb7 (jy (σ ++ ν) i k hp)) hi
 | none => simp [hp, hs]
theorem Gt {s s2 : St} {σ : List Nat} {V : Nat → Bool} {ν : List Nat} {M3 : List Blk} {i k : Nat} {h : Value} (hn : (σ ++ ν).Nodup) (hi : (σ ++ ν)[k]? = some i) (hlt : i < s.β.length) (hs : s2.β[k]? = some h) : (back s s2 σ V ν M3).β[i]? = some h := by
 show ((qb5 s.β.length).map _)[i]? = some h
 rw [qca, List.getElem?_range hlt]
 simp [YJ (σ ++ ν) i k hn hi, hs]
theorem gD {s s2 : St} {σ ν : List Nat} {V : Nat → Bool} {Min Mout M3 : List Blk} {wr : List (Nat × Blk)} (ho : Ok s) (hMin : gl σ V s.M σ = some Min) (hlive : Min.all (·.live) = true) (hn : (σ ++ ν).Nodup)
  (hν : ∀ i ∈ ν, s.M[i]? = some .hole) (t : Tr (vst s σ V Min) s2) (h2 : s2.M = Mout) (hwr : yt (σ ++ ν) (σ ++ ν) Mout = some wr) (hM3 : M3 = upd s.M wr)
  (hfl : (∃ i, V i = true) → Mout.all (·.fl) = true) :
  Tr s (back s s2 σ V ν M3) ∧ ∀ d v d', Rep s2 d v → ((∃ i, V i = true) → d.fl = true) → sb (σ ++ ν) d = some d' → Rep (back s s2 σ V ν M3) d' v := by
 obtain ⟨hnσ, hnν, hdis⟩ := List.nodup_append.1 hn
 obtain ⟨w1, w2, w3⟩ := Kw _ _ _ hwr
 have hok1 := vp ho hMin hnσ
 have hlenMin := (y9 σ Min hMin).1
 have lenM := ho.len
 have σlt : ∀ (j i : Nat), σ[j]? = some i → ∃ k k', s.M[i]? = some k ∧ k.live = true ∧ Min[j]? = some k' ∧ vwB σ V s.M k = some k' := by
  intro j i hj
  have hjl : j < Min.length := by rw [hlenMin]; exact (qbq.1 hj).1
  obtain ⟨i', k, e1, e2, e3⟩ := (y9 σ Min hMin).2 j _ (qbr hjl)
  rw [hj] at e1
  obtain rfl := qbw e1
  refine ⟨k, _, e2, ?_, qbr hjl, e3⟩
  rw [← uz e3]
  exact qbX.1 hlive _ (qb9 hjl)
 have ilt : ∀ i ∈ σ ++ ν, i < s.M.length := by
  intro i hi
  rcases List.mem_append.1 hi with hi | hi
  ·obtain ⟨j, hj⟩ := List.getElem?_of_mem hi
   obtain ⟨k, k', e, _⟩ := σlt j i hj
   exact (qbq.1 e).1
  ·exact (qbq.1 (hν i hi)).1
 have σh : ∀ (j i : Nat), σ[j]? = some i → ∃ h h', s.β[i]? = some h ∧ s2.β[j]? = some h' ∧ h ≠ .nilFunc ∧ h' ≠ .nilFunc ∧ ((∀ a, h ≠ .tuple a) → h' = h) ∧ ∀ hs : List Value, h = .tuple hs.toArray → ∃ hs' : List Value, h' = .tuple hs'.toArray ∧ ∀ (k : Nat) u, hs[k]? = some u → hs'[k]? = some u := by
  intro j i hj
  obtain ⟨k, k', e1, e2, e3, e4⟩ := σlt j i hj
  have hi : i < s.β.length := by rw [lenM]; exact (qbq.1 e1).1
  have e5 : s.β[i]? = some s.β[i] := qbr hi
  have hne := (ho.blk i k _ e1 e5).live_ne e2
  by_cases ht : ∃ a, s.β[i] = .tuple a
  ·obtain ⟨a, ha⟩ := ht
   obtain ⟨hs', q1, q2⟩ := t.hnd.2 j a.toList (by have := jj (s := s) (V := V) (M' := Min) hj e5; rw [ha] at this; simpa using this)
   refine ⟨_, _, e5, q1, hne, by simp, fun h => absurd ha (h a), fun hs h => ⟨hs', rfl, ?_⟩⟩
   rw [ha] at h
   have : hs = a.toList := by cases h; simp
   subst this
   exact q2
  ·have ht' : ∀ a, s.β[i] ≠ .tuple a := fun a h => ht ⟨a, h⟩
   exact ⟨_, _, e5, t.hnd.1 j _ (jj hj e5) hne ht', hne, hne, fun _ => rfl, fun hs h => absurd h (ht' _)⟩
 have hnd2 : ∀ (j i : Nat) h, (σ ++ ν)[j]? = some i → s2.β[j]? = some h → h ≠ .nilFunc → (back s s2 σ V ν M3).β[i]? = some h := by
  intro j i h hj hh hne
  have hi := ilt i (qb7 hj)
  exact Gt hn hj (by omega) hh
 have vis_no : ∀ b, s.I b → ¬ Vis s σ V b := fun b hI ⟨i, k, h, _, _, f1, f2, f3, f4⟩ => (ho.lt b (qq f1 f2 f3 f4)).2 hI
 have live1 : ∀ b, Live (vst s σ V Min) b → Live s b := fun b hl => by obtain ⟨i, k, h, _, e1, e2, e3, e4⟩ := yO ho hMin hl; exact qq e1 e2 e3 e4
 have upI : ∀ b, s.I b → (back s s2 σ V ν M3).I b := fun b hI => ⟨t.up b (.inl hI), vis_no b hI⟩
 have hnd0 : ∀ (i : Nat) h, s.β[i]? = some h → h ≠ .nilFunc → (back s s2 σ V ν M3).β[i]? = some h ∨ ∃ (j : Nat) (h' : Value), σ[j]? = some i ∧ (back s s2 σ V ν M3).β[i]? = some h' ∧ s2.β[j]? = some h' := by
  intro i h hi hne
  by_cases hm : i ∈ σ ++ ν
  ·rcases List.mem_append.1 hm with hm | hm
   ·obtain ⟨j, hj⟩ := List.getElem?_of_mem hm
    obtain ⟨h1, h', e1, e2, e3, e4, _⟩ := σh j i hj
    exact .inr ⟨j, h', hj, hnd2 j i h' (by rw [qbI (qbq.1 hj).1]; exact hj) e2 e4, e2⟩
   ·exact absurd (ho.blk i .hole h (hν i hm) hi) hne
  ·exact .inl (Gr hm hi)
 have hnd : hkeep s.β (back s s2 σ V ν M3).β := by
  refine ⟨fun i h hi hne ht => ?_, fun i hs hi => ?_⟩
  ·rcases hnd0 i h hi hne with h1 | ⟨j, h', h1, h2, h3⟩
   ·exact h1
   ·obtain ⟨q, q', e1, e2, _, _, e5, _⟩ := σh j i h1
    rw [hi] at e1; rw [h3] at e2
    obtain rfl := qbw e1; obtain rfl := qbw e2
    rw [h2, e5 ht]
  ·rcases hnd0 i _ hi (by simp) with h1 | ⟨j, h', h1, h2, h3⟩
   ·exact ⟨hs, h1, fun _ _ h => h⟩
   ·obtain ⟨q, q', e1, e2, _, _, _, e6⟩ := σh j i h1
    rw [hi] at e1; rw [h3] at e2
    obtain rfl := qbw e1; obtain rfl := qbw e2
    obtain ⟨hs', e7, e8⟩ := e6 hs rfl
    exact ⟨hs', by rw [h2, e7], e8⟩
 have imm : ∀ b, s.I b → (back s s2 σ V ν M3).w.heap[b]? = s.w.heap[b]? := fun b hI => t.imm hok1 (b := b) (.inl hI)
 have noV : ¬ (∃ i, V i = true) → ∀ b, ¬ Vis s σ V b := fun hv b ⟨i, _, _, h1, _⟩ => hv ⟨i, h1⟩
 have rep2 : ∀ d v d', Rep s2 d v → ((∃ i, V i = true) → d.fl = true) → sb (σ ++ ν) d = some d' → Rep (back s s2 σ V ν M3) d' v := by
  intro d v d' hr hf hd
  exact AQ (s := s2) (∃ i, V i = true) hnd2 (fun hv b hI => ⟨hI, noV hv b⟩) (fun _ _ _ => rfl) hr hf d' hd
 have inτ : ∀ (i : Nat) k h, i ∈ σ ++ ν → M3[i]? = some k → (back s s2 σ V ν M3).β[i]? = some h → ∃ (j : Nat) (k2 : Blk), (σ ++ ν)[j]? = some i ∧ s2.M[j]? = some k2 ∧ sbB (σ ++ ν) k2 = some k ∧ (k2.live = true ∨ k2 = .hole ∨ k2 = .gone) ∧ ∃ h2, s2.β[j]? = some h2 ∧ (h2 ≠ .nilFunc → h2 = h) := by
  intro i k h hi hk hh
  obtain ⟨j, hj⟩ := List.getElem?_of_mem hi
  have hjl : j < Mout.length := by rw [w2]; exact (qbq.1 hj).1
  obtain ⟨k', e1, e2⟩ := w3 j i _ hj (qbr hjl)
  have e3 := WO wr s.M j i k' (by rw [w1]; exact hn) (ilt i hi) e2
  rw [hM3, e3] at hk
  obtain rfl := qbw hk
  have e4 : s2.M[j]? = some Mout[j] := by rw [h2]; exact qbr hjl
  have hj2 : j < s2.β.length := by rw [t.ok.len, h2]; exact hjl
  refine ⟨j, _, hj, e4, e1, ?_, s2.β[j], qbr hj2, fun hne => ?_⟩
  ·cases Mout[j] <;> simp [Blk.live]
  ·have := hnd2 j i _ hj (qbr hj2) hne
   rw [hh] at this
   exact (qbw this).symm
 have outτ : ∀ (i : Nat) k h, i ∉ σ ++ ν → M3[i]? = some k → (back s s2 σ V ν M3).β[i]? = some h → s.M[i]? = some k ∧ s.β[i]? = some h := by
  intro i k h hi hk hh
  rw [hM3, Jo wr s.M i (by rw [w1]; exact hi)] at hk
  have hil : i < s.β.length := by rw [lenM]; exact (qbq.1 hk).1
  have e5 : s.β[i]? = some s.β[i] := qbr hil
  rw [Gr hi e5] at hh
  exact ⟨hk, by rw [e5, hh]⟩
 have sbB_live : ∀ {k2 k : Blk}, sbB (σ ++ ν) k2 = some k → k.live = k2.live := by
  intro k2 k h
  cases k2 <;> simp only [sbB, Option.some.injEq, qbL] at h
  case mix T l => obtain ⟨a, _, rfl⟩ := h; rfl
  case arx T sz n l => obtain ⟨a, _, rfl⟩ := h; rfl
  case mpd ks l => obtain ⟨a, _, rfl⟩ := h; rfl
  case mit d n seen => obtain ⟨a, _, rfl⟩ := h; rfl
  case lp g n F ps asg body st pe => obtain ⟨a, _, rfl⟩ := h; rfl
  all_goals (subst h; rfl)
 have sbB_owns : ∀ {k2 k : Blk}, sbB (σ ++ ν) k2 = some k → ∀ {x : Value} {b : Nat}, jo k x b → jo k2 x b := by
  intro k2 k h x b hx
  cases k2 <;> simp only [sbB, Option.some.injEq, qbL] at h
  case mix T l => obtain ⟨a, _, rfl⟩ := h; exact hx
  case arx T sz n l => obtain ⟨a, _, rfl⟩ := h; exact hx
  case mpd ks l => obtain ⟨a, _, rfl⟩ := h; exact hx
  case mit d n seen => obtain ⟨a, _, rfl⟩ := h; exact hx
  case lp g n F ps asg body st pe => obtain ⟨a, _, rfl⟩ := h; exact hx
  all_goals (subst h; exact hx)
 have lvτ : ∀ (i : Nat) k h b, i ∈ σ ++ ν → M3[i]? = some k → k.live = true → (back s s2 σ V ν M3).β[i]? = some h → jo k h b → ∃ (j : Nat) (k2 : Blk), (σ ++ ν)[j]? = some i ∧ s2.M[j]? = some k2 ∧ k2.live = true ∧ s2.β[j]? = some h ∧ jo k2 h b := by
  intro i k h b hi hk hl hh hbb
  obtain ⟨j, k2, e1, e2, e3, _, h2', e4, e5⟩ := inτ i k h hi hk hh
  have hl2 : k2.live = true := by rw [← sbB_live e3]; exact hl
  have hne := (t.ok.blk j k2 h2' e2 e4).live_ne hl2
  obtain rfl := e5 hne
  exact ⟨j, k2, e1, e2, hl2, e4, sbB_owns e3 hbb⟩
 have lv2 : ∀ b, Live s2 b → s.w.heap.size ≤ b ∨ Live (vst s σ V Min) b := fun b h => t.lv b h
 have apart : ∀ (i : Nat) k h b, i ∉ σ ++ ν → s.M[i]? = some k → k.live = true → s.β[i]? = some h → jo k h b → ¬ Live s2 b := by
  intro i k h b hi h1 h2' h3 h4 hl
  rcases lv2 b hl with hs | hs
  ·exact absurd (ho.lt b (qq h1 h2' h3 h4)).1 (Nat.not_lt.2 hs)
  ·obtain ⟨i', k', h', e0, e1, e2, e3, e4⟩ := yO ho hMin hs
   have := ho.inj i i' k k' h h' b h1 h2' h3 h4 e1 e2 e3 e4
   subst this
   exact hi (List.mem_append_left _ e0)
 have lv3 : ∀ b, Live (back s s2 σ V ν M3) b → Live s2 b ∨ Live s b := by
  rintro b ⟨i, k, h, e1, e2, e3, e4⟩
  by_cases hi : i ∈ σ ++ ν
  ·obtain ⟨j, k2, f1, f2, f3, f4, f5⟩ := lvτ i k h b hi e1 e2 e3 e4
   exact .inl (qq f2 f3 f4 f5)
  ·obtain ⟨f1, f2⟩ := outτ i k h hi e1 e3
   exact .inr (qq f1 e2 f2 e4)
 refine ⟨⟨⟨by simp [back, hM3, wD, lenM], ?_, ?_, ?_, ?_⟩, hnd, upI, ?_, ?_, ?_, t.os, t.tape, t.output, t.size⟩, rep2⟩
 ·intro i k h hk hh
  by_cases hi : i ∈ σ ++ ν
  ·obtain ⟨j, k2, e1, e2, e3, e4, h2', e5, e6⟩ := inτ i k h hi hk hh
   have hk2 := t.ok.blk j k2 h2' e2 e5
   rcases e4 with e4 | rfl | rfl
   ·obtain rfl := e6 (hk2.live_ne e4)
    cases k2 with
    | gone => cases e4
    | hole => cases e4
    | flat T L => cases e3; exact hk2
    | arr T sz n L => cases e3; exact hk2
    | que T sz n L => cases e3; exact hk2
    | mix T l =>
     simp only [sbB, qbL] at e3
     obtain ⟨l', e3, rfl⟩ := e3
     obtain ⟨b, vs, q1, q2, q3, q4⟩ := hk2
     obtain ⟨g1, g2⟩ := v5 l l' e3
     refine ⟨b, vs, q1, q2, by omega, fun j' d v hj hv => ?_⟩
     obtain ⟨x, hx, hx2⟩ := g2 j' d hj
     refine rep2 x v d (q4 j' x v hx hv) (fun hV => ?_) hx2
     have := hfl hV
     rw [← h2] at this
     exact uA (qbX.1 this _ (qb7 e2)) hx
    | arx T sz n l =>
     simp only [sbB, qbL] at e3
     obtain ⟨l', e3, rfl⟩ := e3
     obtain ⟨vs, q2, q3, q4⟩ := hk2
     obtain ⟨g1, g2⟩ := v5 l l' e3
     refine ⟨vs, q2, by omega, fun j' d v hj hv => ?_⟩
     obtain ⟨x, hx, hx2⟩ := g2 j' d hj
     refine rep2 x v d (q4 j' x v hx hv) (fun hV => ?_) hx2
     have := hfl hV
     rw [← h2] at this
     exact uA (qbX.1 this _ (qb7 e2)) hx
    | obj o => cases e3; exact hk2
    | mit d0 n0 seen =>
     simp only [sbB, qbL] at e3
     obtain ⟨d', e3, rfl⟩ := e3
     obtain ⟨b, bm, q1, q2, q3⟩ := hk2
     refine ⟨b, bm, q1, q2, rep2 d0 _ d' q3 (fun hV => ?_) e3⟩
     have := hfl hV
     rw [← h2] at this
     exact qbX.1 this _ (qb7 e2)
    | mpd ks l =>
     simp only [sbB, qbL] at e3
     obtain ⟨l', e3, rfl⟩ := e3
     obtain ⟨b, vs, q1, q2, q3, q4⟩ := hk2
     obtain ⟨g1, g2⟩ := v5 l l' e3
     refine ⟨b, vs, q1, q2, ⟨by omega, by omega⟩, fun j' d v hj hv => ?_⟩
     obtain ⟨x, hx, hx2⟩ := g2 j' d hj
     refine rep2 x v d (q4 j' x v hx hv) (fun hV => ?_) hx2
     have := hfl hV
     rw [← h2] at this
     exact uA (qbX.1 this _ (qb7 e2)) hx
    | fam Bs => cases e3; exact hk2
    | glob g L =>
     cases e3
     refine ⟨hk2.1, ⟨hk2.2.1, fun hVis => ?_⟩, hk2.2.2⟩
     obtain ⟨q, kq, hq, v1, _⟩ := hVis
     have := hfl ⟨q, v1⟩
     rw [← h2] at this
     have := qbX.1 this _ (qb7 e2)
     cases this
    | lp g n F ps asg body st pe =>
     simp only [sbB, qbL] at e3
     obtain ⟨F', e3, rfl⟩ := e3
     obtain ⟨b, fn, tmps, Df, q1, q2, q3, q4⟩ := hk2
     refine ⟨b, fn, tmps, Df, q1, q2, q3, fun t' d hd => ?_⟩
     obtain ⟨x, hx, hx2, hx3⟩ := Gn F F' e3 t' d hd
     refine rep2 x _ d (q4 t' x hx) (fun hV => hx3 ?_) hx2
     have := hfl hV
     rw [← h2] at this
     exact qbX.1 this _ (qb7 e2)
   ·cases e3
    show h = .nilFunc
    have : h2' = .nilFunc := hk2
    have h3 := Gt (s := s) (s2 := s2) (σ := σ) (V := V) (M3 := M3) hn e1 (by rw [lenM]; exact ilt i hi) e5
    rw [hh] at h3
    rw [qbw h3]
    exact this
   ·cases e3
    trivial
  ·obtain ⟨e1, e2⟩ := outτ i k h hi hk hh
   refine BlkOk.monoK (s := s) (s' := back s s2 σ V ν M3) hnd upI imm (ho.blk i k h e1 e2) fun b hl hbb => ?_
   have hls := qq e1 hl e2 hbb
   refine t.keep b (ho.lt b hls).1 fun hv => ?_
   obtain ⟨i', k', h', f0, f1, f2, f3, f4⟩ := yO ho hMin hv
   have := ho.inj i i' k k' h h' b e1 hl e2 hbb f1 f2 f3 f4
   subst this
   exact hi (List.mem_append_left _ f0)
 ·rintro b ⟨i, k, h, e1, e2, e3, e4⟩
  by_cases hi : i ∈ σ ++ ν
  ·obtain ⟨j, k2, f1, f2, f3, f4, f5⟩ := lvτ i k h b hi e1 e2 e3 e4
   obtain ⟨g1, g2⟩ := t.ok.lt b (qq f2 f3 f4 f5)
   exact ⟨g1, fun hI => g2 hI.1⟩
  ·obtain ⟨f1, f2⟩ := outτ i k h hi e1 e3
   have hls := qq f1 e2 f2 e4
   obtain ⟨g1, g2⟩ := ho.lt b hls
   refine ⟨Nat.lt_of_lt_of_le g1 t.size, fun hI => ?_⟩
   rcases t.new b hI.1 with (hn1 | hn1) | hn1 | hn1
   ·exact g2 hn1
   ·exact hI.2 hn1
   ·exact absurd g1 (Nat.not_lt.2 hn1)
   ·obtain ⟨i', k', h', f0, f1', f2', f3', f4'⟩ := yO ho hMin hn1
    have := ho.inj i i' k k' h h' b f1 e2 f2 e4 f1' f2' f3' f4'
    subst this
    exact hi (List.mem_append_left _ f0)
 ·intro i i' k k' h h' b a1 a2 a3 a4 b1 b2 b3 b4
  by_cases hi : i ∈ σ ++ ν
  ·obtain ⟨j, k2, f1, f2, f3, f4, f5⟩ := lvτ i k h b hi a1 a2 a3 a4
   by_cases hi' : i' ∈ σ ++ ν
   ·obtain ⟨j', k2', f1', f2', f3', f4', f5'⟩ := lvτ i' k' h' b hi' b1 b2 b3 b4
    have := t.ok.inj j j' k2 k2' h h' b f2 f3 f4 f5 f2' f3' f4' f5'
    subst this
    rw [f1] at f1'
    exact qbw f1'
   ·obtain ⟨g1, g2⟩ := outτ i' k' h' hi' b1 b3
    exact absurd (qq f2 f3 f4 f5) (apart i' k' h' b hi' g1 b2 g2 b4)
  ·obtain ⟨g1, g2⟩ := outτ i k h hi a1 a3
   by_cases hi' : i' ∈ σ ++ ν
   ·obtain ⟨j', k2', f1', f2', f3', f4', f5'⟩ := lvτ i' k' h' b hi' b1 b2 b3 b4
    exact absurd (qq f2' f3' f4' f5') (apart i k h b hi g1 a2 g2 a4)
   ·obtain ⟨g1', g2'⟩ := outτ i' k' h' hi' b1 b3
    exact ho.inj i i' k k' h h' b g1 a2 g2 a4 g1' b2 g2' b4
 ·intro b hI
  exact t.ok.il b hI.1
 ·intro b hI
  rcases t.new b hI.1 with (h | h) | h | h
  ·exact .inl h
  ·exact absurd h hI.2
  ·exact .inr (.inl h)
  ·exact .inr (.inr (live1 b h))
 ·intro b hb hl
  exact t.keep b hb fun h => hl (live1 b h)
 ·intro b hb
  rcases lv3 b hb with h | h
  ·rcases lv2 b h with h | h
   ·exact .inl h
   ·exact .inr (live1 b h)
  ·exact .inr h
theorem WP {pc : Bool} {o : Oper} {F : Fr} {M : List Blk} {asL : List Operand} {d1 d2 ds cargs : List D} {σ V : List Nat} {Min : List Blk} (hds : EvL pc F asL ds)
  (hc : vwL σ (fun i => V.contains i) M (d1 ++ ds ++ d2) = some cargs) (hp : pc = true) {a : Act} {s : St} (hok : Ok s) (hops : ∀ x ∈ o.op.operands, ∀ d, ev F x = some d → Rep s d (a.eval x)) (hopx : ∀ y ∈ asL, y ∈ o.op.operands)
  (hVM : ∀ i, V.contains i = true → M[i]? = s.M[i]?) {f : Fn} {vs us : List Value} (hr : Rep s (.fn f d1 d2) (.func f vs.toArray us.toArray)) :
  Reps (vst s σ (fun i => V.contains i) Min) cargs (vs ++ asL.map a.eval ++ us) := by
 rw [gm hVM] at hc
 have hra := gv (a := a) (s := s) hp asL ds hds (fun y hy => hops y (hopx y hy))
 generalize hvs : vs.toArray = va at hr
 generalize hus : us.toArray = ua at hr
 cases hr with
 | @fn _ _ _ vs' us' hl1 hl2 hr1 hr2 =>
  have e1 : vs' = vs := by simpa using congrArg Array.toList hvs.symm
  have e2 : us' = us := by simpa using congrArg Array.toList hus.symm
  subst e1 e2
  have hall : Reps s (d1 ++ ds ++ d2) (vs' ++ asL.map a.eval ++ us') := by
   refine ⟨by simp [hl1, hl2, hra.1], fun j e v hj hv => ?_⟩
   have hra1 := hra.1
   by_cases h1 : j < d1.length
   ·rw [qbY, qbI h1] at hj
    rw [qbY, qbI (by omega)] at hv
    exact hr1 j e v hj hv
   ·by_cases h2 : j < (d1 ++ ds).length
    ·rw [qbI h2, qbO (by omega)] at hj
     simp at h2 hra1
     rw [qbI (by simp; omega), qbO (by omega), hl1] at hv
     exact hra.2 _ e v hj hv
    ·rw [qbO (by omega)] at hj
     simp at h2 hra1
     rw [qbO (by simp; omega)] at hv
     simp only [qbz, qcf] at hj hv
     rw [hl1, hra1] at hv
     exact hr2 _ e v hj hv
  obtain ⟨g1, g2⟩ := yl _ _ hc
  refine ⟨by rw [hall.1, g1], fun j e v hj hv => ?_⟩
  obtain ⟨y, hy, hy2⟩ := g2 j e hj
  exact j8 hok (hall.2 j y v hy hv) e hy2
def DPan (P : Program) (f : FuncId) (args : List D) (Min : List Blk) (d : D) (Mout : List Blk) : Prop :=
 DCalls P f args Min (fun _ _ => False) (fun d' M' => d' = d ∧ M' = Mout)
theorem zr {pc : Bool} {o : Oper} {F : Fr} {M : List Blk} {x : Operand} {asL : List Operand} {tys : Array TypeId} {g : FuncId} {d1 d2 ds cargs : List D} (σ V ν : List Nat) {Min : List Blk} {post pan : D → List Blk → Prop}
  (ho : o.op = .call { callee := .value x, args := asL.toArray, argTypes := tys }) (hx : Ev pc F x (.fn (.func g) d1 d2)) (hds : EvL pc F asL ds)
  (hc : vwL σ (fun i => V.contains i) M (d1 ++ ds ++ d2) = some cargs) (hMin : gl σ (fun i => V.contains i) M σ = some Min) (hf : DCalls P g cargs Min post pan)
  (hlive : Min.all (·.live) = true) (hn : decide (σ ++ ν).Nodup = true) (hν : ν.all (fun i => match M[i]? with | some .hole => true | _ => false) = true)
  (hp : pc = true) (a : Act) (s : St) (hok : Ok s) (hops : ∀ x ∈ o.op.operands, ∀ d, ev F x = some d → Rep s d (a.eval x)) (hfp : ∀ i ∈ σ ++ V ++ ν, s.M[i]? = M[i]?) :
  ∃ args, (execOp a.eval o).run P s.w = .ok (.enter g args) s.w ∧ Calls P g args s.w fun e w'' => ∃ s2, s2.w = w'' ∧ Tr (vst s σ (fun i => V.contains i) Min) s2 ∧
   ((∃ d v, e = .returned v ∧ Rep s2 d v ∧ post d s2.M) ∨ (∃ d v, e = .panicked [{ v := v, recovered := false }] ∧ Rep s2 d v ∧ pan d s2.M)) ∧
   ∀ (Mout : List Blk) (wr : List (Nat × Blk)), s2.M = Mout → yt (σ ++ ν) (σ ++ ν) Mout = some wr → ((∃ i, V.contains i = true) → Mout.all (·.fl) = true) →
    Tr s (back s s2 σ (fun i => V.contains i) ν (upd s.M wr)) ∧ ∀ d' v d, Rep s2 d' v → ((∃ i, V.contains i = true) → d'.fl = true) → sb (σ ++ ν) d' = some d → Rep (back s s2 σ (fun i => V.contains i) ν (upd s.M wr)) d v := by
 have hn' : (σ ++ ν).Nodup := of_decide_eq_true hn
 have hnσ := (List.nodup_append.1 hn').1
 have hVM : ∀ i, V.contains i = true → M[i]? = s.M[i]? := fun i hi => (hfp i (by simp at hi; simp [hi])).symm
 have hMin' := hMin
 rw [vu hVM σ (fun i hi => (hfp i (by simp [hi])).symm)] at hMin
 have hopx : x ∈ o.op.operands ∧ ∀ y ∈ asL, y ∈ o.op.operands := by rw [ho]; simp [Op.operands, Call.operands]; intro y hy; exact .inr hy
 obtain ⟨dx, ex1, ex2⟩ := hx
 have hrx := ex2 s _ hp (hops x hopx.1 dx ex1)
 have hrx' := hrx
 generalize hvx : a.eval x = vx at hrx
 cases hrx with
 | @fn _ _ _ vs us hl1 hl2 hr1 hr2 =>
  have hrun := WN (P := P) (w := s.w) ho hvx hf.1
  rw [hvx] at hrx'
  have hcr := WP (Min := Min) hds hc hp hok hops hopx.2 hVM hrx'
  refine ⟨_, hrun, ?_⟩
  have hcall := hf.2 (vst s σ (fun i => V.contains i) Min) (vs ++ asL.map a.eval ++ us) (vp hok hMin hnσ) rfl hcr
  have e : (vs.toArray ++ (asL.map a.eval).toArray ++ us.toArray : Array Value) = (vs ++ asL.map a.eval ++ us).toArray := by simp
  rw [e]
  refine Calls.mono hcall ?_
  rintro e' w' ⟨s2, rfl, ht, hres⟩
  refine ⟨s2, rfl, ht, hres, fun Mout wr hM2 hwr hfl => ?_⟩
  have hν' : ∀ i ∈ ν, s.M[i]? = some .hole := fun i hi => by
   have h1 := qbX.1 hν i hi
   rw [hfp i (by simp [hi])]
   split at h1
   ·rename_i h2; exact h2
   ·cases h1
  exact gD (M3 := upd s.M wr) hok hMin hlive hn' hν' ht hM2 hwr rfl hfl
theorem flV {V : List Nat} {d0 : D} {Mout : List Blk} (hfl : (V.isEmpty || (d0.fl && Mout.all (·.fl))) = true) : (∃ i, V.contains i = true) → d0.fl = true ∧ Mout.all (·.fl) = true := by
 rintro ⟨i, hi⟩
 cases V with
 | nil => simp at hi
 | cons y V => simpa using hfl
theorem zaj {pc : Bool} {o : Oper} {F : Fr} {M : List Blk} {x : Operand} {asL : List Operand} {tys : Array TypeId} {g : FuncId} {d1 d2 ds cargs : List D} (σ V ν : List Nat) {Min Mout : List Blk} {d0 d : D} {wr : List (Nat × Blk)}
  (ho : o.op = .call { callee := .value x, args := asL.toArray, argTypes := tys }) (hx : Ev pc F x (.fn (.func g) d1 d2)) (hds : EvL pc F asL ds)
  (hc : vwL σ (fun i => V.contains i) M (d1 ++ ds ++ d2) = some cargs) (hMin : gl σ (fun i => V.contains i) M σ = some Min) (hf : DFun P g cargs Min d0 Mout)
  (hlive : Min.all (·.live) = true) (hn : decide (σ ++ ν).Nodup = true) (hν : ν.all (fun i => match M[i]? with | some .hole => true | _ => false) = true)
  (hwr : yt (σ ++ ν) (σ ++ ν) Mout = some wr) (hd : sb (σ ++ ν) d0 = some d) (hfl : (V.isEmpty || (d0.fl && Mout.all (·.fl))) = true) : DOp P pc o F M (σ ++ V ++ ν) d wr := by
 intro hp a s hok hops hfp
 obtain ⟨args, h1, h2⟩ := zr (P := P) σ V ν ho hx hds hc hMin hf hlive hn hν hp a s hok hops hfp
 rw [h1]
 refine ⟨rfl, h2.mono ?_⟩
 rintro e' w' ⟨s2, rfl, ht, (⟨d', v, rfl, hr, rfl, hM2⟩ | ⟨_, _, _, _, hno⟩), hback⟩
 ·obtain ⟨q1, q2⟩ := hback Mout wr hM2 hwr fun h => (flV hfl h).2
  exact ⟨back s s2 σ (fun i => V.contains i) ν (upd s.M wr), v, rfl, rfl, q1, rfl, q2 d' v d hr (fun h => (flV hfl h).1) hd⟩
 ·exact hno.elim
theorem qw {pc : Bool} {o : Oper} {F : Fr} {M : List Blk} {x : Operand} {asL : List Operand} {tys : Array TypeId} {g : FuncId} {d1 d2 ds cargs : List D} (σ V ν : List Nat) {Min Mout : List Blk} {d0 d : D} {wr : List (Nat × Blk)}
  (ho : o.op = .call { callee := .value x, args := asL.toArray, argTypes := tys }) (hx : Ev pc F x (.fn (.func g) d1 d2)) (hds : EvL pc F asL ds)
  (hc : vwL σ (fun i => V.contains i) M (d1 ++ ds ++ d2) = some cargs) (hMin : gl σ (fun i => V.contains i) M σ = some Min) (hf : DPan P g cargs Min d0 Mout)
  (hlive : Min.all (·.live) = true) (hn : decide (σ ++ ν).Nodup = true) (hν : ν.all (fun i => match M[i]? with | some .hole => true | _ => false) = true)
  (hwr : yt (σ ++ ν) (σ ++ ν) Mout = some wr) (hd : sb (σ ++ ν) d0 = some d) (hfl : (V.isEmpty || (d0.fl && Mout.all (·.fl))) = true) : DOpP P pc o F M (σ ++ V ++ ν) d wr := by
 intro hp a s hok hops hfp
 obtain ⟨args, h1, h2⟩ := zr (P := P) σ V ν ho hx hds hc hMin hf hlive hn hν hp a s hok hops hfp
 rw [h1]
 refine ⟨rfl, h2.mono ?_⟩
 rintro e' w' ⟨s2, rfl, ht, (⟨_, _, _, _, hno⟩ | ⟨d', v, rfl, hr, rfl, hM2⟩), hback⟩
 ·exact hno.elim
 ·obtain ⟨q1, q2⟩ := hback Mout wr hM2 hwr fun h => (flV hfl h).2
  exact ⟨back s s2 σ (fun i => V.contains i) ν (upd s.M wr), v, rfl, rfl, q1, rfl, q2 d' v d hr (fun h => (flV hfl h).1) hd⟩
end
end Go.Proofs.YtofklkbfkoliiaaGreat
namespace Go.Proofs.YtofklkbfkoliiaaGreat
set_option linter.unusedVariables false
set_option linter.unusedSimpArgs false
open Go.RowKit
def Lex (P : Program) (ops : Array Oper) : List Oper → List (List Nat × List Nat) → Fr → List Blk → (Fr → List Blk → Prop) → Prop
 | [], _, F, M, Q => Q F M
 | _ :: _, [], _, _, _ => False
 | o :: rest, (fp, wi) :: fps, F, M, Q => ∃ pc d wr, Gd ops o F pc ∧ DOp P pc o F M fp d wr ∧ wr.map (·.1) = wi ∧ (pc = false → wr = []) ∧ Lex P ops rest fps (putF o.dst (gdd o pc d) F) (upd M wr) Q
theorem YK {P : Program} {ops : Array Oper} {o : Oper} {rest : List Oper} {fp wi : List Nat} {fps : List (List Nat × List Nat)} {F : Fr} {M : List Blk} {Q : Fr → List Blk → Prop} {d : D} {wr : List (Nat × Blk)} (hg : o.guard = none) (h : DOp P true o F M fp d wr) (hw : wr.map (·.1) = wi)
  (hk : Lex P ops rest fps (putF o.dst d F) (upd M wr) Q) : Lex P ops (o :: rest) ((fp, wi) :: fps) F M Q :=
by
 unfold Lex
 refine ⟨true, d, wr, gd_n hg, h, hw, (fun h => by cases h), ?_⟩
 unfold gdd; rw [hg]; exact hk
theorem lex_g {P : Program} {ops : Array Oper} {o : Oper} {rest : List Oper} {fp : List Nat} {fps : List (List Nat × List Nat)} {F : Fr} {M : List Blk} {Q : Fr → List Blk → Prop} {pc : Bool} {d : D} (hg : Gd ops o F pc) (hn : o.guard.isSome = true) (h : DOp P pc o F M fp d [])
  (hk : Lex P ops rest fps (putF o.dst (.opt pc d) F) M Q) : Lex P ops (o :: rest) ((fp, []) :: fps) F M Q :=
by
 unfold Lex
 refine ⟨pc, d, [], hg, h, rfl, fun _ => rfl, ?_⟩
 unfold gdd
 cases e : o.guard with
 | none => rw [e] at hn; cases hn
 | some x => exact hk
theorem zad {P : Program} {ops : Array Oper} {o : Oper} {rest : List Oper} {fp : List Nat} {fps : List (List Nat × List Nat)} {F : Fr} {M : List Blk} {Q : Fr → List Blk → Prop} {d : D} {t : Nat} (hg : o.guard = none) (hd : o.dst = some t) (h : DOp P true o F M fp d [])
  (hk : Lex P ops rest fps ((t, d) :: F) M Q) : Lex P ops (o :: rest) ((fp, []) :: fps) F M Q := YK hg h rfl (by rw [hd]; exact hk)
theorem gE {P : Program} {ops : Array Oper} {o : Oper} {rest : List Oper} {fp wi : List Nat} {fps : List (List Nat × List Nat)} {F : Fr} {M M' : List Blk} {Q : Fr → List Blk → Prop} {d : D} {t : Nat} {wr : List (Nat × Blk)} (hg : o.guard = none) (hd : o.dst = some t) (h : DOp P true o F M fp d wr) (hw : wr.map (·.1) = wi) (hM : upd M wr = M')
  (hk : Lex P ops rest fps ((t, d) :: F) M' Q) : Lex P ops (o :: rest) ((fp, wi) :: fps) F M Q := YK hg h hw (by rw [hd, hM]; exact hk)
theorem j0 {P : Program} {ops : Array Oper} {o : Oper} {rest : List Oper} {fp wi : List Nat} {fps : List (List Nat × List Nat)} {F : Fr} {M M' : List Blk} {Q : Fr → List Blk → Prop} {d : D} {wr : List (Nat × Blk)} (hg : o.guard = none) (hd : o.dst = none) (h : DOp P true o F M fp d wr) (hw : wr.map (·.1) = wi) (hM : upd M wr = M')
  (hk : Lex P ops rest fps F M' Q) : Lex P ops (o :: rest) ((fp, wi) :: fps) F M Q := YK hg h hw (by rw [hd, hM]; exact hk)
theorem qj {P : Program} {ops : Array Oper} {o : Oper} {rest : List Oper} {fp : List Nat} {fps : List (List Nat × List Nat)} {F : Fr} {M : List Blk} {Q : Fr → List Blk → Prop} {pc : Bool} {d : D} {t : Nat} (hg : Gd ops o F pc) (hn : o.guard.isSome = true) (hd : o.dst = some t) (h : DOp P pc o F M fp d [])
  (hk : Lex P ops rest fps ((t, .opt pc d) :: F) M Q) : Lex P ops (o :: rest) ((fp, []) :: fps) F M Q := lex_g hg hn h (by rw [hd]; exact hk)
theorem qk {P : Program} {ops : Array Oper} {F : Fr} {M : List Blk} {Q : Fr → List Blk → Prop} (h : Q F M) : Lex P ops [] [] F M Q := h
def Kx (acc : List Nat) : List Edge → Nat → Nat
 | [], s => s
 | e :: r, s => Kx acc r (if Region.binds .any e then s ||| 2 ^ e.on ||| acc.getD e.on 0 else s)
def zt : List Oper → List Nat → List Nat
 | [], acc => acc
 | o :: r, acc => zt r (acc ++ [Kx acc o.after.toList 0])
theorem Ky (acc : List Nat) (i : Nat) : ∀ (l : List Edge) (s : Nat), (Kx acc l s).testBit i = true → s.testBit i = true ∨ ∃ e ∈ l, Region.binds .any e = true ∧ (i = e.on ∨ (acc.getD e.on 0).testBit i = true)
 | [], s, h => .inl h
 | e :: r, s, h => by
  unfold Kx at h
  rcases Ky acc i r _ h with h1 | ⟨e', h1, h2, h3⟩
  ·cases hb : Region.binds .any e with
   | false => rw [hb] at h1; exact .inl (by simpa using h1)
   | true =>
    rw [hb] at h1
    simp only [if_true, Nat.testBit_or, qbE] at h1
    rcases h1 with (h1 | h1) | h1
    ·exact .inl h1
    ·rw [Nat.testBit_two_pow] at h1
     exact .inr ⟨e, qb1 .., hb, .inl (by simpa using (of_decide_eq_true h1).symm)⟩
    ·exact .inr ⟨e, qb1 .., hb, .inr h1⟩
  ·exact .inr ⟨e', qb4 _ h1, h2, h3⟩
theorem zu : ∀ (l : List Oper) (acc : List Nat) (j : Nat), j < acc.length → (zt l acc)[j]? = acc[j]?
 | [], _, _, _ => rfl
 | o :: r, acc, j, h => by
  unfold zt
  rw [zu r _ j (by simp; omega), qbI h]
theorem VI (l : List Oper) : ∀ (acc : List Nat) (k : Nat) (o : Oper), l[k]? = some o →
  ∃ acc' : List Nat, (zt l acc)[acc.length + k]? = some (Kx acc' o.after.toList 0) ∧ acc'.length = acc.length + k ∧ ∀ j, j < acc'.length → (zt l acc)[j]? = acc'[j]? := by
 induction l with
 | nil => intro acc k o h; simp at h
 | cons o r ih =>
  intro acc k p h
  cases k with
  | zero =>
   simp at h
   subst h
   refine ⟨acc, ?_, by simp, fun j hj => zu _ _ j hj⟩
   rw [zt, zu r _ _ (by simp)]
   simp
  | succ k =>
   simp only [List.getElem?_cons_succ] at h
   obtain ⟨acc', h1, h2, h3⟩ := ih (acc ++ [Kx acc o.after.toList 0]) k p h
   simp only [qbz, qbW, qce] at h1 h2
   rw [zt]
   exact ⟨acc', by rw [show acc.length + (k + 1) = acc.length + (0 + 1) + k by omega]; exact h1, by omega, h3⟩
def gF (l : List Oper) (i j : Nat) : Bool := ((zt l []).getD j 0).testBit i
theorem w7 {l : List Oper} {i j : Nat} {o : Oper} (ho : l[j]? = some o) (h : gF l i j = true) : ∃ e ∈ o.after.toList, Region.binds .any e = true ∧ (i = e.on ∨ (e.on < j ∧ gF l i e.on = true)) := by
 unfold gF at h
 obtain ⟨acc', h1, h2, h3⟩ := VI l [] j o ho
 simp only [qce, qbs] at h1 h2
 rw [qbV, h1] at h
 rcases Ky acc' i _ _ (by simpa using h) with h4 | ⟨e, h4, h5, h6⟩
 ·simp at h4
 ·refine ⟨e, h4, h5, h6.imp id fun h6 => ?_⟩
  by_cases hlt : e.on < acc'.length
  ·refine ⟨by omega, ?_⟩
   unfold gF
   rw [qbV, h3 e.on hlt, ← qbV]
   exact h6
  ·rw [qbV, qb2 (by omega)] at h6
   simp at h6
def gn (ops : Array Oper) (o : Oper) : List Nat := o.looksAt ops ++ o.dst.toList
def g8 (a b : List Nat) : Bool := a.any fun x => b.contains x
def Jv (ops : Array Oper) (bj : Nat) (i : Nat) (oi oj : Oper) (fi fj : List Nat × List Nat) : Bool :=
 bj.testBit i || !(g8 oi.dst.toList (gn ops oj) || g8 (gn ops oi) oj.dst.toList || g8 fi.2 fj.1 || g8 fi.1 fj.2)
def WQ (n : Nat) (l : List Oper) (fps : List (List Nat × List Nat)) : Bool :=
 let bs := zt l []
 fps.length == l.length && (qb5 l.length).all fun j =>
  match l[j]?, fps[j]? with
  | some oj, some fj => oj.after.all (fun e => !Region.binds .any e || qcj e.on j) && Jp n oj.dst && gC oj.op && fj.2.all (fun x => fj.1.contains x) && (qb5 j).all fun i =>
   match l[i]?, fps[i]? with
   | some oi, some fi => Jv l.toArray (bs.getD j 0) i oi oj fi fj
   | _, _ => false
  | _, _ => false
structure Rc where
 d : D
 wr : List (Nat × Blk)
def vv : List (Nat × Blk) → Nat → Option Blk
 | [], _ => none
 | (j, k) :: r, i => (vv r i).or (if j = i then some k else none)
theorem wF : ∀ (wr : List (Nat × Blk)) (M : List Blk) (i : Nat), i < M.length → (upd M wr)[i]? = (vv wr i).or M[i]?
 | [], _, _, _ => by simp [upd, vv]
 | (j, k) :: r, M, i, h => by
  rw [upd, wF r _ i (by simpa using h), vv, Option.or_assoc]
  congr 1
  by_cases e : j = i
  ·subst e; simp [h]
  ·simp [e]
theorem jL : ∀ (wr : List (Nat × Blk)) (i : Nat), i ∉ wr.map (·.1) → vv wr i = none
 | [], _, _ => rfl
 | (j, k) :: r, i, h => by
  simp only [List.map_cons, List.mem_cons, not_or] at h
  rw [vv, jL r i h.2, if_neg (Ne.symm h.1)]; rfl
def lkS (l : List Oper) (E : List Rc) (F : Fr) (p : Nat → Bool) (t : Nat) : Nat → Option D
 | 0 => lk F t
 | k + 1 => match l[k]?, E[k]? with
  | some o, some r => if p k = true ∧ o.dst = some t then some r.d else lkS l E F p t k
  | _, _ => lkS l E F p t k
def yn (E : List Rc) (M : List Blk) (p : Nat → Bool) (i : Nat) : Nat → Option Blk
 | 0 => M[i]?
 | k + 1 => match E[k]? with
  | some r => if p k = true then (vv r.wr i).or (yn E M p i k) else yn E M p i k
  | none => yn E M p i k
section
variable {l : List Oper} {E : List Rc} {F : Fr} {M : List Blk}
theorem j5 {p q : Nat → Bool} {t : Nat} : ∀ k, (∀ j o, j < k → l[j]? = some o → o.dst = some t → p j = q j) → lkS l E F p t k = lkS l E F q t k
 | 0, _ => rfl
 | k + 1, h => by
  have ih := j5 k fun j o hj => h j o (by omega)
  unfold lkS
  cases hl : l[k]? with
  | none => exact ih
  | some o =>
   cases E[k]? with
   | none => exact ih
   | some r =>
    simp only
    by_cases hd : o.dst = some t
    ·rw [h k o (by omega) hl hd, ih]
    ·simp [hd, ih]
theorem yh {p : Nat → Bool} {t : Nat} (i : Nat) : ∀ k, i ≤ k → (∀ j o, i ≤ j → j < k → l[j]? = some o → o.dst = some t → p j = false) → lkS l E F p t k = lkS l E F p t i
 | 0, hk, _ => by
  obtain rfl : i = 0 := by omega
  rfl
 | k + 1, hk, h => by
  by_cases e : i = k + 1
  ·subst e; rfl
  ·rw [← yh i k (by omega) fun j o h1 h2 => h j o h1 (by omega)]
   conv => lhs; unfold lkS
   cases hl : l[k]? with
   | none => rfl
   | some o =>
    cases E[k]? with
    | none => rfl
    | some r =>
     simp only
     rw [if_neg]
     rintro ⟨h1, h2⟩
     rw [h k o (by omega) (by omega) hl h2] at h1
     cases h1
theorem jF {p q : Nat → Bool} {i : Nat} : ∀ k, (∀ (j : Nat) r, j < k → E[j]? = some r → (vv r.wr i).isSome = true → p j = q j) → yn E M p i k = yn E M q i k
 | 0, _ => rfl
 | k + 1, h => by
  have ih := jF k fun j r hj => h j r (by omega)
  unfold yn
  cases he : E[k]? with
  | none => exact ih
  | some r =>
   simp only
   cases hw : vv r.wr i with
   | none => simp [ih]
   | some x => rw [h k r (by omega) he (by simp [hw]), ih]
theorem jM {p : Nat → Bool} {i : Nat} (m : Nat) : ∀ k, m ≤ k → (∀ (j : Nat) r, m ≤ j → j < k → E[j]? = some r → (vv r.wr i).isSome = true → p j = false) → yn E M p i k = yn E M p i m
 | 0, hk, _ => by
  obtain rfl : m = 0 := by omega
  rfl
 | k + 1, hk, h => by
  by_cases e : m = k + 1
  ·subst e; rfl
  ·rw [← jM m k (by omega) fun j r h1 h2 => h j r h1 (by omega)]
   conv => lhs; unfold yn
   cases he : E[k]? with
   | none => rfl
   | some r =>
    simp only
    cases hw : vv r.wr i with
    | none => simp
    | some x => rw [h k r (by omega) (by omega) he (by simp [hw])]; simp
def Fup (l : List Oper) (E : List Rc) (F : Fr) : Nat → Fr
 | 0 => F
 | k + 1 => match l[k]?, E[k]? with
  | some o, some r => putF o.dst r.d (Fup l E F k)
  | _, _ => Fup l E F k
def Mup (E : List Rc) (M : List Blk) : Nat → List Blk
 | 0 => M
 | k + 1 => match E[k]? with
  | some r => upd (Mup E M k) r.wr
  | none => Mup E M k
theorem Mup_len : ∀ k, (Mup E M k).length = M.length
 | 0 => rfl
 | k + 1 => by
  unfold Mup
  cases E[k]? with
  | none => exact Mup_len k
  | some r => simp only; rw [wD, Mup_len k]
theorem Zj (dst : Option Tmp) (d : D) (F : Fr) (t : Nat) : lk (putF dst d F) t = if dst = some t then some d else lk F t := by
 cases dst with
 | none => simp [putF]
 | some x => show lk ((x, d) :: F) t = _; rw [jx]; simp
theorem w8 (t : Nat) : ∀ k, lk (Fup l E F k) t = lkS l E F (fun _ => true) t k
 | 0 => rfl
 | k + 1 => by
  have ih := w8 t k
  unfold Fup lkS
  cases l[k]? with
  | none => exact ih
  | some o =>
   cases E[k]? with
   | none => exact ih
   | some r => simp only; rw [Zj, ih]; simp
theorem w9 (i : Nat) (hi : i < M.length) : ∀ k, (Mup E M k)[i]? = yn E M (fun _ => true) i k
 | 0 => rfl
 | k + 1 => by
  have ih := w9 i hi k
  unfold Mup yn
  cases E[k]? with
  | none => exact ih
  | some r => simp only; rw [wF _ _ _ (by rw [Mup_len]; exact hi), ih]; simp
end
theorem zw {P : Program} {ops : Array Oper} {Q : Fr → List Blk → Prop} : ∀ (l : List Oper) (fps : List (List Nat × List Nat)) (F : Fr) (M : List Blk), fps.length = l.length → Lex P ops l fps F M Q →
  ∃ E : List Rc, E.length = l.length ∧ Q (Fup l E F l.length) (Mup E M l.length) ∧ ∀ (k : Nat) o f, l[k]? = some o → fps[k]? = some f → ∃ pc d r, E[k]? = some r ∧ r.d = gdd o pc d ∧ Gd ops o (Fup l E F k) pc ∧ DOp P pc o (Fup l E F k) (Mup E M k) f.1 d r.wr ∧ r.wr.map (·.1) = f.2 ∧ (pc = false → r.wr = [])
 | [], [], F, M, _, h => ⟨[], rfl, h, fun k o f hk => by simp at hk⟩
 | o :: l, (fp, wi) :: fps, F, M, hl, h => by
  obtain ⟨pc, d, wr, h1, h2, h3, h4, h5⟩ := h
  obtain ⟨E, e1, e2, e3⟩ := zw l fps _ _ (by simpa using hl) h5
  have fup : ∀ k, Fup (o :: l) (⟨gdd o pc d, wr⟩ :: E) F (k + 1) = Fup l E (putF o.dst (gdd o pc d) F) k := by
   intro k
   induction k with
   | zero => rfl
   | succ k ih =>
    rw [Fup]
    simp only [List.getElem?_cons_succ]
    rw [ih]
    conv => rhs; rw [Fup]
  have mup : ∀ k, Mup (⟨gdd o pc d, wr⟩ :: E) M (k + 1) = Mup E (upd M wr) k := by
   intro k
   induction k with
   | zero => rfl
   | succ k ih =>
    rw [Mup]
    simp only [List.getElem?_cons_succ]
    rw [ih]
    conv => rhs; rw [Mup]
  refine ⟨⟨gdd o pc d, wr⟩ :: E, by simp [e1], by rw [qbW, fup, mup]; exact e2, fun k p f hk hf => ?_⟩
  cases k with
  | zero =>
   simp at hk hf
   subst hk; subst hf
   exact ⟨pc, d, _, rfl, rfl, h1, h2, h3, h4⟩
  | succ k =>
   rw [fup, mup]
   simpa using e3 k p f (by simpa using hk) (by simpa using hf)
 | [], _ :: _, _, _, hl, _ => by simp at hl
 | _ :: _, [], _, _, hl, _ => by simp at hl
theorem yX {listed : Array Bool} {m i : Nat} (hs : listed.size = m) (hi : i < m) : listed.getD i true = listed.getD i false := by
 subst hs; simp [hi]
def unl (listed : Array Bool) : Nat → Nat
 | 0 => 0
 | k + 1 => (if listed.getD k false = true then 0 else 1) + unl listed k
theorem v7 {listed : Array Bool} : ∀ k, unl listed k = 0 → ∀ i, i < k → listed.getD i false = true
 | k + 1, h, i, hi => by
  unfold unl at h
  by_cases e : i = k
  ·subst e; split at h
   ·assumption
   ·omega
  ·exact v7 k (by omega) i (by omega)
theorem uD {listed : Array Bool} : ∀ k, unl listed k ≠ 0 → ∃ i, i < k ∧ listed.getD i false = false ∧ ∀ j, j < i → listed.getD j false = true
 | 0, h => absurd rfl h
 | k + 1, h => by
  by_cases e : unl listed k = 0
  ·have h0 := v7 k e
   unfold unl at h
   refine ⟨k, by omega, ?_, h0⟩
   split at h
   ·omega
   ·rename_i hn; simpa using hn
  ·obtain ⟨i, h1, h2, h3⟩ := uD k e
   exact ⟨i, by omega, h2, h3⟩
theorem uE (listed : Array Bool) (i j : Nat) (hi : i < listed.size) : (listed.setIfInBounds i true).getD j false = if i = j then true else listed.getD j false := by
 by_cases e : i = j
 ·subst e; simp [hi]
 ·rw [if_neg e, getD_set_ne false e]
theorem xS {listed : Array Bool} {i : Nat} (hi : i < listed.size) (hun : listed.getD i false = false) : ∀ k, unl (listed.setIfInBounds i true) k + (if i < k then 1 else 0) = unl listed k
 | 0 => by simp [unl]
 | k + 1 => by
  have ih := xS hi hun k
  unfold unl
  rw [uE _ _ _ hi]
  by_cases e : i = k
  ·subst e
   have e1 : (if i < i then 1 else 0) = 0 := if_neg (by omega)
   have e2 : (if i < i + 1 then 1 else 0) = 1 := if_pos (by omega)
   rw [e1] at ih
   rw [e2]
   simp only [if_true, hun, Bool.false_eq_true, if_false]
   omega
  ·rw [if_neg e]
   by_cases h1 : i < k
   ·have e1 : (if i < k then 1 else 0) = 1 := if_pos h1
    have e2 : (if i < k + 1 then 1 else 0) = 1 := if_pos (by omega)
    rw [e1] at ih
    rw [e2]
    omega
   ·have e1 : (if i < k then 1 else 0) = 0 := if_neg h1
    have e2 : (if i < k + 1 then 1 else 0) = 0 := if_neg (by omega)
    rw [e1] at ih
    rw [e2]
    omega
theorem wG (m : Nat) : ∀ k, k ≤ m → unl (qb8 m false) k = k
 | 0, _ => rfl
 | k + 1, h => by
  unfold unl
  rw [wG m k (by omega)]
  simp [show k < m by omega]
  omega
theorem qg {P : Program} {s0 : St} {n : Cx} {id : Nat} {l : List Oper} {F : Fr} {M : List Blk} {K : Cont} (fps : List (List Nat × List Nat)) (hm : P.follows .mixedOrders = true) (hB : WQ n.n l fps = true) (h : Lex P l.toArray l fps F M (fun F M => K .normal F M)) :
  dwp P s0 n (.region id l.toArray true) F M K := by
 intro a w hi
 refine wpIn_region_any hm ?_
 simp only [WQ, qbu, beq_iff_eq, qbX, List.mem_range] at hB
 obtain ⟨hlen, hB⟩ := hB
 obtain ⟨E, e1, e2, e3⟩ := zw l fps F M hlen h
 have at_ : ∀ k, k < l.length → ∃ o f, l[k]? = some o ∧ fps[k]? = some f := fun k hk => ⟨l[k], fps[k], qbr hk, qbr (by omega)⟩
 have hone : ∀ (j : Nat) o f, l[j]? = some o → fps[j]? = some f → (∀ e ∈ o.after.toList, Region.binds .any e = true → e.on < j) ∧ Jp n.n o.dst = true ∧ gC o.op = true ∧ (∀ x ∈ f.2, x ∈ f.1) ∧ ∀ (i : Nat) oi fi, i < j → l[i]? = some oi → fps[i]? = some fi → gF l i j = true ∨ (g8 oi.dst.toList (gn l.toArray o) = false ∧ g8 (gn l.toArray oi) o.dst.toList = false ∧ g8 fi.2 f.1 = false ∧ g8 fi.1 f.2 = false) := by
  intro j o f ho hf
  have hj : j < l.length := (qbq.1 ho).1
  have h1 := hB j hj
  rw [ho, hf] at h1
  simp only [qbu, qbX, List.mem_range] at h1
  obtain ⟨⟨⟨⟨h1, h2⟩, hnd⟩, h3⟩, h4⟩ := h1
  refine ⟨fun e he hb => ?_, h2, hnd, fun x hx => by simpa using h3 x hx, fun i oi fi hij hoi hfi => ?_⟩
  ·have := Array.all_eq_true_iff_forall_mem.1 h1 e (by simpa using he)
   rw [hb] at this
   exact Nat.blt_eq.mp (by simpa using this)
  ·have h5 := h4 i hij
   rw [hoi, hfi] at h5
   simp only [Jv, qbE, qbx, qbv] at h5
   rcases h5 with h5 | h5
   ·exact .inl h5
   ·exact .inr ⟨h5.1.1.1, h5.1.1.2, h5.1.2, h5.2⟩
 have meet_no : ∀ {x : List Nat} {y : List Nat} {t : Nat}, g8 x y = false → t ∈ x → t ∈ y → False := by
  intro x y t hm hx hy
  simp only [g8, List.any_eq_false] at hm
  exact hm t hx (by simpa using hy)
 have hM0 : ∃ s : St, s.M = M := by obtain ⟨_, s, h1, _⟩ := hi; exact ⟨s, h1⟩
 have main : ∀ (f : Nat) (listed : Array Bool) (b : Act) (s : St), Ok s0 → listed.size = l.length → unl listed l.length = f → Tr s0 s →
   (∀ t d, lkS l E F (fun k => listed.getD k false) t l.length = some d → Rep s d (ju b t)) → s.M.length = M.length → (∀ i, i < M.length → s.M[i]? = yn E M (fun k => listed.getD k false) i l.length) →
   b.tmps.size = n.n → DfOk s0 s n.mks n.U b.defers → (∀ j i, listed.getD j false = true → j < l.length → gF l i j = true → listed.getD i false = true) →
   wpAnyIn (wd (n.ρ s0)) 0 P .any l.toArray (PostK s0 n K) f listed b s.w := by
  intro f
  induction f with
  | zero =>
   intro listed b s h0 hs hu ht hF hMl hM hn hd _
   have hall := v7 _ hu
   refine ⟨?_, ?_⟩
   ·cases hr : Region.ready .any l.toArray listed with
    | nil => rfl
    | cons i r =>
     have hi : i ∈ Region.ready .any l.toArray listed := by rw [hr]; exact qb1 ..
     obtain ⟨h1, o, h2, _⟩ := mem_ready.1 hi
     have hil : i < l.length := by simpa using (Array.getElem?_eq_some_iff.1 h2).1
     rw [yX hs hil, hall i hil] at h1
     cases h1
   ·refine ⟨_, _, ⟨h0, s, ?_, rfl, ht, ?_, hn, hd⟩, e2⟩
    ·refine List.ext_getElem? fun i => ?_
     by_cases hi : i < M.length
     ·rw [hM i hi, w9 i hi]
      exact jF _ fun j r hj _ _ => hall j hj
     ·rw [qb2 (by omega), qb2 (by rw [Mup_len]; omega)]
    ·intro t d hd'
     rw [w8] at hd'
     refine hF t d ?_
     rw [← hd']
     exact j5 _ fun j o hj _ _ => hall j hj
  | succ f ih =>
   intro listed b s h0 hs hu ht hF hMl hM hn hd hcl
   refine ⟨fun hnone => ?_, fun i hi => ?_⟩
   ·exfalso
    obtain ⟨i, h1, h2, h3⟩ := uD l.length (listed := listed) (by omega)
    obtain ⟨o, fi, ho, hfi⟩ := at_ i h1
    obtain ⟨g1, _⟩ := hone i o fi ho hfi
    have : i ∈ Region.ready .any l.toArray listed := mem_ready.2 ⟨by rw [yX hs h1]; exact h2, o, by simpa using ho, fun e he hb => h3 _ (g1 e (by simpa using he) hb)⟩
    rw [hnone] at this
    cases this
   ·obtain ⟨hun, o, ho, hall⟩ := mem_ready.1 hi
    have ho' : l[i]? = some o := by simpa using ho
    have hil : i < l.length := (qbq.1 ho').1
    rw [yX hs hil] at hun
    obtain ⟨fi, hfi⟩ : ∃ fi, fps[i]? = some fi := ⟨fps[i], qbr (by omega)⟩
    obtain ⟨pc, d, r, hr, hrd, hg, hop, hwi, hgw⟩ := e3 i o fi ho' hfi
    obtain ⟨g1, g2, hnd, g3, g4⟩ := hone i o fi ho' hfi
    have done : ∀ j, gF l j i = true → listed.getD j false = true := by
     intro j hj
     obtain ⟨e, he, hb, hcase⟩ := w7 ho' hj
     have h1 := hall e (by simpa using he) hb
     rcases hcase with rfl | ⟨h2, h3⟩
     ·exact h1
     ·exact hcl e.on j h1 (by omega) h3
    have undone : ∀ j, j < l.length → gF l i j = true → listed.getD j false = false := by
     intro j hj h1
     cases e : listed.getD j false with
     | false => rfl
     | true => rw [hcl j i e hj h1] at hun; cases hun
    have tset : ∀ t, t ∈ gn l.toArray o → lkS l E F (fun k => listed.getD k false) t l.length = lkS l E F (fun _ => true) t i := by
     intro t ht
     rw [yh i l.length (by omega) fun j oj h1 h2 hj hjd => ?_]
     ·refine j5 i fun j oj hj hoj hjd => ?_
      obtain ⟨fj, hfj⟩ : ∃ fj, fps[j]? = some fj := ⟨fps[j], qbr (by omega)⟩
      rcases g4 j oj fj hj hoj hfj with h1 | h1
      ·exact done j h1
      ·exact (meet_no h1.1 (by simp [hjd]) ht).elim
     ·by_cases e : j = i
      ·subst e; exact hun
      ·obtain ⟨fj, hfj⟩ : ∃ fj, fps[j]? = some fj := ⟨fps[j], qbr (by omega)⟩
       rcases (hone j oj fj hj hfj).2.2.2.2 i o fi (by omega) ho' hfi with h3 | h3
       ·exact undone j h2 h3
       ·exact (meet_no h3.2.1 ht (by simp [hjd])).elim
    have mset : ∀ x, x ∈ fi.1 → yn E M (fun k => listed.getD k false) x l.length = yn E M (fun _ => true) x i := by
     intro x hx
     have wmem : ∀ (j : Nat) rj fj, E[j]? = some rj → fps[j]? = some fj → j < l.length → (vv rj.wr x).isSome = true → x ∈ fj.2 := by
      intro j rj fj hrj hfj hj hw
      obtain ⟨oj, _, hoj, _⟩ := at_ j hj
      obtain ⟨_, _, r', hr', _, _, _, hw', _⟩ := e3 j oj fj hoj hfj
      rw [hrj] at hr'
      obtain rfl := qbw hr'
      rw [← hw']
      refine Classical.byContradiction fun hno => ?_
      rw [jL _ _ hno] at hw
      cases hw
     rw [jM i l.length (by omega) fun j rj h1 h2 hrj hw => ?_]
     ·refine jF i fun j rj hj hrj hw => ?_
      obtain ⟨oj, fj, hoj, hfj⟩ := at_ j (by omega)
      rcases g4 j oj fj hj hoj hfj with h1 | h1
      ·exact done j h1
      ·exact (meet_no h1.2.2.1 (wmem j rj fj hrj hfj (by omega) hw) hx).elim
     ·by_cases e : j = i
      ·subst e; exact hun
      ·obtain ⟨oj, fj, hoj, hfj⟩ := at_ j (by omega)
       rcases (hone j oj fj hoj hfj).2.2.2.2 i o fi (by omega) ho' hfi with h3 | h3
       ·exact undone j h2 h3
       ·exact (meet_no h3.2.2.2 hx (wmem j rj fj hrj hfj h2 hw)).elim
    have hslot : ∀ t d, t ∈ o.looksAt l.toArray → lk (Fup l E F i) t = some d → Rep s d (ju b t) := by
     intro t d' ht hd'
     refine hF t d' ?_
     rw [tset t (List.mem_append_left _ ht), ← w8]
     exact hd'
    have next : ∀ (s' : St) (v : Value), Tr s s' → s'.M = upd s.M r.wr → Rep s' r.d v → wpAnyIn (wd (n.ρ s0)) 0 P .any l.toArray (PostK s0 n K) f (listed.setIfInBounds i true) (b.put o.dst v) s'.w := by
     intro s' v ht' hM' hrep
     have hset : ∀ k, (listed.setIfInBounds i true).getD k false = if i = k then true else listed.getD k false := fun k => uE _ _ _ (by rw [hs]; exact hil)
     refine ih _ _ s' h0 (by simp [hs]) ?_ (ht.trans ht') ?_ (by rw [hM', wD, hMl]) ?_ (by rw [ga]; exact hn) (by rw [yy]; exact hd.mono ht.ok ht') ?_
     ·have := xS (by rw [hs]; exact hil) hun l.length
      rw [if_pos hil] at this
      omega
     ·intro t d' hd'
      by_cases htd : o.dst = some t
      ·have e : lkS l E F (fun k => (listed.setIfInBounds i true).getD k false) t l.length = some r.d := by
        rw [yh (i + 1) l.length (by omega) fun j oj h1 h2 hj hjd => ?_]
        ·unfold lkS
         rw [ho', hr]
         simp only
         rw [if_pos ⟨by rw [hset, if_pos rfl], htd⟩]
        ·rw [hset, if_neg (by omega)]
         obtain ⟨fj, hfj⟩ : ∃ fj, fps[j]? = some fj := ⟨fps[j], qbr (by omega)⟩
         rcases (hone j oj fj hj hfj).2.2.2.2 i o fi (by omega) ho' hfi with h3 | h3
         ·exact undone j h2 h3
         ·exact (meet_no (t := t) h3.2.1 (List.mem_append_right _ (by simp [htd])) (by simp [hjd])).elim
       rw [e] at hd'
       obtain rfl := qbw hd'
       have hsz : t < b.tmps.size := by
        rw [htd] at g2
        rw [hn]
        exact Nat.blt_eq.mp g2
       rw [htd, yM, if_pos ⟨rfl, hsz⟩]
       exact hrep
      ·have e : ju (b.put o.dst v) t = ju b t := by
        cases hod : o.dst with
        | none => rfl
        | some x => rw [yM, if_neg (fun q => htd (by rw [hod, q.1]))]
       rw [e]
       refine (hF t d' ?_).mono ht.ok ht'
       rw [← hd']
       refine j5 _ fun j oj hj hoj hjd => ?_
       rw [hset]
       by_cases ej : i = j
       ·subst ej
        rw [ho'] at hoj
        obtain rfl := qbw hoj
        exact absurd hjd htd
       ·rw [if_neg ej]
     ·intro x hx
      rw [hM', wF _ _ _ (by omega), hM x hx]
      cases hw : vv r.wr x with
      | none =>
       rw [Option.none_or]
       refine jF _ fun j rj hj hrj hwj => ?_
       rw [hset]
       by_cases ej : i = j
       ·subst ej
        rw [hr] at hrj
        obtain rfl := qbw hrj
        rw [hw] at hwj; cases hwj
       ·rw [if_neg ej]
      | some k =>
       rw [Option.some_or]
       have hxw : x ∈ fi.2 := by
        rw [← hwi]
        refine Classical.byContradiction fun hno => ?_
        rw [jL _ _ hno] at hw
        cases hw
       rw [jM (i + 1) l.length (by omega) fun j rj h1 h2 hrj hwj => ?_]
       ·unfold yn
        rw [hr]
        simp only
        rw [if_pos (by rw [hset, if_pos rfl]), hw, Option.some_or]
       ·rw [hset, if_neg (by omega)]
        obtain ⟨oj, fj, hoj, hfj⟩ := at_ j (by omega)
        rcases (hone j oj fj hoj hfj).2.2.2.2 i o fi (by omega) ho' hfi with h3 | h3
        ·exact undone j h2 h3
        ·refine (meet_no h3.2.2.2 (g3 x hxw) ?_).elim
         obtain ⟨_, _, r', hr', _, _, _, hw', _⟩ := e3 j oj fj hoj hfj
         rw [hrj] at hr'
         obtain rfl := qbw hr'
         rw [← hw']
         refine Classical.byContradiction fun hno => ?_
         rw [jL _ _ hno] at hwj
         cases hwj
     ·intro j k hj hjl hk
      rw [hset] at hj ⊢
      by_cases e : i = k
      ·rw [if_pos e]
      ·rw [if_neg e]
       by_cases ej : i = j
       ·subst ej; exact done k hk
       ·rw [if_neg ej] at hj
        exact hcl j k hj hjl hk
    unfold wpOpIn
    rw [ho]
    simp only
    rw [wE hg hslot]
    cases pc with
    | true =>
     rw [if_pos rfl]
     refine vd hnd (hop rfl b s ht.ok (fun x hx d' hd' => ?_) (fun x hx => ?_)) fun s' v ht' ⟨q1, q2⟩ => next s' v ht' q1 ?_
     ·cases x with
      | tmp t => exact hslot t d' (List.mem_append_left _ (List.mem_filterMap.2 ⟨.tmp t, by simpa using hx, rfl⟩)) hd'
      | const v => obtain rfl := qbw hd'; exact .val v
      | func g => obtain rfl := qbw hd'; exact Rep.fn (vs := []) (us := []) rfl rfl (fun j d v h => by simp at h) (fun j d v h => by simp at h)
      | global g => obtain rfl := qbw hd'; exact .val _
     ·by_cases hxl : x < M.length
      ·rw [hM x hxl, w9 x hxl, mset x hx]
      ·rw [qb2 (by omega), qb2 (by rw [Mup_len]; omega)]
     ·rw [hrd]
      unfold gdd
      split
      ·exact q2
      ·exact .opt (fun _ => q2) (fun h => by cases h)
    | false =>
     rw [if_neg (by simp)]
     have hgs : o.guard.isSome = true := by
      unfold Gd at hg
      cases e : o.guard with
      | none => rw [e] at hg; cases hg
      | some x => rfl
     refine ⟨fun _ _ => trivial, next s undef (Tr.refl ht.ok) (by rw [hgw rfl]; rfl) ?_⟩
     rw [hrd]
     unfold gdd
     split
     ·rename_i e; rw [e] at hgs; cases hgs
     ·exact .opt (fun h => by cases h) (fun _ => rfl)
 obtain ⟨h0, s, h1, h2, h3, h4, h5, h6⟩ := hi
 subst h1 h2
 have hst := wB h3.ok { s.w with drawn := s.w.drawn + 1 } rfl rfl rfl rfl
 have hno : ∀ k, (qb8 l.toArray.size false).getD k false = false := fun k => by
  simp only [Array.getD_eq_getD_getElem?, Array.getElem?_replicate]
  split <;> rfl
 have := main l.length (qb8 l.toArray.size false) a ⟨s.β, s.I, s.M, { s.w with drawn := s.w.drawn + 1 }⟩ h0 (by simp) (by
   have := wG l.toArray.size l.length (by simp)
   exact this) (h3.trans hst) (fun t d hd => ?_) rfl (fun i hi => ?_) h5 (h6.mono h3.ok hst) (fun j i hj => by rw [hno] at hj; cases hj)
 ·simpa using this
 ·rw [yh 0 l.length (by omega) fun j o _ _ _ _ => hno j] at hd
  exact (h4 t d hd).mono h3.ok hst
 ·rw [jM 0 l.length (by omega) fun j r _ _ _ _ => hno j]
  rfl
end Go.Proofs.YtofklkbfkoliiaaGreat
