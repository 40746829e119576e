/- Maps from flat keys to flat data: made, a new key set, measured, gone through in whatever order. Conditions: what the key's type is, by the kernel; A region that draws its order, one of whose operations panics, beside others that only read. Conditions: the kernel's look at its edges; what drawing rests on; the pixels of a canvas that a row of spans has; places gone through, up to a line; a canvas drawn on; what draws; strokes, lines, rectangles. No condition. -/
import Derived.Test.YtjgnalfnginjbaaGreatDoorS5
import Derived.Test.YtjgnalfnginjbaaGreatDoorRows
namespace Go.Proofs.YtjgnalfnginjbaaGreatDoor
set_option linter.unusedVariables false
set_option linter.unusedSimpArgs false
open Go.RowKit
section
variable {α β : Type}
def entQ (en : α → List Value) (ev : β → List Value) : Nat → List (α × β) → List MapEntry
  | _, [] => []
  | o, (a, v) :: r => { key := .agg (en a).toArray, val := .agg (ev v).toArray, born := o } :: entQ en ev (o + 1) r
def mapQ (en : α → List Value) (ev : β → List Value) (m : List (α × β)) : Obj := .map (entQ en ev 0 m).toArray m.length
theorem entQ_len (en : α → List Value) (ev : β → List Value) : ∀ (m : List (α × β)) (o : Nat), (entQ en ev o m).length = m.length
  | [], _ => rfl
  | (a, v) :: r, o => by simp [entQ, entQ_len en ev r]
theorem entQ_app (en : α → List Value) (ev : β → List Value) (k : α) (v : β) : ∀ (m : List (α × β)) (o : Nat), entQ en ev o (m ++ [(k, v)]) = entQ en ev o m ++ [{ key := .agg (en k).toArray, val := .agg (ev v).toArray, born := o + m.length }]
  | [], o => by simp [entQ]
  | (a, w) :: r, o => by simp [entQ, entQ_app en ev k v r, Nat.add_assoc, Nat.add_comm 1]
theorem entQ_mem (en : α → List Value) (ev : β → List Value) : ∀ (m : List (α × β)) (o : Nat) (e : MapEntry), e ∈ entQ en ev o m → ∃ p k v, m[p]? = some (k, v) ∧ e = { key := .agg (en k).toArray, val := .agg (ev v).toArray, born := o + p }
  | [], o, e, h => by simp [entQ] at h
  | (a, w) :: r, o, e, h => by
    rw [entQ] at h
    rcases List.mem_cons.1 h with rfl | h
    · exact ⟨0, a, w, rfl, rfl⟩
    · obtain ⟨p, k, v, h1, rfl⟩ := entQ_mem en ev r (o + 1) e h
      exact ⟨p + 1, k, v, h1, by rw [show o + 1 + p = o + (p + 1) by omega]⟩
theorem entQ_at (en : α → List Value) (ev : β → List Value) : ∀ (m : List (α × β)) (o p : Nat) (k : α) (v : β), m[p]? = some (k, v) → ({ key := .agg (en k).toArray, val := .agg (ev v).toArray, born := o + p } : MapEntry) ∈ entQ en ev o m
  | [], o, p, k, v, h => by simp at h
  | (a, w) :: r, o, p, k, v, h => by
    rw [entQ]
    cases p with
    | zero => simp at h; obtain ⟨rfl, rfl⟩ := h; exact List.mem_cons_self ..
    | succ p =>
      have := entQ_at en ev r (o + 1) p k v (by simpa using h)
      rw [show o + 1 + p = o + (p + 1) by omega] at this
      exact List.mem_cons_of_mem _ this
theorem entQ_born (en : α → List Value) (ev : β → List Value) : ∀ (m : List (α × β)) (o : Nat), (∀ b ∈ (entQ en ev o m).map (·.born), o ≤ b) ∧ ((entQ en ev o m).map (·.born)).Nodup
  | [], o => by simp [entQ]
  | (a, w) :: r, o => by
    obtain ⟨h1, h2⟩ := entQ_born en ev r (o + 1)
    rw [entQ, List.map_cons]
    refine ⟨fun c hc => ?_, List.nodup_cons.2 ⟨fun hm => ?_, h2⟩⟩
    · rcases List.mem_cons.1 hc with rfl | hc
      · exact Nat.le_refl _
      · have := h1 c hc; omega
    · have := h1 o hm; omega
variable [DecidableEq α] {P : Program} {T : TypeId} {en : α → List Value} {ev : β → List Value}
theorem run_askQ (hk : KeyT P T en) (k : α) (w : World) : ∀ (m : List (α × β)) (o i : Nat), k ∉ m.map (·.1) → (Instr.findAsking T (.agg (en k).toArray) (entQ en ev o m) i).run P w = .ok none w
  | [], o, i, _ => by simp [Instr.findAsking, entQ]
  | (a, v) :: r, o, i, h => by
    have h1 : k ≠ a := fun e => h (by simp [e])
    rw [entQ, Instr.findAsking, Sem.run_bind, hk.eq, Result.andThen_ok]
    simp only [h1, decide_false, Bool.false_eq_true, if_false]
    exact run_askQ hk k w r (o + 1) (i + 1) fun e => h (List.mem_cons_of_mem _ e)
theorem run_findQ (hk : KeyT P T en) (k : α) (m : List (α × β)) (w : World) (h : k ∉ m.map (·.1)) : (Instr.findKey T (.agg (en k).toArray) (entQ en ev 0 m)).run P w = .ok none w := by
  obtain ⟨d, hd, hr⟩ := hk.row
  unfold Instr.findKey
  rw [Sem.run_bind, run_underlying hd, Result.andThen_ok]
  cases m with
  | nil => simp [entQ, Instr.findNow]
  | cons p r =>
    obtain ⟨a, v⟩ := p
    have : Instr.findNow d (.agg (en k).toArray) (entQ en ev 0 ((a, v) :: r)) 0 = none := by
      simp only [entQ, Instr.findNow]
      cases d <;> first | rfl | cases hr
    rw [this]
    have := run_askQ (ev := ev) hk k w ((a, v) :: r) 0 0 h
    simpa using this
end
section
variable {α β : Type} {P : Program} {K E T : TypeId} {en : α → List Value} {ev : β → List Value} {pc : Bool} {o : Oper} {F : Fr} {M : List Blk} {x y z : Operand}
/-- a new map -/
theorem op_mkq (en : α → List Value) (ev : β → List Value) (j : Nat) (ho : o.op = .makeMap T none) (hj : M[j]? = some .hole) : DOp P pc o F M [j] (.hnd j) [(j, .obj (mapQ en ev []))] := by
  intro hp a s hok hops hfp
  have hj' : s.M[j]? = some .hole := by rw [hfp j (by simp)]; exact hj
  have hjl : j < s.β.length := by rw [hok.len]; exact (List.getElem?_eq_some_iff.1 hj').1
  have ht : Tr s ⟨s.β.set j (.map (some s.w.heap.size)), s.I, s.M.set j (.obj (mapQ en ev [])), s.w.alloc (mapQ en ev [])⟩ := by
    refine tr_new hok hj' _ _ _ (by simp) (fun b hb => by simpa [hb] using (Option.some.inj hb).symm) (fun b h => Below.heap_alloc _ _ _ h) (fun b hb => ?_) (by simp) rfl rfl rfl ⟨_, rfl, by simpa using heap_alloc_new s.w _, ⟨_, rfl⟩⟩
    cases hb; simp
  refine dg_step (v := .map (some s.w.heap.size)) ?_ ht rfl (.hnd (by simp [hjl]) (by simp) (by simp))
  unfold execOp
  simp only [ho]
  refine run_v ?_
  simp [Instr.makeMap, mapQ, entQ]
theorem mapQ_at {s : St} (hok : Ok s) {i : Nat} {m : List (α × β)} {v : Value} (hM : s.M[i]? = some (.obj (mapQ en ev m))) (hr : Rep s (.hnd i) v) : ∃ b, v = .map (some b) ∧ s.β[i]? = some (.map (some b)) ∧ s.w.heap[b]? = some (mapQ en ev m) := by
  cases hr with
  | hnd hβ hn =>
    obtain ⟨b, e1, e2, b', e3⟩ := hok.blk i _ _ hM hβ
    subst e3
    cases e1
    exact ⟨b, rfl, hβ, e2⟩
/-- a new key set -/
theorem op_muq [DecidableEq α] {i : Nat} {k : α} {m : List (α × β)} {v : β} (hT : mpT P T = some (K, E)) (hk : KeyT P K en) (ho : o.op = .mapUpdate T x y z) (hx : Ev pc F x (.hnd i)) (hy : Ev pc F y (.val (.agg (en k).toArray))) (hz : Ev pc F z (.val (.agg (ev v).toArray))) (hM : M[i]? = some (.obj (mapQ en ev m))) (hn : pc = true → k ∉ m.map (·.1)) : DOp P pc o F M [i] .junk [(i, .obj (mapQ en ev (m ++ [(k, v)])))] := by
  intro hp a s hok hops hfp
  have hM' : s.M[i]? = some (.obj (mapQ en ev m)) := by rw [hfp i (by simp)]; exact hM
  obtain ⟨b, hv, hβ, hob⟩ := mapQ_at hok hM' (ev_at hp hx (by simp [ho, Op.operands]) hops)
  have hry := (ev_at hp hy (by simp [ho, Op.operands]) hops).val_eq
  have hrz := (ev_at hp hz (by simp [ho, Op.operands]) hops).val_eq
  obtain ⟨_, ht⟩ := tr_map (ob' := mapQ en ev (m ++ [(k, v)])) hok ⟨b, rfl⟩ hM' hβ
  refine dg_skip ?_ ht rfl
  have hf := run_findQ (ev := ev) hk k m s.w (hn hp)
  unfold execOp
  simp only [ho, hv, hry, hrz]
  refine run_u ?_
  unfold Instr.mapUpdate
  rw [Sem.run_bind, run_underlying (mpT_spec hT), Result.andThen_ok]
  simp only [Sem.run_bind, getObj, Sem.run, hob, mapQ, Result.andThen, hk.chk, hf]
  simp [setObj, Sem.run, World.putObj, entQ_app, hob, mapQ]
theorem op_lenq (ho : o.op = .call { callee := .builtin .len, args := #[x], argTypes := #[T] }) {i : Nat} {m : List (α × β)} (hT : mpT P T = some (K, E)) (hx : Ev pc F x (.hnd i)) (hM : M[i]? = some (.obj (mapQ en ev m))) : DOp P pc o F M [i] (.val (.int .i64 m.length)) [] := by
  intro hp a s hok hops hfp
  have hM' : s.M[i]? = some (.obj (mapQ en ev m)) := by rw [hfp i (by simp)]; exact hM
  obtain ⟨b, hv, hβ, hob⟩ := mapQ_at hok hM' (ev_at hp hx (by simp [ho, Op.operands, Call.operands]) hops)
  refine dg_val hok (run_builtin ho (fun cs => rfl) ?_) (.val (.int .i64 m.length))
  simp [Builtin.len_, hv, run_underlying (mpT_spec hT), getObj, Sem.run, hob, mapQ, Result.andThen, Sem.run_bind, entQ_len, goInt]
/-- a walk through it begins -/
theorem op_rgq {i : Nat} {m : List (α × β)} (j : Nat) (ho : o.op = .range T x) (hT : mpT P T = some (K, E)) (hx : Ev pc F x (.hnd i)) (hM : M[i]? = some (.obj (mapQ en ev m))) (hj : M[j]? = some .hole) : DOp P pc o F M [i, j] (.loc j 0) [(j, .mit (.hnd i) m.length [])] := by
  intro hp a s hok hops hfp
  have hM' : s.M[i]? = some (.obj (mapQ en ev m)) := by rw [hfp i (by simp)]; exact hM
  have hj' : s.M[j]? = some .hole := by rw [hfp j (by simp)]; exact hj
  have hjl : j < s.β.length := by rw [hok.len]; exact (List.getElem?_eq_some_iff.1 hj').1
  obtain ⟨b, hv, hβ, hob⟩ := mapQ_at hok hM' (ev_at hp hx (by simp [ho, Op.operands]) hops)
  have hij : j ≠ i := fun e => by subst e; rw [hM'] at hj'; cases hj'
  have ht : Tr s ⟨s.β.set j (.pointer (some ⟨s.w.heap.size, 0, none⟩)), s.I, s.M.set j (.mit (.hnd i) m.length []), s.w.alloc (.mapIter (some b) m.length #[] m.length)⟩ := by
    refine tr_new hok hj' _ _ _ (by simp) (fun c hc => by cases hc; rfl) (fun c h => Below.heap_alloc _ _ _ h) (fun c hc => by cases hc; simp) (by simp) rfl rfl rfl ⟨_, b, rfl, by simpa using heap_alloc_new s.w _, .hnd (by show (s.β.set j _)[i]? = _; rw [List.getElem?_set_ne hij]; exact hβ) (by simp) (by simp)⟩
  refine dg_step (v := .pointer (some ⟨s.w.heap.size, 0, none⟩)) ?_ ht rfl (.loc (by simp [hjl]))
  have hrun := run_range_map (P := P) s.w T K E b (entQ en ev 0 m).toArray m.length (mpT_spec hT) hob
  unfold execOp
  simp only [ho, hv]
  exact run_v hrun
theorem mitQ_at {s : St} (hok : Ok s) {i j n : Nat} {seen : List Nat} {m : List (α × β)} {v : Value} (hMj : s.M[j]? = some (.mit (.hnd i) n seen)) (hM : s.M[i]? = some (.obj (mapQ en ev m))) (hr : Rep s (.loc j 0) v) : ∃ r b, v = .pointer (some ⟨r, 0, none⟩) ∧ s.β[j]? = some (.pointer (some ⟨r, 0, none⟩)) ∧ s.β[i]? = some (.map (some b)) ∧ s.w.heap[r]? = some (.mapIter (some b) n seen.toArray n) ∧ s.w.heap[b]? = some (mapQ en ev m) := by
  cases hr with
  | @loc _ _ r hβ =>
    obtain ⟨r', b, e1, e2, e3⟩ := hok.blk j _ _ hMj hβ
    cases e1
    obtain ⟨b', q1, q2, q3⟩ := mapQ_at hok hM e3
    cases q1
    exact ⟨r, b, rfl, hβ, q2, e2, q3⟩
/-- the next entry, whichever -/
theorem op_nxq {i j : Nat} {seen : List Nat} {m : List (α × β)} (ho : o.op = .next x false) (hx : Ev true F x (.loc j 0)) (hMj : M[j]? = some (.mit (.hnd i) m.length seen)) (hM : M[i]? = some (.obj (mapQ en ev m))) :
    DOpE P o F M [i, j] (fun d wr => (wr = [] ∧ d = .tup [.val (.bool false)] ∧ ∀ p, p < m.length → p ∈ seen) ∨ ∃ p k e, m[p]? = some (k, e) ∧ p ∉ seen ∧ d = .tup [.val (.bool true), .val (.agg (en k).toArray), .val (.agg (ev e).toArray)] ∧ wr = [(j, .mit (.hnd i) m.length (seen ++ [p]))]) := by
  intro a s hok hops hfp
  have hM' : s.M[i]? = some (.obj (mapQ en ev m)) := by rw [hfp i (by simp)]; exact hM
  have hMj' : s.M[j]? = some (.mit (.hnd i) m.length seen) := by rw [hfp j (by simp)]; exact hMj
  obtain ⟨r, b, hv, hβj, hβi, hit, hob⟩ := mitQ_at hok hMj' hM' (ev_at rfl hx (by simp [ho, Op.operands]) hops)
  have hold : ∀ y ∈ ((entQ en ev 0 m).toArray).toList, y.born < m.length := fun y hy => by
    obtain ⟨p, k, v, h1, rfl⟩ := entQ_mem en ev m 0 y (by simpa using hy)
    have := (List.getElem?_eq_some_iff.1 h1).1
    show 0 + p < _
    omega
  have hjl : j < s.M.length := (List.getElem?_eq_some_iff.1 hMj').1
  have hlv : Live s r := live_of hMj' rfl hβj rfl
  have hrl := (hok.lt r hlv).1
  rcases run_next_at (P := P) s.w o.type r b m.length m.length seen.toArray (entQ en ev 0 m).toArray m.length hit hob hold (Nat.le_refl _) with ⟨h0, hrun⟩ | ⟨e, he, w1, hw, hrun⟩
  · refine ⟨_, [], .inl ⟨rfl, rfl, fun p hp => ?_⟩, dg_val hok (by unfold execOp; simp only [ho, hv]; exact run_v hrun) (.tup rfl fun q d v g1 g2 => ?_)⟩
    · have := all_seen (entQ en ev 0 m).toArray seen.toArray h0 _ (by simpa using entQ_at en ev m 0 p m[p].1 m[p].2 (List.getElem?_eq_getElem hp))
      simpa using this
    · match q, g1, g2 with
      | 0, g1, g2 => cases g1; cases g2; exact .val _
  · obtain ⟨hm, hns⟩ := mem_left he
    obtain ⟨p, k, v, h1, rfl⟩ := entQ_mem en ev m 0 e (by simpa using hm)
    have hβe : s.β.set j (.pointer (some ⟨r, 0, none⟩)) = s.β := by
      have : s.β[j]'((List.getElem?_eq_some_iff.1 hβj).1) = .pointer (some ⟨r, 0, none⟩) := (List.getElem?_eq_some_iff.1 hβj).2
      rw [← this, List.set_getElem_self]
    have hji : j ≠ i := fun e => by subst e; rw [hM'] at hMj'; cases hMj'
    have hw1 : w1.heap = s.w.heap ∧ w1.os = s.w.os ∧ w1.tape = s.w.tape ∧ w1.output = s.w.output := by rcases hw with rfl | rfl <;> exact ⟨rfl, rfl, rfl, rfl⟩
    obtain ⟨hwh, hwo, hwt, hwp⟩ := hw1
    have hseen : (seen.toArray.push (0 + p)) = (seen ++ [p]).toArray := by simp
    have hsame : (Go.ChangeMaps.setBlock w1 r (.mapIter (some b) m.length (seen.toArray.push (0 + p)) m.length)).heap[r]? = some (.mapIter (some b) m.length (seen ++ [p]).toArray m.length) := by
      unfold Go.ChangeMaps.setBlock
      rw [← hseen]
      simp [hwh, hrl]
    have hother : ∀ c, c ≠ r → (Go.ChangeMaps.setBlock w1 r (.mapIter (some b) m.length (seen.toArray.push (0 + p)) m.length)).heap[c]? = s.w.heap[c]? := fun c hc => by
      unfold Go.ChangeMaps.setBlock
      simp only [hwh]
      rw [Array.getElem?_setIfInBounds_ne (Ne.symm hc)]
    have ht := step_set hok j s.M (.pointer (some ⟨r, 0, none⟩)) (.mit (.hnd i) m.length (seen ++ [p])) (Go.ChangeMaps.setBlock w1 r (.mapIter (some b) m.length (seen.toArray.push (0 + p)) m.length)) rfl (fun _ _ h => .inl h) hjl (.inr (.inl hβj)) (by simp)
      ⟨r, b, rfl, hsame, .hnd (by show (s.β.set j _)[i]? = _; rw [hβe]; exact hβi) (by simp) (by simp)⟩
      (fun c hc q k h hne h1 h2 h3 h4 => by
        cases hc
        exact hne (hok.inj q j k _ h _ r h1 h2 h3 h4 hMj' rfl hβj rfl))
      (fun c hc => by cases hc; exact .inr hlv) (fun c hc => by cases hc; unfold Go.ChangeMaps.setBlock; simpa [hwh] using hrl) (fun _ => False) (fun _ h => h.elim)
      (fun c hc hne _ => hother c (fun e => hne (by rw [e]; rfl))) hwo hwt hwp (by unfold Go.ChangeMaps.setBlock; simp [hwh])
    rw [hβe] at ht
    refine ⟨_, [(j, .mit (.hnd i) m.length (seen ++ [p]))], .inr ⟨p, k, v, h1, by simpa using hns, rfl, rfl⟩, dg_step (v := .tuple #[.bool true, .agg (en k).toArray, .agg (ev v).toArray]) (by unfold execOp; simp only [ho, hv]; exact run_v hrun) ht rfl (.tup rfl fun q d v' g1 g2 => ?_)⟩
    match q, g1, g2 with
    | 0, g1, g2 => cases g1; cases g2; exact .val _
    | 1, g1, g2 => cases g1; cases g2; exact .val _
    | 2, g1, g2 => cases g1; cases g2; exact .val _
/-- the entry that the step handed out -/
theorem op_etq {i j p : Nat} {k : α} {e : β} {seen : List Nat} {m : List (α × β)} (ho : o.op = .entry x) (hx : Ev pc F x (.loc j 0)) (hMj : M[j]? = some (.mit (.hnd i) m.length (seen ++ [p]))) (hM : M[i]? = some (.obj (mapQ en ev m))) (he : m[p]? = some (k, e)) : DOp P pc o F M [i, j] (.tup [.val (.agg (en k).toArray), .val (.agg (ev e).toArray)]) [] := by
  intro hp a s hok hops hfp
  have hM' : s.M[i]? = some (.obj (mapQ en ev m)) := by rw [hfp i (by simp)]; exact hM
  have hMj' : s.M[j]? = some (.mit (.hnd i) m.length (seen ++ [p])) := by rw [hfp j (by simp)]; exact hMj
  obtain ⟨r, b, hv, hβj, hβi, hit, hob⟩ := mitQ_at hok hMj' hM' (ev_at hp hx (by simp [ho, Op.operands]) hops)
  have hseen : (seen ++ [p]).toArray = seen.toArray.push (0 + p) := by simp
  rw [hseen] at hit
  have hrun := run_entry_at (P := P) s.w r b m.length seen.toArray (entQ en ev 0 m).toArray m.length { key := .agg (en k).toArray, val := .agg (ev e).toArray, born := 0 + p } hit hob (by simpa using entQ_at en ev m 0 p k e he) (by simpa using (entQ_born en ev m 0).2)
  refine dg_val (v := .tuple #[.agg (en k).toArray, .agg (ev e).toArray]) hok (by unfold execOp; simp only [ho, hv]; exact run_v hrun) (.tup rfl fun q d v' g1 g2 => ?_)
  match q, g1, g2 with
  | 0, g1, g2 => cases g1; cases g2; exact .val _
  | 1, g1, g2 => cases g1; cases g2; exact .val _
end
section
variable {P : Program} {pc : Bool} {o : Oper} {F : Fr} {M : List Blk}
/-- a struct of what takes a cell each, stored whole -/
theorem op_stam2 {T T' : TypeId} {x y : Operand} {i k : Nat} {rw' : Bool} {ds : List D} {L : List Value} (ho : o.op = .store T x y) (hT : tyB P T = some (rw', k)) (hx : Ev pc F x (.loc i 0)) (hy : Ev pc F y (.agg ds)) (hM : M[i]? = some (.flat T' L)) (hk : ds.length = k) (hfit : ds.length = L.length) (h1 : ds.all D.oc2 = true) : DOp P pc o F M [i] .junk [(i, .mix T' ds)] := by
  intro hp a s hok hops hfp
  have hr := ev_at hp hx (by simp [ho, Op.operands]) hops
  have hry := ev_at hp hy (by simp [ho, Op.operands]) hops
  have hM' : s.M[i]? = some (.flat T' L) := by rw [hfp i (by simp)]; exact hM
  generalize hv : a.eval x = vx at hr
  generalize hvy : a.eval y = vy at hry
  cases hr with
  | @loc _ _ b h =>
    cases hry with
    | @agg _ vs hvl hd =>
      obtain ⟨b', e1, e2⟩ := hok.blk i _ _ hM' h
      cases e1
      have hcell := cellsAt_block e2 0
      have hoc : ∀ u ∈ vs, u.oneCell' = true := fun u hu => by
        obtain ⟨j, hj, rfl⟩ := List.getElem_of_mem hu
        have hj2 : j < ds.length := by omega
        exact oc2_one (hd j _ _ (List.getElem?_eq_getElem hj2) (List.getElem?_eq_getElem hj)) (List.all_eq_true.1 h1 _ (List.getElem_mem hj2))
      have hrun := run_store (P := P) (w := s.w) (C := vs) ho hT hv hvy rfl (by omega) (fun j hj => by
          have hp' : j < L.length := by omega
          have := hcell j L[j] (by simp [hp'])
          rw [Nat.zero_add] at this
          rw [Nat.zero_add, this]; rfl) (fun j hj => by simp [World.frozen?, e2]) hoc
      have hβ : s.β.set i (.pointer (some ⟨b, 0, none⟩)) = s.β := by
        apply List.ext_getElem?
        intro k
        by_cases e : i = k
        · subst e; rw [List.getElem?_set_self (List.getElem?_eq_some_iff.1 h).1, h]
        · rw [List.getElem?_set_ne e]
      refine dg_skip (s' := ⟨s.β.set i (.pointer (some ⟨b, 0, none⟩)), s.I, s.M.set i (.mix T' ds), s.w.setCells b 0 vs⟩) hrun (tr_store hok hM' rfl h rfl 0 _ ?_) rfl
      have hall : setL L 0 vs = vs := setL_all (by omega)
      have hblk := setCells_block b vs 0 s.w L T' e2
      rw [hall] at hblk
      refine ⟨b, vs, rfl, hblk, hvl, fun j e v hj hv' => ?_⟩
      refine Rep.mono' (s := s) (s' := ⟨s.β.set i (.pointer (some ⟨b, 0, none⟩)), s.I, s.M.set i (.mix T' ds), s.w.setCells b 0 vs⟩) (fun k x hk _ => by show (s.β.set i _)[k]? = _; rw [hβ]; exact hk) (fun _ h => h) (fun b' hI => setCells_other b _ 0 s.w b' fun e => ?_) (hd j e v hj hv')
      subst e
      exact (hok.lt b' (live_of hM' rfl h rfl)).2 hI
/-- a map's handle, into a variable -/
theorem op_stfq {α β : Type} {en : α → List Value} {ev : β → List Value} {m : List (α × β)} {T T' : TypeId} {x y : Operand} {i p q : Nat} {rw' : Bool} {L : List Value} (ho : o.op = .store T x y) (hT : tyB P T = some (rw', 1)) (hx : Ev pc F x (.loc i p)) (hy : Ev pc F y (.hnd q)) (hq : M[q]? = some (.obj (mapQ en ev m))) (hM : M[i]? = some (.flat T' L)) (hfit : p < L.length) : DOp P pc o F M [i, q] .junk [(i, .mix T' ((L.map .val).set p (.hnd q)))] := by
  intro hp a s hok hops hfp
  have hr := ev_at hp hx (by simp [ho, Op.operands]) hops
  have hry := ev_at hp hy (by simp [ho, Op.operands]) hops
  obtain ⟨bq, hvq, _, _⟩ := mapQ_at hok (by rw [hfp q (by simp)]; exact hq) hry
  have hc1 : (a.eval y).cells = #[a.eval y] := by rw [hvq]; rfl
  have hc2 : (a.eval y).oneCell' = true := by rw [hvq]; rfl
  have hM' : s.M[i]? = some (.flat T' L) := by rw [hfp i (by simp)]; exact hM
  generalize hv : a.eval x = vx at hr
  cases hr with
  | @loc _ _ b h =>
    obtain ⟨b', e1, e2⟩ := hok.blk i _ _ hM' h
    cases e1
    obtain ⟨vs, hvs⟩ : ∃ vs, vs = L := ⟨_, rfl⟩
    rw [← hvs] at e2 hfit
    have e3 : vs.length = (L.map D.val).length := by rw [hvs]; simp
    have e4 : ∀ (j : Nat) d v, (L.map D.val)[j]? = some d → vs[j]? = some v → Rep s d v := fun j d v h1 h2 => by
      rw [hvs] at h2
      simp [h2] at h1
      subst h1
      exact .val _
    have hcell := cellsAt_block e2 0
    have hrun := run_store (P := P) (w := s.w) (C := [a.eval y]) ho hT hv rfl (by rw [hc1]) rfl (fun j hj => by
        have hj0 : j = 0 := by simp at hj; exact hj
        subst hj0
        have hp' : p < vs.length := by omega
        have := hcell p vs[p] (by simp [hp'])
        rw [Nat.zero_add] at this
        rw [Nat.add_zero, this]; rfl) (fun j hj => by simp [World.frozen?, e2]) (fun u hu => by rw [List.mem_singleton.1 hu]; exact hc2)
    refine dg_skip (s' := ⟨s.β.set i (.pointer (some ⟨b, 0, none⟩)), s.I, s.M.set i (.mix T' ((L.map .val).set p (.hnd q))), s.w.setCells b p [a.eval y]⟩) hrun (tr_store hok hM' rfl h rfl p _ ?_) rfl
    refine ⟨b, vs.set p (a.eval y), rfl, setCells_block b _ p s.w vs T' e2, by simp [e3], fun j e v hj hv' => ?_⟩
    have hβ : s.β.set i (.pointer (some ⟨b, 0, none⟩)) = s.β := by
      apply List.ext_getElem?
      intro k
      by_cases e : i = k
      · subst e; rw [List.getElem?_set_self (List.getElem?_eq_some_iff.1 h).1, h]
      · rw [List.getElem?_set_ne e]
    have lift : ∀ {e : D} {v : Value}, Rep s e v → Rep ⟨s.β.set i (.pointer (some ⟨b, 0, none⟩)), s.I, s.M.set i (.mix T' ((L.map .val).set p (.hnd q))), s.w.setCells b p [a.eval y]⟩ e v := by
      intro e v hr
      refine Rep.mono' (s := s) (s' := ⟨s.β.set i (.pointer (some ⟨b, 0, none⟩)), s.I, s.M.set i (.mix T' ((L.map .val).set p (.hnd q))), s.w.setCells b p [a.eval y]⟩) (fun k x hk _ => by show (s.β.set i _)[k]? = _; rw [hβ]; exact hk) (fun _ h => h) (fun b' hI => setCells_other b _ p s.w b' fun e => ?_) hr
      subst e
      exact (hok.lt b' (live_of hM' rfl h rfl)).2 hI
    by_cases e' : p = j
    · subst e'
      rw [List.getElem?_set_self (by omega)] at hj
      rw [List.getElem?_set_self (by omega)] at hv'
      cases hj; cases hv'
      exact lift hry
    · rw [List.getElem?_set_ne e'] at hj hv'
      exact lift (e4 j e v hj hv')
/-- a variable that stays, whole -/
theorem op_ldg {T : TypeId} {x : Operand} {g i k : Nat} {L : List Value} (ho : o.op = .load T x) (hT : tyB P T = some (true, k)) (hx : Ev pc F x (.val (.pointer (some ⟨g, 0, none⟩)))) (hM : M[i]? = some (.glob g L)) (hk : L.length = k) : DOp P pc o F M [i] (.val (.agg L.toArray)) [] := by
  intro hp a s hok hops hfp
  have hr := (ev_at hp hx (by simp [ho, Op.operands]) hops).val_eq
  have hM' : s.M[i]? = some (.glob g L) := by rw [hfp i (by simp)]; exact hM
  have hil : i < s.β.length := by rw [hok.len]; exact (List.getElem?_eq_some_iff.1 hM').1
  obtain ⟨_, hI, hc⟩ := hok.blk i _ _ hM' (List.getElem?_eq_getElem hil)
  have := cellsAt_range hc 0 k (by simpa using (show L.take k = L by subst hk; simp))
  exact dg_val hok (run_load_row ho hT hr (by simpa using this) hk) (.val _)
end
end Go.Proofs.YtjgnalfnginjbaaGreatDoor
namespace Go.Proofs.YtjgnalfnginjbaaGreatDoor
set_option linter.unusedVariables false
set_option linter.unusedSimpArgs false
open Go.RowKit
theorem lk_key : ∀ {F : Fr} {t : Nat} {d : D}, lk F t = some d → ∃ p ∈ F, p.1 = t
  | [], _, _, h => by cases h
  | (t', d') :: F, t, d, h => by
    by_cases e : t' = t
    · exact ⟨(t', d'), List.mem_cons_self .., e⟩
    · have h2 : lk F t = some d := by
        unfold lk at h
        have e2 : Nat.beq t' t = false := Bool.eq_false_iff.2 fun q => e (Nat.eq_of_beq_eq_true q)
        rw [e2] at h
        exact h
      obtain ⟨p, hp, h3⟩ := lk_key h2
      exact ⟨p, List.mem_cons_of_mem _ hp, h3⟩
/-- what does nothing -/
def nopO : Oper := { dst := none, op := .move (.const (.bool true)), type := 0, pos := "", after := #[], guard := none }
theorem nop_d {P : Program} {pc : Bool} {F : Fr} {M : List Blk} : DOp P pc nopO F M [] (.val (.bool true)) [] := zac (.inl rfl) (ev1 rfl)
theorem nop_n (ops : Array Oper) : namesOf ops nopO = [] := rfl
/-- behind some number all stand behind the one that panics; what isn't forced ahead of it changes nothing, and it doesn't ask for it -/
def drawOkR (n : Nat) (lf : List Oper) (m N : Nat) (fps : List (List Nat × List Nat)) : Bool :=
  let bs := befL lf []
  fps.length == N && Nat.blt m N && Nat.ble N lf.length && (match fps[m]? with | some f => f.1.isEmpty && f.2.isEmpty | none => false) && ((List.range lf.length).all fun j => match lf[j]? with
    | some oj => oj.after.all (fun e => !Region.binds .any e || Nat.blt e.on j) && (Nat.blt j N || (bs.getD j 0).testBit m)
    | none => false) && ((List.range N).all fun i => i == m || match lf[i]?, fps[i]?, lf[m]? with
    | some oi, some fi, some om => (bs.getD m 0).testBit i || (fi.2.isEmpty && !meet oi.dst.toList (namesOf lf.toArray om))
    | _, _, _ => false) && (List.range N).all fun j => j == m ||
    match lf[j]?, fps[j]? with
    | some oj, some fj => dstB n oj.dst && noDef oj.op && fj.2.all (fun x => fj.1.contains x) && (List.range j).all fun i => i == m ||
      match lf[i]?, fps[i]? with
      | some oi, some fi => pairOk lf.toArray (bs.getD j 0) i oi oj fi fj
      | _, _ => false
    | _, _ => false
/-- **A region that draws its order, and panics**: what is not forced ahead of the panic only reads. -/
theorem dwp_drawR {P : Program} {s0 : St} {n : Cx} {id : Nat} {lf : List Oper} {op : Oper} {F : Fr} {M : List Blk} {K : Cont} (m N : Nat) (fps : List (List Nat × List Nat)) (hm : P.follows .mixedOrders = true) (hB : drawOkR n.n lf m N fps = true) (hfr : (F.all fun p => (lf.take N).all fun o => match o.dst with | some t => !Nat.beq t p.1 | none => true) = true) (hopn : lf[m]? = some op) (hndm : noDef op.op = true)
    (h : Lex P lf.toArray ((lf.take N).set m nopO) fps F M (fun F1 M1 => ∃ fp d wr, op.guard = none ∧ DOpP P true op F1 M1 fp d wr ∧ K (.panic d) F (upd M1 wr))) :
    dwp P s0 n (.region id lf.toArray true) F M K := by
  intro a w hi
  refine wpIn_region_any hm ?_
  simp only [drawOkR, Bool.and_eq_true, beq_iff_eq, List.all_eq_true, List.mem_range] at hB
  obtain ⟨⟨⟨⟨⟨⟨hlen0, hml⟩, hNl⟩, hfm⟩, hedge⟩, hpre0⟩, hB⟩ := hB
  have hml := Nat.blt_eq.mp hml
  have hNl := Nat.ble_eq.mp hNl
  have hfm2 : ∀ f, fps[m]? = some f → f.1 = [] ∧ f.2 = [] := fun f hf => by
    rw [hf] at hfm
    simpa using hfm
  obtain ⟨l, hl⟩ : ∃ l, l = (lf.take N).set m nopO := ⟨_, rfl⟩
  have hllen : l.length = N := by rw [hl, List.length_set, List.length_take]; omega
  rw [← hl] at h
  have hlen : fps.length = l.length := by omega
  have htk : ∀ i, i < l.length → i ≠ m → l[i]? = lf[i]? := fun i hi hne => by rw [hl, List.getElem?_set_ne (Ne.symm hne), List.getElem?_take, if_pos (by omega)]
  have hmk : l[m]? = some nopO := by rw [hl, List.getElem?_set_self (by rw [List.length_take]; omega)]
  have hon : ∀ (j : Nat) o, lf[j]? = some o → ∀ e ∈ o.after.toList, Region.binds .any e = true → e.on < j := by
    intro j o ho e he hb
    have h1 := hedge j (List.getElem?_eq_some_iff.1 ho).1
    rw [ho] at h1
    simp only [Bool.and_eq_true] at h1
    have := Array.all_eq_true_iff_forall_mem.1 h1.1 e (by simpa using he)
    rw [hb] at this
    exact Nat.blt_eq.mp (by simpa using this)
  have hbeh : ∀ i, l.length ≤ i → i < lf.length → ahead lf m i = true := by
    intro i h1 h2
    have h3 := hedge i h2
    rw [List.getElem?_eq_getElem h2] at h3
    simp only [Bool.and_eq_true, Bool.or_eq_true] at h3
    rcases h3.2 with h4 | h4
    · have := Nat.blt_eq.mp h4; omega
    · exact h4
  have hpre : ∀ (j : Nat) oj fj, lf[j]? = some oj → fps[j]? = some fj → j < l.length → j ≠ m → ahead lf j m = true ∨ (fj.2 = [] ∧ meet oj.dst.toList (namesOf lf.toArray op) = false) := fun j oj fj ho hf hj hne => by
    have h1 := hpre0 j (by omega)
    rw [ho, hf, hopn] at h1
    simp only [Bool.or_eq_true, Bool.and_eq_true, Bool.not_eq_true', List.isEmpty_iff, beq_iff_eq, hne, false_or] at h1
    exact h1
  subst hllen
  obtain ⟨E, e1, e2, e3⟩ := lex_recs l fps F M hlen h
  have at_ : ∀ k, k < l.length → ∃ o f, l[k]? = some o ∧ fps[k]? = some f := fun k hk => ⟨l[k], fps[k], List.getElem?_eq_getElem hk, List.getElem?_eq_getElem (by omega)⟩
  have hone : ∀ (j : Nat) o f, l[j]? = some o → fps[j]? = some f → (∀ e ∈ o.after.toList, Region.binds .any e = true → e.on < j) ∧ dstB n.n o.dst = true ∧ noDef o.op = true ∧ (∀ x ∈ f.2, x ∈ f.1) ∧ ∀ (i : Nat) oi fi, i < j → l[i]? = some oi → fps[i]? = some fi → ahead lf i j = true ∨ (meet oi.dst.toList (namesOf lf.toArray o) = false ∧ meet (namesOf lf.toArray oi) o.dst.toList = false ∧ meet fi.2 f.1 = false ∧ meet fi.1 f.2 = false) := by
    intro j o f ho hf
    have hj : j < l.length := (List.getElem?_eq_some_iff.1 ho).1
    by_cases ejm : j = m
    · subst ejm
      rw [hmk] at ho
      obtain rfl := Option.some.inj ho
      obtain ⟨k1, k2⟩ := hfm2 f hf
      refine ⟨fun e he => by simp [nopO] at he, rfl, rfl, fun x hx => (by rw [k2] at hx; cases hx), fun i oi fi hij hoi hfi => .inr ⟨?_, ?_, ?_, ?_⟩⟩
      · rw [nop_n]; simp [meet]
      · simp [meet, nopO]
      · rw [k1]; simp [meet]
      · rw [k2]; simp [meet]
    have h1 := hB j hj
    have ho2 := ho
    rw [htk j hj ejm] at ho2
    rw [ho2, hf] at h1
    simp only [Bool.and_eq_true, List.all_eq_true, List.mem_range, Bool.or_eq_true, beq_iff_eq, ejm, false_or] at h1
    obtain ⟨⟨⟨h2, hnd⟩, h3⟩, h4⟩ := h1
    refine ⟨hon j o ho2, h2, hnd, fun x hx => by simpa using h3 x hx, fun i oi fi hij hoi hfi => ?_⟩
    by_cases eim : i = m
    · subst eim
      rw [hmk] at hoi
      obtain rfl := Option.some.inj hoi
      obtain ⟨k1, k2⟩ := hfm2 fi hfi
      refine .inr ⟨?_, ?_, ?_, ?_⟩
      · simp [meet, nopO]
      · rw [nop_n]; simp [meet]
      · rw [k2]; simp [meet]
      · rw [k1]; simp [meet]
    have h5 := h4 i hij
    rw [← htk i (by omega) eim, hoi, hfi] at h5
    simp only [eim, false_or, pairOk, Bool.or_eq_true, Bool.not_eq_true', Bool.or_eq_false_iff] at h5
    rcases h5 with h5 | h5
    · exact .inl h5
    · exact .inr ⟨h5.1.1.1, h5.1.1.2, h5.1.2, h5.2⟩
  have meet_no : ∀ {x : List Nat} {y : List Nat} {t : Nat}, meet x y = false → t ∈ x → t ∈ y → False := by
    intro x y t hm hx hy
    simp only [meet, List.any_eq_false] at hm
    exact hm t hx (by simpa using hy)
  -- the state when some have been done
  have main : ∀ (f : Nat) (listed : Array Bool) (b : Act) (s : St), Ok s0 → listed.size = lf.length → (∀ k, l.length ≤ k → listed.getD k false = false) → listed.getD m false = false → unl listed lf.length = f → Tr s0 s →
      (∀ t d, lkS l E F (fun k => listed.getD k false) t l.length = some d → Rep s d (slot b t)) → s.M.length = M.length → (∀ i, i < M.length → s.M[i]? = memS E M (fun k => listed.getD k false) i l.length) →
      b.tmps.size = n.n → DfOk s0 s n.mks n.U b.defers → (∀ j i, listed.getD j false = true → j < l.length → ahead lf i j = true → listed.getD i false = true) →
      wpAnyIn (wd (n.ρ s0)) 0 P .any lf.toArray (PostK s0 n K) f listed b s.w := by
    intro f
    induction f with
    | zero =>
      intro listed b s h0 hs hbig hm0 hu ht hF hMl hM hn hd _
      have hall := unl_zero _ hu
      have h1 := hall m (by omega)
      rw [hm0] at h1
      cases h1
    | succ f ih =>
      intro listed b s h0 hs hbig hm0 hu ht hF hMl hM hn hd hcl
      refine ⟨fun hnone => ?_, fun i hi => ?_⟩
      · exfalso
        obtain ⟨i, h1, h2, h3⟩ := unl_some lf.length (listed := listed) (by omega)
        obtain ⟨o, ho⟩ : ∃ o, lf[i]? = some o := ⟨lf[i], List.getElem?_eq_getElem h1⟩
        have g1 := hon i o ho
        have : i ∈ Region.ready .any lf.toArray listed := mem_ready.2 ⟨by rw [getD_tf hs h1]; exact h2, o, by simpa using ho, fun e he hb => h3 _ (g1 e (by simpa using he) hb)⟩
        rw [hnone] at this
        cases this
      · obtain ⟨hun, o, ho, hall⟩ := mem_ready.1 hi
        have hof : lf[i]? = some o := by simpa using ho
        have hilf : i < lf.length := (List.getElem?_eq_some_iff.1 hof).1
        rw [getD_tf hs hilf] at hun
        have done0 : ∀ j, ahead lf j i = true → listed.getD j false = true := by
          intro j hj
          obtain ⟨e, he, hb, hcase⟩ := ahead_step hof hj
          have h1 := hall e (by simpa using he) hb
          rcases hcase with rfl | ⟨h2, h3⟩
          · exact h1
          · refine hcl e.on j h1 ?_ h3
            refine Classical.byContradiction fun hno => ?_
            rw [hbig e.on (by omega)] at h1
            cases h1
        by_cases hgt : l.length ≤ i
        · exfalso
          have h1 := done0 m (hbeh i hgt hilf)
          rw [hm0] at h1
          cases h1
        by_cases him : i = m
        · rw [him] at hof done0
          rw [hof] at hopn
          obtain rfl := Option.some.inj hopn
          obtain ⟨fp, d, wr, q1, q2, q3⟩ := e2
          have hMk : s.M = Mup E M l.length := by
            refine List.ext_getElem? fun i => ?_
            by_cases hi : i < M.length
            · rw [hM i hi, mup_at i hi]
              refine memS_congr _ fun j rj hj hrj hwj => ?_
              obtain ⟨oj, fj, hoj, hfj⟩ := at_ j hj
              have hsoft : ahead lf j m = true ∨ fj.2 = [] := by
                by_cases ejm : j = m
                · subst ejm; exact .inr (hfm2 fj hfj).2
                · exact (hpre j oj fj (by rw [← htk j hj ejm]; exact hoj) hfj hj ejm).imp_right (·.1)
              rcases hsoft with h1 | h1
              · exact done0 j h1
              · exfalso
                obtain ⟨_, _, r', hr', _, _, _, hw', _⟩ := e3 j oj fj hoj hfj
                rw [hrj] at hr'
                obtain rfl := Option.some.inj hr'
                rw [h1] at hw'
                rw [wrAt_none _ _ (by rw [hw']; simp)] at hwj
                cases hwj
            · rw [List.getElem?_eq_none (by omega), List.getElem?_eq_none (by rw [Mup_len]; omega)]
          have hslot : ∀ t d, t ∈ namesOf lf.toArray o → lk (Fup l E F l.length) t = some d → Rep s d (slot b t) := by
            intro t d' ht hd'
            refine hF t d' ?_
            rw [← hd', fup_lk]
            refine lkS_congr _ fun j oj hj hoj hjd => ?_
            obtain ⟨oj', fj, hoj', hfj⟩ := at_ j hj
            rw [hoj] at hoj'
            obtain rfl := Option.some.inj hoj'
            have ejm : j ≠ m := fun e => by
              subst e
              rw [hmk] at hoj
              obtain rfl := Option.some.inj hoj
              cases hjd
            rcases hpre j oj fj (by rw [← htk j hj ejm]; exact hoj) hfj hj ejm with h1 | ⟨_, h1⟩
            · exact done0 j h1
            · exact (meet_no h1 (by simp [hjd]) ht).elim
          have hFk : FOk s F b := fun t d' hd' => hF t d' (by
            rw [lkS_cut 0 l.length (Nat.zero_le _) fun j oj _ h2 hj hjd => ?_]
            · exact hd'
            · exfalso
              have ejm : j ≠ m := fun e => by
                subst e
                rw [hmk] at hj
                obtain rfl := Option.some.inj hj
                cases hjd
              obtain ⟨p, hp, rfl⟩ := lk_key hd'
              have h3 := List.all_eq_true.1 (List.all_eq_true.1 hfr p hp) oj (List.mem_of_getElem? (i := j) (by rw [List.getElem?_take, if_pos h2, ← htk j h2 ejm]; exact hj))
              rw [hjd] at h3
              simp at h3)
          unfold wpOpIn
          rw [ho]
          simp only
          have hw : Region.wanted o (yielded lf.toArray b.tmps) = true := by unfold Region.wanted; rw [q1]
          rw [if_pos hw]
          refine dgives_inP hndm (q2 rfl b s ht.ok (fun x hx d' hd' => ?_) (fun i _ => by rw [hMk])) fun s' v ht' ⟨w1, w2⟩ => ?_
          · cases x with
            | tmp t => exact hslot t d' (List.mem_append_left _ (List.mem_append_left _ (List.mem_filterMap.2 ⟨.tmp t, by simpa using hx, rfl⟩))) hd'
            | const v => obtain rfl := Option.some.inj hd'; exact .val v
            | func g => obtain rfl := Option.some.inj hd'; exact Rep.fn (vs := []) (us := []) rfl rfl (fun j d v h => by simp at h) (fun j d v h => by simp at h)
            | global g => obtain rfl := Option.some.inj hd'; exact .val _
          · exact ⟨F, upd (Mup E M l.length) wr, d, ⟨h0, s', v, w1.trans (by rw [hMk]), rfl, ht.trans ht', hFk.mono ht.ok ht', hn, hd.mono ht.ok ht', rfl, w2⟩, q3⟩
        have hil : i < l.length := by omega
        have ho' : l[i]? = some o := by rw [htk i hil him]; exact hof
        obtain ⟨fi, hfi⟩ : ∃ fi, fps[i]? = some fi := ⟨fps[i], List.getElem?_eq_getElem (by omega)⟩
        obtain ⟨pc, d, r, hr, hrd, hg, hop, hwi, hgw⟩ := e3 i o fi ho' hfi
        obtain ⟨g1, g2, hnd, g3, g4⟩ := hone i o fi ho' hfi
        have done := done0
        have undone : ∀ j, j < l.length → ahead lf i j = true → listed.getD j false = false := by
          intro j hj h1
          cases e : listed.getD j false with
          | false => rfl
          | true => rw [hcl j i e hj h1] at hun; cases hun
        have tset : ∀ t, t ∈ namesOf lf.toArray o → lkS l E F (fun k => listed.getD k false) t l.length = lkS l E F (fun _ => true) t i := by
          intro t ht
          rw [lkS_cut i l.length (by omega) fun j oj h1 h2 hj hjd => ?_]
          · refine lkS_congr i fun j oj hj hoj hjd => ?_
            obtain ⟨fj, hfj⟩ : ∃ fj, fps[j]? = some fj := ⟨fps[j], List.getElem?_eq_getElem (by omega)⟩
            rcases g4 j oj fj hj hoj hfj with h1 | h1
            · exact done j h1
            · exact (meet_no h1.1 (by simp [hjd]) ht).elim
          · by_cases e : j = i
            · subst e; exact hun
            · obtain ⟨fj, hfj⟩ : ∃ fj, fps[j]? = some fj := ⟨fps[j], List.getElem?_eq_getElem (by omega)⟩
              rcases (hone j oj fj hj hfj).2.2.2.2 i o fi (by omega) ho' hfi with h3 | h3
              · exact undone j h2 h3
              · exact (meet_no h3.2.1 ht (by simp [hjd])).elim
        have mset : ∀ x, x ∈ fi.1 → memS E M (fun k => listed.getD k false) x l.length = memS E M (fun _ => true) x i := by
          intro x hx
          have wmem : ∀ (j : Nat) rj fj, E[j]? = some rj → fps[j]? = some fj → j < l.length → (wrAt rj.wr x).isSome = true → x ∈ fj.2 := by
            intro j rj fj hrj hfj hj hw
            obtain ⟨oj, _, hoj, _⟩ := at_ j hj
            obtain ⟨_, _, r', hr', _, _, _, hw', _⟩ := e3 j oj fj hoj hfj
            rw [hrj] at hr'
            obtain rfl := Option.some.inj hr'
            rw [← hw']
            refine Classical.byContradiction fun hno => ?_
            rw [wrAt_none _ _ hno] at hw
            cases hw
          rw [memS_cut i l.length (by omega) fun j rj h1 h2 hrj hw => ?_]
          · refine memS_congr i fun j rj hj hrj hw => ?_
            obtain ⟨oj, fj, hoj, hfj⟩ := at_ j (by omega)
            rcases g4 j oj fj hj hoj hfj with h1 | h1
            · exact done j h1
            · exact (meet_no h1.2.2.1 (wmem j rj fj hrj hfj (by omega) hw) hx).elim
          · by_cases e : j = i
            · subst e; exact hun
            · obtain ⟨oj, fj, hoj, hfj⟩ := at_ j (by omega)
              rcases (hone j oj fj hoj hfj).2.2.2.2 i o fi (by omega) ho' hfi with h3 | h3
              · exact undone j h2 h3
              · exact (meet_no h3.2.2.2 hx (wmem j rj fj hrj hfj h2 hw)).elim
        have hslot : ∀ t d, t ∈ o.looksAt lf.toArray → lk (Fup l E F i) t = some d → Rep s d (slot b t) := by
          intro t d' ht hd'
          refine hF t d' ?_
          rw [tset t (List.mem_append_left _ ht), ← fup_lk]
          exact hd'
        have next : ∀ (s' : St) (v : Value), Tr s s' → s'.M = upd s.M r.wr → Rep s' r.d v → wpAnyIn (wd (n.ρ s0)) 0 P .any lf.toArray (PostK s0 n K) f (listed.setIfInBounds i true) (b.put o.dst v) s'.w := by
          intro s' v ht' hM' hrep
          have hset : ∀ k, (listed.setIfInBounds i true).getD k false = if i = k then true else listed.getD k false := fun k => getD_set _ _ _ (by rw [hs]; exact hilf)
          refine ih _ _ s' h0 (by simp [hs]) (fun k hk => by rw [hset, if_neg (by omega)]; exact hbig k hk) (by rw [hset, if_neg him]; exact hm0) ?_ (ht.trans ht') ?_ (by rw [hM', upd_len, hMl]) ?_ (by rw [put_size]; exact hn) (by rw [put_def]; exact hd.mono ht.ok ht') ?_
          · have := unl_set (by rw [hs]; exact hilf) hun lf.length
            rw [if_pos hilf] at this
            omega
          · intro t d' hd'
            by_cases htd : o.dst = some t
            · have e : lkS l E F (fun k => (listed.setIfInBounds i true).getD k false) t l.length = some r.d := by
                rw [lkS_cut (i + 1) l.length (by omega) fun j oj h1 h2 hj hjd => ?_]
                · unfold lkS
                  rw [ho', hr]
                  simp only
                  rw [if_pos ⟨by rw [hset, if_pos rfl], htd⟩]
                · rw [hset, if_neg (by omega)]
                  obtain ⟨fj, hfj⟩ : ∃ fj, fps[j]? = some fj := ⟨fps[j], List.getElem?_eq_getElem (by omega)⟩
                  rcases (hone j oj fj hj hfj).2.2.2.2 i o fi (by omega) ho' hfi with h3 | h3
                  · exact undone j h2 h3
                  · exact (meet_no (t := t) h3.2.1 (List.mem_append_right _ (by simp [htd])) (by simp [hjd])).elim
              rw [e] at hd'
              obtain rfl := Option.some.inj hd'
              have hsz : t < b.tmps.size := by
                rw [htd] at g2
                rw [hn]
                exact Nat.blt_eq.mp g2
              rw [htd, slot_put, if_pos ⟨rfl, hsz⟩]
              exact hrep
            · have e : slot (b.put o.dst v) t = slot b t := by
                cases hod : o.dst with
                | none => rfl
                | some x => rw [slot_put, if_neg (fun q => htd (by rw [hod, q.1]))]
              rw [e]
              refine (hF t d' ?_).mono ht.ok ht'
              rw [← hd']
              refine lkS_congr _ fun j oj hj hoj hjd => ?_
              rw [hset]
              by_cases ej : i = j
              · subst ej
                rw [ho'] at hoj
                obtain rfl := Option.some.inj hoj
                exact absurd hjd htd
              · rw [if_neg ej]
          · intro x hx
            rw [hM', upd_get _ _ _ (by omega), hM x hx]
            cases hw : wrAt r.wr x with
            | none =>
              rw [Option.none_or]
              refine memS_congr _ fun j rj hj hrj hwj => ?_
              rw [hset]
              by_cases ej : i = j
              · subst ej
                rw [hr] at hrj
                obtain rfl := Option.some.inj hrj
                rw [hw] at hwj; cases hwj
              · rw [if_neg ej]
            | some k =>
              rw [Option.some_or]
              have hxw : x ∈ fi.2 := by
                rw [← hwi]
                refine Classical.byContradiction fun hno => ?_
                rw [wrAt_none _ _ hno] at hw
                cases hw
              rw [memS_cut (i + 1) l.length (by omega) fun j rj h1 h2 hrj hwj => ?_]
              · unfold memS
                rw [hr]
                simp only
                rw [if_pos (by rw [hset, if_pos rfl]), hw, Option.some_or]
              · rw [hset, if_neg (by omega)]
                obtain ⟨oj, fj, hoj, hfj⟩ := at_ j (by omega)
                rcases (hone j oj fj hoj hfj).2.2.2.2 i o fi (by omega) ho' hfi with h3 | h3
                · exact undone j h2 h3
                · refine (meet_no h3.2.2.2 (g3 x hxw) ?_).elim
                  obtain ⟨_, _, r', hr', _, _, _, hw', _⟩ := e3 j oj fj hoj hfj
                  rw [hrj] at hr'
                  obtain rfl := Option.some.inj hr'
                  rw [← hw']
                  refine Classical.byContradiction fun hno => ?_
                  rw [wrAt_none _ _ hno] at hwj
                  cases hwj
          · intro j k hj hjl hk
            rw [hset] at hj ⊢
            by_cases e : i = k
            · rw [if_pos e]
            · rw [if_neg e]
              by_cases ej : i = j
              · subst ej; exact done k hk
              · rw [if_neg ej] at hj
                exact hcl j k hj hjl hk
        unfold wpOpIn
        rw [ho]
        simp only
        rw [gd_wanted hg hslot]
        cases pc with
        | true =>
          rw [if_pos rfl]
          refine dgives_in hnd (hop rfl b s ht.ok (fun x hx d' hd' => ?_) (fun x hx => ?_)) fun s' v ht' ⟨q1, q2⟩ => next s' v ht' q1 ?_
          · cases x with
            | tmp t => exact hslot t d' (List.mem_append_left _ (List.mem_filterMap.2 ⟨.tmp t, by simpa using hx, rfl⟩)) hd'
            | const v => obtain rfl := Option.some.inj hd'; exact .val v
            | func g => obtain rfl := Option.some.inj hd'; exact Rep.fn (vs := []) (us := []) rfl rfl (fun j d v h => by simp at h) (fun j d v h => by simp at h)
            | global g => obtain rfl := Option.some.inj hd'; exact .val _
          · by_cases hxl : x < M.length
            · rw [hM x hxl, mup_at x hxl, mset x hx]
            · rw [List.getElem?_eq_none (by omega), List.getElem?_eq_none (by rw [Mup_len]; omega)]
          · rw [hrd]
            unfold gdd
            split
            · exact q2
            · exact .opt (fun _ => q2) (fun h => by cases h)
        | false =>
          rw [if_neg (by simp)]
          have hgs : o.guard.isSome = true := by
            unfold Gd at hg
            cases e : o.guard with
            | none => rw [e] at hg; cases hg
            | some x => rfl
          refine ⟨fun _ _ => trivial, next s undef (Tr.refl ht.ok) (by rw [hgw rfl]; rfl) ?_⟩
          rw [hrd]
          unfold gdd
          split
          · rename_i e; rw [e] at hgs; cases hgs
          · exact .opt (fun h => by cases h) (fun _ => rfl)
  obtain ⟨h0, s, h1, h2, h3, h4, h5, h6⟩ := hi
  subst h1 h2
  have hst := step_same h3.ok { s.w with drawn := s.w.drawn + 1 } rfl rfl rfl rfl
  have hno : ∀ k, (Array.replicate lf.toArray.size false).getD k false = false := fun k => by
    simp only [Array.getD_eq_getD_getElem?, Array.getElem?_replicate]
    split <;> rfl
  have := main lf.length (Array.replicate lf.toArray.size false) a ⟨s.β, s.I, s.M, { s.w with drawn := s.w.drawn + 1 }⟩ h0 (by simp) (fun k _ => hno k) (hno m) (by
      have := unl_start lf.toArray.size lf.length (by simp)
      exact this) (h3.trans hst) (fun t d hd => ?_) rfl (fun i hi => ?_) h5 (h6.mono h3.ok hst) (fun j i hj => by rw [hno] at hj; cases hj)
  · simpa using this
  · rw [lkS_cut 0 l.length (by omega) fun j o _ _ _ _ => hno j] at hd
    exact (h4 t d hd).mono h3.ok hst
  · rw [memS_cut 0 l.length (by omega) fun j r _ _ _ _ => hno j]
    rfl
end Go.Proofs.YtjgnalfnginjbaaGreatDoor
namespace Go.Proofs.YtjgnalfnginjbaaGreatDoor
set_option maxRecDepth 4000
set_option linter.unusedVariables false
set_option linter.unusedSimpArgs false
open Go.RowKit
theorem fl122 : fdL Tryz.prog 122 = some [(0, 1)] := by kernel_rfl
theorem fl85 : fdL Tryz.prog 85 = some [(0, 1)] := by kernel_rfl
theorem fo122_0 : fdO Tryz.prog 122 0 = some 0 := by kernel_rfl
theorem ni122 : niF Tryz.prog 122 = true := by kernel_rfl
theorem tb122 : tyB Tryz.prog 122 = some (true, 1) := by kernel_rfl
theorem tb34 : tyB Tryz.prog 34 = some (false, 1) := by kernel_rfl
theorem tb85 : tyB Tryz.prog 85 = some (true, 1) := by kernel_rfl
theorem zr122 : zrC Tryz.prog 122 = some [.int .i64 0] := by kernel_rfl
theorem zr85 : zrC Tryz.prog 85 = some [.pointer none] := by kernel_rfl
theorem zv122 : zrV Tryz.prog 122 = some (.agg #[.int .i64 0]) := by kernel_rfl
theorem getC_put {w h : Int} {us : List TL} {d : Dt} (hc : CvOk w h us) (ho : onS w h d.x d.y = true) : getC w (putC w h us d) d.x d.y = d.c := by
  have hp := hc.pl ho
  have hq := (on_pl hc.may ho).2.2.2
  unfold getC putC
  rw [if_pos ho, tl_at (by simpa using hp), List.getElem_set_self]
  unfold TL.get TL.set
  rw [List.getD_eq_getElem?_getD, List.getElem?_set_self (by rw [TL.h]; exact hq)]
  rfl
def lastF (x y : Int) (l : List Dt) : C4 × Bool := l.foldl (fun s d => if d.x = x ∧ d.y = y then (d.c, true) else s) (zC4, false)
theorem lastF_add {x y : Int} {l : List Dt} {k : Nat} (h : k < l.length) : lastF x y (l.take (k + 1)) = if l[k].x = x ∧ l[k].y = y then (l[k].c, true) else lastF x y (l.take k) := by
  rw [List.take_succ_eq_append_getElem h, lastF, List.foldl_append]; rfl
theorem pl_inj {w h x y x2 y2 : Int} (hm : mayS w h = true) (ho : onS w h x y = true) (ho2 : onS w h x2 y2 = true) (h1 : plN w x y = plN w x2 y2) : x / 8 = x2 / 8 ∧ y / 8 = y2 / 8 := by
  have hb := mayS_b hm
  have e1 := (on_pl hm ho).1
  have e2 := (on_pl hm ho2).1
  have g1 := onS_iff.1 ho
  have g2 := onS_iff.1 ho2
  rw [h1] at e1
  have hw : w = 1 ∨ w = 2 ∨ w = 3 ∨ w = 4 := by omega
  rcases hw with rfl | rfl | rfl | rfl <;> omega
theorem px_inj {w h x y x2 y2 : Int} (hm : mayS w h = true) (ho : onS w h x y = true) (ho2 : onS w h x2 y2 = true) (h1 : plN w x y = plN w x2 y2) (h2 : pxN x y = pxN x2 y2) : x = x2 ∧ y = y2 := by
  have e1 := (on_pl hm ho).2.2.1
  have e2 := (on_pl hm ho2).2.2.1
  have e3 := pl_inj hm ho ho2 h1
  rw [h2] at e1
  omega
theorem getC_putne {w h x y : Int} {us : List TL} {d : Dt} (hc : CvOk w h us) (ho : onS w h x y = true) (hne : ¬ (d.x = x ∧ d.y = y)) : getC w (putC w h us d) x y = getC w us x y := by
  unfold putC
  split
  · rename_i hd
    unfold getC
    by_cases e : plN w d.x d.y = plN w x y
    · have e2 : pxN d.x d.y ≠ pxN x y := fun e2 => hne (px_inj hc.may hd ho e e2)
      have hp := hc.pl ho
      rw [e, tl_at (by simpa using hp), List.getElem_set_self]
      unfold TL.get TL.set
      rw [List.getD_eq_getElem?_getD, List.getElem?_set_ne e2, ← List.getD_eq_getElem?_getD]
    · rw [List.getD_eq_getElem?_getD, List.getElem?_set_ne e, ← List.getD_eq_getElem?_getD]
  · rfl
theorem getC_puts {w h x y : Int} {us : List TL} (hc : CvOk w h us) (ho : onS w h x y = true) (l : List Dt) : getC w (putsC w h us l) x y = if (lastF x y l).2 = true then (lastF x y l).1 else getC w us x y := by
  have key : ∀ k, k ≤ l.length → getC w (putsC w h us (l.take k)) x y = if (lastF x y (l.take k)).2 = true then (lastF x y (l.take k)).1 else getC w us x y := fun k => by
    induction k with
    | zero => intro _; rfl
    | succ k ih =>
      intro hk
      rw [putsC_take (by omega), lastF_add (by omega)]
      by_cases hd : l[k].x = x ∧ l[k].y = y
      · rw [if_pos hd]
        obtain ⟨rfl, rfl⟩ := hd
        rw [getC_put (hc.puts _) ho]
        rfl
      · rw [if_neg hd, getC_putne (hc.puts _) ho hd, ih (by omega)]
  have := key l.length (Nat.le_refl _)
  rwa [List.take_length] at this
theorem lastG_no {x y : Int} : ∀ {l : List Dt} (s : C4 × Bool), (∀ d ∈ l, ¬ (d.x = x ∧ d.y = y)) → l.foldl (fun s d => if d.x = x ∧ d.y = y then (d.c, true) else s) s = s
  | [], _, _ => rfl
  | d :: l, s, h => by rw [List.foldl_cons, if_neg (h d (by simp))]; exact lastG_no s fun e he => h e (List.mem_cons_of_mem _ he)
theorem lastG_yes {x y : Int} {c : C4} : ∀ {l : List Dt} (s : C4 × Bool), (∃ d ∈ l, d.x = x ∧ d.y = y) → (∀ d ∈ l, d.x = x ∧ d.y = y → d.c = c) → l.foldl (fun s d => if d.x = x ∧ d.y = y then (d.c, true) else s) s = (c, true)
  | [], _, h, _ => by obtain ⟨d, hd, _⟩ := h; cases hd
  | d :: l, s, h, hc => by
    rw [List.foldl_cons]
    by_cases hl : ∃ d ∈ l, d.x = x ∧ d.y = y
    · exact lastG_yes _ hl fun e he => hc e (List.mem_cons_of_mem _ he)
    · rw [lastG_no _ fun e he k => hl ⟨e, he, k⟩]
      obtain ⟨e, he, k⟩ := h
      rcases List.mem_cons.1 he with rfl | he
      · rw [if_pos k, hc e (by simp) k]
      · exact absurd ⟨e, he, k⟩ hl
theorem lastF_no {x y : Int} {l : List Dt} (h : ∀ d ∈ l, ¬ (d.x = x ∧ d.y = y)) : lastF x y l = (zC4, false) := lastG_no _ h
theorem lastF_yes {x y : Int} {c : C4} {l : List Dt} (he : ∃ d ∈ l, d.x = x ∧ d.y = y) (hc : ∀ d ∈ l, d.x = x ∧ d.y = y → d.c = c) : lastF x y l = (c, true) := lastG_yes _ he hc
theorem cv_ext {w h : Int} {ts us : List TL} (hc : CvOk w h ts) (hd : CvOk w h us) (he : ∀ x y, onS w h x y = true → getC w ts x y = getC w us x y) : ts = us := by
  have hb := mayS_b hc.may
  have : sameF w h ts us = true := by
    unfold sameF allEq
    refine List.all_eq_true.2 fun y hy => ?_
    unfold rowEq
    refine List.all_eq_true.2 fun x hx => ?_
    have h1 := List.mem_range.1 hy
    have h2 := List.mem_range.1 hx
    exact decide_eq_true (he _ _ (onS_iff.2 ⟨by omega, by omega⟩))
  rw [sameF_iff hc hd] at this
  simpa using this
def tsRng (ts : List TL) : Prop := ∀ t ∈ ts, ∀ c ∈ t.l, c.rng
theorem tl_rng {t : TL} (h : ∀ c ∈ t.l, c.rng) (q : Nat) : (t.get q).rng := by
  unfold TL.get
  rw [List.getD_eq_getElem?_getD]
  by_cases hq : q < t.l.length
  · rw [List.getElem?_eq_getElem hq]; exact h _ (List.getElem_mem hq)
  · rw [List.getElem?_eq_none (by omega)]; exact zC4_rng
theorem getC_rng {ts : List TL} (h : tsRng ts) (w x y : Int) : (getC w ts x y).rng := by
  unfold getC
  refine tl_rng (fun c hc => ?_) _
  rw [List.getD_eq_getElem?_getD] at hc
  by_cases hp : plN w x y < ts.length
  · rw [List.getElem?_eq_getElem hp] at hc; exact h _ (List.getElem_mem hp) c hc
  · rw [List.getElem?_eq_none (by omega)] at hc
    have : c ∈ zT.l := hc
    rw [show c = zC4 from List.eq_of_mem_replicate this]
    exact zC4_rng
def cmC (k : Bool) (u c : C4) : C4 := if k = true then overC u c else c
def dtK (k : Bool) (w : Int) (ts : List TL) (c : C4) (p : P2) : Dt := ⟨p.x, p.y, cmC k (getC w ts p.x p.y) c⟩
def mpK (k : Bool) (w : Int) (ts : List TL) (c : C4) (P : List P2) : List (P2 × C4) := P.map fun p => (p, cmC k (getC w ts p.x p.y) c)
theorem mpK_add (k : Bool) (w : Int) (ts : List TL) (c : C4) (P : List P2) (p : P2) : mpK k w ts c P ++ [(p, cmC k (getC w ts p.x p.y) c)] = mpK k w ts c (P ++ [p]) := by unfold mpK; rw [List.map_append]; rfl
theorem mpK_keys (k : Bool) (w : Int) (ts : List TL) (c : C4) (P : List P2) : (mpK k w ts c P).map (·.1) = P := by unfold mpK; rw [List.map_map]; exact List.map_id' _
theorem mpK_len (k : Bool) (w : Int) (ts : List TL) (c : C4) (P : List P2) : (mpK k w ts c P).length = P.length := by unfold mpK; simp
def lowS (H : Int) (l : List Sp) : List Sp := l.filter fun s => decide (s.y < H)
def lowB (H : Int) (l : List Sp) : Bool := l.all fun s => decide (s.y < H)
theorem lowS_all {H : Int} {l : List Sp} (h : lowB H l = true) : lowS H l = l := List.filter_eq_self.2 fun s hs => List.all_eq_true.1 h s hs
theorem lowB_add {H : Int} {l : List Sp} {i : Nat} (hi : i < l.length) (h : lowB H (l.take i) = true) (hg : l[i].y < H) : lowB H (l.take (i + 1)) = true := by
  unfold lowB at *
  rw [List.take_succ_eq_append_getElem hi, List.all_append, h]
  simpa using hg
theorem lowB_no {H : Int} {l : List Sp} {i : Nat} (hi : i < l.length) (hg : ¬ l[i].y < H) : lowB H l = false := List.all_eq_false.2 ⟨_, List.getElem_mem hi, by simpa using hg⟩
theorem lowS_stop {H : Int} {l : List Sp} (hc : chkS l) {i : Nat} (hi : i < l.length) (h : lowB H (l.take i) = true) (hg : ¬ l[i].y < H) : lowS H l = l.take i := by
  have e : l = l.take i ++ l.drop i := (List.take_append_drop i l).symm
  have h2 : lowS H (l.drop i) = [] := List.filter_eq_nil_iff.2 fun s hs => by
    obtain ⟨j, hj, rfl⟩ := List.getElem_of_mem hs
    rw [List.length_drop] at hj
    rw [List.getElem_drop]
    by_cases e : j = 0
    · subst e; simpa using hg
    · have h3 := List.pairwise_iff_getElem.1 hc.2 i (i + j) hi (by omega) (by omega)
      unfold apS at h3
      simp
      omega
  have h1 := lowS_all h
  unfold lowS at *
  rw [e, List.filter_append, h2, List.append_nil]
  rw [← e]
  exact h1
theorem lowS_mem {H : Int} {l : List Sp} {p : P2} : p ∈ ptsS (lowS H l) ↔ p ∈ ptsS l ∧ p.y < H := by
  rw [ptsS_mem, ptsS_mem]
  unfold hasS lowS
  constructor
  · rintro ⟨s, hs, h⟩
    obtain ⟨h1, h2⟩ := List.mem_filter.1 hs
    have h3 : s.y < H := by simpa using h2
    have h4 := h.1
    exact ⟨⟨s, h1, h⟩, by omega⟩
  · rintro ⟨⟨s, hs, h⟩, h2⟩
    have h4 := h.1
    exact ⟨s, List.mem_filter.2 ⟨hs, by simp; omega⟩, h⟩
theorem fresh {P Q : List P2} {q : P2} {k : Nat} (h : (P ++ Q).Nodup) (hk : k < Q.length) (hq : Q[k] = q) : q ∉ P ++ Q.take k := fun hm => by
  subst hq
  obtain ⟨h1, h2, h3⟩ := List.nodup_append.1 h
  rcases List.mem_append.1 hm with hm | hm
  · exact h3 _ hm _ (List.getElem_mem hk) rfl
  · obtain ⟨j, hj, e⟩ := List.mem_take_iff_getElem.1 hm
    have := (List.getElem_inj h2 (h₀ := by omega) (h₁ := hk)).1 e
    omega
theorem puts_tell {w h : Int} {ts : List TL} (hc : CvOk w h ts) {f : P2 → C4} {l : List Dt} (hl : ∀ d ∈ l, d.c = f ⟨d.x, d.y⟩) {x y : Int} (ho : onS w h x y = true) : getC w (putsC w h ts l) x y = if ∃ d ∈ l, d.x = x ∧ d.y = y then f ⟨x, y⟩ else getC w ts x y := by
  rw [getC_puts hc ho]
  by_cases e : ∃ d ∈ l, d.x = x ∧ d.y = y
  · rw [if_pos e, lastF_yes (c := f ⟨x, y⟩) e fun d hd e => by rw [hl d hd, e.1, e.2], if_pos rfl]
  · rw [if_neg e, lastF_no fun d hd g => e ⟨d, hd, g⟩]
    rfl
theorem puts_ext {w h : Int} {ts : List TL} (hc : CvOk w h ts) {f : P2 → C4} {l r : List Dt} (hl : ∀ d ∈ l, d.c = f ⟨d.x, d.y⟩) (hr : ∀ d ∈ r, d.c = f ⟨d.x, d.y⟩) (he : ∀ x y, onS w h x y = true → ((∃ d ∈ l, d.x = x ∧ d.y = y) ↔ ∃ d ∈ r, d.x = x ∧ d.y = y)) : putsC w h ts l = putsC w h ts r :=
  cv_ext (hc.puts l) (hc.puts r) fun x y ho => by
    rw [puts_tell hc hl ho, puts_tell hc hr ho]
    have this := he x y ho
    by_cases e : ∃ d ∈ l, d.x = x ∧ d.y = y
    · rw [if_pos e, if_pos (this.1 e)]
    · rw [if_neg e, if_neg fun g => e (this.2 g)]
theorem ptsS_nd {l : List Sp} (hl : chkS l) (i : Nat) : (ptsS (l.take i)).Nodup := ptsS_nodup ⟨fun s hs => hl.ok.1 s (List.mem_of_mem_take hs), hl.ok.2.sublist (List.take_sublist ..)⟩
theorem mpK_get {k : Bool} {w : Int} {ts : List TL} {c : C4} {P : List P2} {p : Nat} {q : P2} {e : C4} (h : (mpK k w ts c P)[p]? = some (q, e)) : P[p]? = some q ∧ e = cmC k (getC w ts q.x q.y) c := by
  unfold mpK at h
  rw [List.getElem?_map] at h
  cases h1 : P[p]? with
  | none => rw [h1] at h; cases h
  | some a => rw [h1] at h; cases h; exact ⟨rfl, rfl⟩
def drwC (k : Bool) (w h : Int) (ts : List TL) (c : C4) (l : List Sp) : List TL := putsC w h ts ((ptsS l).map (dtK k w ts c))
theorem dtK_tell (k : Bool) (w : Int) (ts : List TL) (c : C4) (P : List P2) : ∀ d ∈ P.map (dtK k w ts c), d.c = (fun p : P2 => cmC k (getC w ts p.x p.y) c) ⟨d.x, d.y⟩ := fun d hd => by
  obtain ⟨p, _, rfl⟩ := List.mem_map.1 hd
  rfl
theorem dtK_at {k : Bool} {w : Int} {ts : List TL} {c : C4} {P : List P2} {x y : Int} : (∃ d ∈ P.map (dtK k w ts c), d.x = x ∧ d.y = y) ↔ (⟨x, y⟩ : P2) ∈ P := by
  constructor
  · rintro ⟨d, hd, h1, h2⟩
    obtain ⟨p, hp, rfl⟩ := List.mem_map.1 hd
    obtain ⟨a, b⟩ := p
    change a = x at h1
    change b = y at h2
    subst h1 h2
    exact hp
  · exact fun h => ⟨_, List.mem_map.2 ⟨_, h, rfl⟩, rfl, rfl⟩
def dlN (k : Bool) (w : Int) (ts : List TL) (c : C4) (P : List P2) (sn : List Nat) : List Dt := sn.map fun p => dtK k w ts c (P.getD p zP2)
theorem dlN_add {k : Bool} {w : Int} {ts : List TL} {c : C4} {P : List P2} {sn : List Nat} {p : Nat} {q : P2} (h : P[p]? = some q) : dlN k w ts c P (sn ++ [p]) = dlN k w ts c P sn ++ [dtK k w ts c q] := by
  unfold dlN
  rw [List.map_append, List.map_cons, List.map_nil, List.getD_eq_getElem?_getD, h]
  rfl
theorem dlN_len (k : Bool) (w : Int) (ts : List TL) (c : C4) (P : List P2) (sn : List Nat) : (dlN k w ts c P sn).length = sn.length := by unfold dlN; simp
theorem dlN_puts {k : Bool} {w h : Int} {ts : List TL} (hc : CvOk w h ts) (c : C4) {l L : List Sp} (hL : ∀ x y, onS w h x y = true → ((⟨x, y⟩ : P2) ∈ ptsS L ↔ (⟨x, y⟩ : P2) ∈ ptsS l)) {sn : List Nat} (hlt : ∀ p ∈ sn, p < (ptsS L).length) (hall : ∀ p, p < (ptsS L).length → p ∈ sn) : putsC w h ts (dlN k w ts c (ptsS L) sn) = drwC k w h ts c l := by
  have e : dlN k w ts c (ptsS L) sn = (sn.map fun p => (ptsS L).getD p zP2).map (dtK k w ts c) := by unfold dlN; rw [List.map_map]; rfl
  unfold drwC
  rw [e]
  refine puts_ext hc (f := fun p : P2 => cmC k (getC w ts p.x p.y) c) (fun d hd => dtK_tell k w ts c _ d hd) (fun d hd => dtK_tell k w ts c _ d hd) fun x y ho => ?_
  rw [dtK_at, dtK_at, ← hL x y ho, List.mem_map]
  constructor
  · rintro ⟨p, hp, e⟩
    rw [List.getD_eq_getElem?_getD, List.getElem?_eq_getElem (hlt p hp)] at e
    exact e ▸ List.getElem_mem _
  · intro hm
    obtain ⟨j, hj, e⟩ := List.getElem_of_mem hm
    exact ⟨j, hall j hj, by rw [List.getD_eq_getElem?_getD, List.getElem?_eq_getElem hj]; exact e⟩
theorem low_len {H : Int} {l : List Sp} (hl : chkS l) (hn : l.length ≤ 1000000) : (ptsS (lowS H l)).length ≤ 600000000 := by
  have h1 : ((lowS H l).map Sp.wd).sum ≤ (l.map Sp.wd).sum := by
    unfold lowS
    induction l with
    | nil => exact Nat.le_refl _
    | cons a l ih =>
      have := ih ⟨fun s hs => hl.1 s (List.mem_cons_of_mem _ hs), (List.pairwise_cons.1 hl.2).2⟩ (by simp at hn; omega)
      rw [List.filter_cons]
      split
      · simp only [List.map_cons, List.sum_cons]; omega
      · simp only [List.map_cons, List.sum_cons]; omega
  have h2 := cnt_le hl l.length
  rw [List.take_length] at h2
  rw [ptsS_len]
  unfold cntS at *
  omega
theorem clip_chk {c : Bx} {l : List Sp} (h : chkS l) : chkS (clipS c l) := by
  have hk := clip_ok (c := c) h.ok
  refine ⟨fun s hs => ⟨?_, hk.1 s hs⟩, hk.2⟩
  obtain ⟨h1, h2⟩ := List.mem_filter.1 hs
  obtain ⟨r, hr, rfl⟩ := List.mem_map.1 h1
  have h3 := h.1 r hr
  have h4 := hk.1 _ hs
  unfold rchS at *
  unfold Sp.clip at *
  simp only at *
  omega
def eqP2 (a b : P2) : Bool := (a.x == b.x) && ((a.y == b.y) && true)
theorem eqP2_iff {a b : P2} : eqP2 a b = decide (a = b) := by
  obtain ⟨x, y⟩ := a
  obtain ⟨x', y'⟩ := b
  rw [Bool.eq_iff_iff]
  simp [eqP2]
theorem keyP : KeyT Tryz.prog 51 p2 where
  row := ⟨_, Tryz.underlying51, rfl⟩
  eq a b w := by
    have e : eqT Tryz.prog 9 51 (p2 a) (p2 b) = some (eqP2 a b) := by kernel_rfl
    have := eqT_run (P := Tryz.prog) 9 9991 51 _ _ _ w e
    rw [row_val tb51, row_val tb51, eqP2_iff] at this
    exact this
  chk b a w := by kernel_rfl
  bits a := by simp [Instr.sameBits, p2]
set_option maxRecDepth 4000 in
set_option maxHeartbeats 1000000 in
theorem dtold_no : DFun Tryz.prog 47 [.val .nilIface] [] (.val (.int .i64 0)) [] := by
  refine zal (N := 13) 0 (by kernel_rfl) Tryz.func47 rfl rfl rfl (by simp only [fr0, Nat.zero_add, Nat.reduceAdd]; exact rfl) rfl fun s0 hs0 => ?_
  refine zaf ?_
  refine zad ?_
  refine zab rfl rfl rfl (zac (.inr rfl) (ev1 rfl)) ?_
  refine zae ?_
  refine zaf ?_
  refine zaf ?_
  refine zah 1 (by simp only [holes, List.cons_append, List.nil_append]; exact rfl) ?_
  refine zad ?_
  refine zab rfl rfl rfl (zac (.inl rfl) (ev1 rfl)) ?_
  refine zab rfl rfl rfl (op_tan rfl ni122 zv122 (ev1 rfl)) ?_
  refine zab rfl rfl rfl (zac (.inl rfl) (ev1 rfl)) ?_
  refine zab rfl rfl rfl (op_ext rfl (ev1 rfl) rfl) ?_
  refine zab rfl rfl rfl (op_ext rfl (ev1 rfl) rfl) ?_
  refine zaj rfl rfl rfl (op_alloc 0 rfl zr122 rfl) (by simp only [upd, zaa, za]; exact rfl) ?_
  refine walk_s rfl rfl (op_stwa rfl tb122 (ev1 rfl) (ev1 rfl) rfl rfl rfl rfl) (by simp only [upd, zaa, za]; exact rfl) ?_
  refine zab rfl rfl rfl (zac (.inr rfl) (ev1 rfl)) ?_
  refine zae ?_
  refine zaf ?_
  refine zad ?_
  refine zab rfl rfl rfl (zac (.inl rfl) (ev1 rfl)) ?_
  refine zae ?_
  refine dwp_if_f rfl (rfl) ?_
  refine dwp_skip ?_
  refine zaf ?_
  refine zad ?_
  refine zab rfl rfl rfl (zac (.inr rfl) (ev1 rfl)) ?_
  refine zae ?_
  refine dwp_ret ?_
  refine kend0 (rs1 rfl (rv_t rfl)) rfl ?_
  rfl
set_option maxRecDepth 4000 in
set_option maxHeartbeats 1000000 in
theorem dtold_w (n : Int) : DFun Tryz.prog 47 [.ifc 122 (.val (.agg #[.int .i64 n]))] [] (.val (.int .i64 n)) [] := by
  refine zal (N := 13) 0 (by kernel_rfl) Tryz.func47 rfl rfl rfl (by simp only [fr0, Nat.zero_add, Nat.reduceAdd]; exact rfl) rfl fun s0 hs0 => ?_
  refine zaf ?_
  refine zad ?_
  refine zab rfl rfl rfl (zac (.inr rfl) (ev1 rfl)) ?_
  refine zae ?_
  refine zaf ?_
  refine zaf ?_
  refine zah 1 (by simp only [holes, List.cons_append, List.nil_append]; exact rfl) ?_
  refine zad ?_
  refine zab rfl rfl rfl (zac (.inl rfl) (ev1 rfl)) ?_
  refine zab rfl rfl rfl (op_tay rfl ni122 (ev1 rfl)) ?_
  refine zab rfl rfl rfl (zac (.inl rfl) (ev1 rfl)) ?_
  refine zab rfl rfl rfl (op_ext rfl (ev1 rfl) rfl) ?_
  refine zab rfl rfl rfl (op_ext rfl (ev1 rfl) rfl) ?_
  refine zaj rfl rfl rfl (op_alloc 0 rfl zr122 rfl) (by simp only [upd, zaa, za]; exact rfl) ?_
  refine walk_s rfl rfl (op_stwa rfl tb122 (ev1 rfl) (ev1 rfl) rfl rfl rfl rfl) (by simp only [upd, zaa, za]; exact rfl) ?_
  refine zab rfl rfl rfl (zac (.inr rfl) (ev1 rfl)) ?_
  refine zae ?_
  refine zaf ?_
  refine zad ?_
  refine zab rfl rfl rfl (zac (.inl rfl) (ev1 rfl)) ?_
  refine zae ?_
  refine dwp_if_t rfl (rfl) ?_
  refine zaf ?_
  refine zad ?_
  refine zab rfl rfl rfl (op_fa rfl fo122_0 (ev1 rfl)) ?_
  refine zab rfl rfl rfl (op_ldo rfl tb34 (ev1 rfl) rfl rfl) ?_
  refine zab rfl rfl rfl (zac (.inr rfl) (ev1 rfl)) ?_
  refine zae ?_
  refine dwp_ret ?_
  refine kend0 (rs1 rfl (rv_t rfl)) rfl ?_
  rfl
set_option maxRecDepth 4000 in
set_option maxHeartbeats 1000000 in
theorem dpaint1_idle (e : Int) : DDef Tryz.prog 46 [.loc 0 0] [.flat 34 [.int .i64 e]] none none [.flat 34 [.int .i64 0]] := by
  refine ddef_go1 (dr := .tup []) (t := 1) (N := 3) 1 (by kernel_rfl) Tryz.func46 rfl rfl rfl (by simp only [fr0, Nat.zero_add, Nat.reduceAdd]; exact rfl) rfl rfl rfl rfl rfl fun s0 hs0 => ?_
  refine zab rfl rfl rfl (zai [] [] [] rfl (ev1 rfl) (ec (ev1 rfl) en) rfl rfl (dtold_no) rfl rfl rfl rfl rfl rfl) ?_
  refine walk_s rfl rfl (op_stwi rfl tb34 (ev1 rfl) (ev1 rfl) rfl) (by simp only [upd, zaa, za]; exact rfl) ?_
  refine zae ?_
  refine kend [0] (res_none rfl) rfl rfl ?_ ⟨rfl, trivial⟩
  rfl
set_option maxRecDepth 4000 in
set_option maxHeartbeats 1000000 in
theorem dpaint1_caught (e n : Int) : DDef Tryz.prog 46 [.loc 0 0] [.flat 34 [.int .i64 e]] (some (.ifc 122 (.val (.agg #[.int .i64 n])))) none [.flat 34 [.int .i64 n]] := by
  refine ddef_go1 (dr := .tup []) (t := 1) (N := 3) 1 (by kernel_rfl) Tryz.func46 rfl rfl rfl (by simp only [fr0, Nat.zero_add, Nat.reduceAdd]; exact rfl) rfl rfl rfl rfl rfl fun s0 hs0 => ?_
  refine zab rfl rfl rfl (zai [] [] [] rfl (ev1 rfl) (ec (ev1 rfl) en) rfl rfl (dtold_w n) rfl rfl rfl rfl rfl rfl) ?_
  refine walk_s rfl rfl (op_stwi rfl tb34 (ev1 rfl) (ev1 rfl) rfl) (by simp only [upd, zaa, za]; exact rfl) ?_
  refine zae ?_
  refine kend [0] (res_none rfl) rfl rfl ?_ ⟨rfl, trivial⟩
  rfl
set_option maxRecDepth 4000 in
set_option maxHeartbeats 1000000 in
theorem dwash1_idle (e : Int) : DDef Tryz.prog 51 [.loc 0 0] [.flat 34 [.int .i64 e]] none none [.flat 34 [.int .i64 0]] := by
  refine ddef_go1 (dr := .tup []) (t := 1) (N := 3) 1 (by kernel_rfl) Tryz.func51 rfl rfl rfl (by simp only [fr0, Nat.zero_add, Nat.reduceAdd]; exact rfl) rfl rfl rfl rfl rfl fun s0 hs0 => ?_
  refine zab rfl rfl rfl (zai [] [] [] rfl (ev1 rfl) (ec (ev1 rfl) en) rfl rfl (dtold_no) rfl rfl rfl rfl rfl rfl) ?_
  refine walk_s rfl rfl (op_stwi rfl tb34 (ev1 rfl) (ev1 rfl) rfl) (by simp only [upd, zaa, za]; exact rfl) ?_
  refine zae ?_
  refine kend [0] (res_none rfl) rfl rfl ?_ ⟨rfl, trivial⟩
  rfl
set_option maxRecDepth 4000 in
set_option maxHeartbeats 1000000 in
theorem dwash1_caught (e n : Int) : DDef Tryz.prog 51 [.loc 0 0] [.flat 34 [.int .i64 e]] (some (.ifc 122 (.val (.agg #[.int .i64 n])))) none [.flat 34 [.int .i64 n]] := by
  refine ddef_go1 (dr := .tup []) (t := 1) (N := 3) 1 (by kernel_rfl) Tryz.func51 rfl rfl rfl (by simp only [fr0, Nat.zero_add, Nat.reduceAdd]; exact rfl) rfl rfl rfl rfl rfl fun s0 hs0 => ?_
  refine zab rfl rfl rfl (zai [] [] [] rfl (ev1 rfl) (ec (ev1 rfl) en) rfl rfl (dtold_w n) rfl rfl rfl rfl rfl rfl) ?_
  refine walk_s rfl rfl (op_stwi rfl tb34 (ev1 rfl) (ev1 rfl) rfl) (by simp only [upd, zaa, za]; exact rfl) ?_
  refine zae ?_
  refine kend [0] (res_none rfl) rfl rfl ?_ ⟨rfl, trivial⟩
  rfl
set_option maxRecDepth 4000 in
set_option maxHeartbeats 1000000 in
theorem dstroke1_caught (e n : Int) : DDef Tryz.prog 63 [.loc 0 0] [.flat 34 [.int .i64 e]] (some (.ifc 122 (.val (.agg #[.int .i64 n])))) none [.flat 34 [.int .i64 n]] := by
  refine ddef_go1 (dr := .tup []) (t := 1) (N := 3) 1 (by kernel_rfl) Tryz.func63 rfl rfl rfl (by simp only [fr0, Nat.zero_add, Nat.reduceAdd]; exact rfl) rfl rfl rfl rfl rfl fun s0 hs0 => ?_
  refine zab rfl rfl rfl (zai [] [] [] rfl (ev1 rfl) (ec (ev1 rfl) en) rfl rfl (dtold_w n) rfl rfl rfl rfl rfl rfl) ?_
  refine walk_s rfl rfl (op_stwi rfl tb34 (ev1 rfl) (ev1 rfl) rfl) (by simp only [upd, zaa, za]; exact rfl) ?_
  refine zae ?_
  refine kend [0] (res_none rfl) rfl rfl ?_ ⟨rfl, trivial⟩
  rfl
set_option maxRecDepth 4000 in
set_option maxHeartbeats 1000000 in
theorem dline1_idle (e : Int) : DDef Tryz.prog 67 [.loc 0 0] [.flat 34 [.int .i64 e]] none none [.flat 34 [.int .i64 0]] := by
  refine ddef_go1 (dr := .tup []) (t := 1) (N := 3) 1 (by kernel_rfl) Tryz.func67 rfl rfl rfl (by simp only [fr0, Nat.zero_add, Nat.reduceAdd]; exact rfl) rfl rfl rfl rfl rfl fun s0 hs0 => ?_
  refine zab rfl rfl rfl (zai [] [] [] rfl (ev1 rfl) (ec (ev1 rfl) en) rfl rfl (dtold_no) rfl rfl rfl rfl rfl rfl) ?_
  refine walk_s rfl rfl (op_stwi rfl tb34 (ev1 rfl) (ev1 rfl) rfl) (by simp only [upd, zaa, za]; exact rfl) ?_
  refine zae ?_
  refine kend [0] (res_none rfl) rfl rfl ?_ ⟨rfl, trivial⟩
  rfl
set_option maxRecDepth 4000 in
set_option maxHeartbeats 1000000 in
theorem drect1_idle (e : Int) : DDef Tryz.prog 70 [.loc 0 0] [.flat 34 [.int .i64 e]] none none [.flat 34 [.int .i64 0]] := by
  refine ddef_go1 (dr := .tup []) (t := 1) (N := 3) 1 (by kernel_rfl) Tryz.func70 rfl rfl rfl (by simp only [fr0, Nat.zero_add, Nat.reduceAdd]; exact rfl) rfl rfl rfl rfl rfl fun s0 hs0 => ?_
  refine zab rfl rfl rfl (zai [] [] [] rfl (ev1 rfl) (ec (ev1 rfl) en) rfl rfl (dtold_no) rfl rfl rfl rfl rfl rfl) ?_
  refine walk_s rfl rfl (op_stwi rfl tb34 (ev1 rfl) (ev1 rfl) rfl) (by simp only [upd, zaa, za]; exact rfl) ?_
  refine zae ?_
  refine kend [0] (res_none rfl) rfl rfl ?_ ⟨rfl, trivial⟩
  rfl
set_option maxRecDepth 4000 in
set_option maxHeartbeats 1000000 in
theorem dframe1_idle (e : Int) : DDef Tryz.prog 72 [.loc 0 0] [.flat 34 [.int .i64 e]] none none [.flat 34 [.int .i64 0]] := by
  refine ddef_go1 (dr := .tup []) (t := 1) (N := 3) 1 (by kernel_rfl) Tryz.func72 rfl rfl rfl (by simp only [fr0, Nat.zero_add, Nat.reduceAdd]; exact rfl) rfl rfl rfl rfl rfl fun s0 hs0 => ?_
  refine zab rfl rfl rfl (zai [] [] [] rfl (ev1 rfl) (ec (ev1 rfl) en) rfl rfl (dtold_no) rfl rfl rfl rfl rfl rfl) ?_
  refine walk_s rfl rfl (op_stwi rfl tb34 (ev1 rfl) (ev1 rfl) rfl) (by simp only [upd, zaa, za]; exact rfl) ?_
  refine zae ?_
  refine kend [0] (res_none rfl) rfl rfl ?_ ⟨rfl, trivial⟩
  rfl
set_option maxRecDepth 4000 in
set_option maxHeartbeats 1000000 in
theorem mustS_d (l : List Sp) : DFun Tryz.prog 64 [.slf 3 l.length (l.flatMap s3), .val (.int .i64 0)] [] (.slf 3 l.length (l.flatMap s3)) [] := by
  refine zal (N := 11) 0 (by kernel_rfl) Tryz.func64 rfl rfl rfl (by simp only [fr0, Nat.zero_add, Nat.reduceAdd]; exact rfl) rfl fun s0 hs0 => ?_
  refine dwp_len (t := 0) rfl fun hl0 hL0 => ?_
  refine zaf ?_
  refine zad ?_
  refine zab rfl rfl rfl (zac (.inr rfl) (ev1 rfl)) ?_
  refine zae ?_
  refine zaf ?_
  refine zaf ?_
  refine zad ?_
  refine zab rfl rfl rfl (zac (.inl rfl) (ev1 rfl)) ?_
  refine zab rfl rfl rfl (op_neq rfl (ev1 rfl) (ev1 rfl)) ?_
  refine zae ?_
  refine dwp_if_f rfl (rfl) ?_
  refine dwp_skip ?_
  refine zaf ?_
  refine zad ?_
  refine zab rfl rfl rfl (zac (.inl rfl) (ev1 rfl)) ?_
  refine zab rfl rfl rfl (zac (.inr rfl) (ev1 rfl)) ?_
  refine zae ?_
  refine dwp_ret ?_
  refine kend0 (rs1 rfl (rv_t rfl)) rfl ?_
  rfl
set_option maxRecDepth 4000 in
set_option maxHeartbeats 1000000 in
theorem mustP_d (l : List P2) : DFun Tryz.prog 68 [.slf 2 l.length (l.flatMap p2), .val (.int .i64 0)] [] (.slf 2 l.length (l.flatMap p2)) [] := by
  refine zal (N := 11) 0 (by kernel_rfl) Tryz.func68 rfl rfl rfl (by simp only [fr0, Nat.zero_add, Nat.reduceAdd]; exact rfl) rfl fun s0 hs0 => ?_
  refine dwp_len (t := 0) rfl fun hl0 hL0 => ?_
  refine zaf ?_
  refine zad ?_
  refine zab rfl rfl rfl (zac (.inr rfl) (ev1 rfl)) ?_
  refine zae ?_
  refine zaf ?_
  refine zaf ?_
  refine zad ?_
  refine zab rfl rfl rfl (zac (.inl rfl) (ev1 rfl)) ?_
  refine zab rfl rfl rfl (op_neq rfl (ev1 rfl) (ev1 rfl)) ?_
  refine zae ?_
  refine dwp_if_f rfl (rfl) ?_
  refine dwp_skip ?_
  refine zaf ?_
  refine zad ?_
  refine zab rfl rfl rfl (zac (.inl rfl) (ev1 rfl)) ?_
  refine zab rfl rfl rfl (zac (.inr rfl) (ev1 rfl)) ?_
  refine zae ?_
  refine dwp_ret ?_
  refine kend0 (rs1 rfl (rv_t rfl)) rfl ?_
  rfl
set_option maxRecDepth 4000 in
set_option maxHeartbeats 1000000 in
theorem mustS_p (l : List Sp) (n : Int) (hn : n ≠ 0) : DPan Tryz.prog 64 [.slf 3 l.length (l.flatMap s3), .val (.int .i64 n)] [] (.ifc 122 (.val (.agg #[.int .i64 n]))) [] := by
  refine zal (N := 11) 0 (by kernel_rfl) Tryz.func64 rfl rfl rfl (by simp only [fr0, Nat.zero_add, Nat.reduceAdd]; exact rfl) rfl fun s0 hs0 => ?_
  refine dwp_len (t := 0) rfl fun hl0 hL0 => ?_
  refine zaf ?_
  refine zad ?_
  refine zab rfl rfl rfl (zac (.inr rfl) (ev1 rfl)) ?_
  refine zae ?_
  refine zaf ?_
  refine zaf ?_
  refine zad ?_
  refine zab rfl rfl rfl (zac (.inl rfl) (ev1 rfl)) ?_
  refine zab rfl rfl rfl (op_neq rfl (ev1 rfl) (ev1 rfl)) ?_
  refine zae ?_
  refine dwp_if_t rfl (by simpa using hn) ?_
  refine zad ?_
  refine zab rfl rfl rfl (zac (.inl rfl) (ev1 rfl)) ?_
  refine zab rfl rfl rfl (op_build (ps := [(0, .tmp 7)]) rfl fl122 zr122 (vc (ev1 rfl) vn) rfl rfl) ?_
  refine zab rfl rfl rfl (op_mi rfl ni122 (ev1 rfl)) ?_
  refine walk_p rfl (op_pan rfl (ev1 rfl)) rfl ?_
  refine kpan0 rfl ?_
  rfl
set_option maxRecDepth 4000 in
set_option maxHeartbeats 1000000 in
theorem easel_d (w h : Int) (ds : List D) : DFun Tryz.prog 48 [cvD w h ds] [] (.agg [cvD w h ds]) [] := by
  refine zal (N := 9) 0 (by kernel_rfl) Tryz.func48 rfl rfl rfl (by simp only [fr0, Nat.zero_add, Nat.reduceAdd]; exact rfl) rfl fun s0 hs0 => ?_
  refine zaf ?_
  refine zah 1 (by simp only [holes, List.cons_append, List.nil_append]; exact rfl) ?_
  refine zad ?_
  refine zaj rfl rfl rfl (op_alloc 0 rfl zr85 rfl) (by simp only [upd, zaa, za]; exact rfl) ?_
  refine zae ?_
  refine zaf ?_
  refine zaf ?_
  refine zad ?_
  refine zab rfl rfl rfl (zac (.inl rfl) (ev1 rfl)) ?_
  refine zab rfl rfl rfl (op_pnilm rfl pt33 (ev1 rfl)) ?_
  refine zae ?_
  refine dwp_if_f rfl (by simp) ?_
  refine dwp_skip ?_
  refine zaf ?_
  refine zad ?_
  refine zab rfl rfl rfl (zac (.inl rfl) (ev1 rfl)) ?_
  refine zab rfl rfl rfl (op_bldD (ps := [(0, .tmp 7)]) rfl fl85 zr85 (ec (ev1 rfl) en) rfl rfl rfl) ?_
  refine walk_s rfl rfl (op_stam2 rfl tb85 (ev1 rfl) (ev1 rfl) rfl rfl rfl rfl) (by simp only [upd, zaa, za]; exact rfl) ?_
  refine zae ?_
  refine dwp_ret ?_
  refine kend0 (rs1 rfl (rv_mw tb85 rfl rfl rfl)) rfl ?_
  rfl
set_option maxRecDepth 4000 in
set_option maxHeartbeats 1000000 in
theorem easel_p : DPan Tryz.prog 48 [.val (.pointer none)] [] (.ifc 122 (.val (.agg #[.int .i64 1]))) [] := by
  refine zal (N := 9) 0 (by kernel_rfl) Tryz.func48 rfl rfl rfl (by simp only [fr0, Nat.zero_add, Nat.reduceAdd]; exact rfl) rfl fun s0 hs0 => ?_
  refine zaf ?_
  refine zah 1 (by simp only [holes, List.cons_append, List.nil_append]; exact rfl) ?_
  refine zad ?_
  refine zaj rfl rfl rfl (op_alloc 0 rfl zr85 rfl) (by simp only [upd, zaa, za]; exact rfl) ?_
  refine zae ?_
  refine zaf ?_
  refine zaf ?_
  refine zad ?_
  refine zab rfl rfl rfl (zac (.inl rfl) (ev1 rfl)) ?_
  refine zab rfl rfl rfl (op_pnil0 rfl pt33 (ev1 rfl)) ?_
  refine zae ?_
  refine dwp_if_t rfl (rfl) ?_
  refine zad ?_
  refine zab rfl rfl rfl (op_build (ps := [(0, .const (.int .i64 1))]) rfl fl122 zr122 (vc (ev1 rfl) vn) rfl rfl) ?_
  refine zab rfl rfl rfl (op_mi rfl ni122 (ev1 rfl)) ?_
  refine walk_p rfl (op_pan rfl (ev1 rfl)) rfl ?_
  refine kpan0 rfl ?_
  rfl
set_option maxRecDepth 4000 in
set_option maxHeartbeats 1000000 in
theorem paints_d (cc : C4) : DFun Tryz.prog 50 [.val (.agg (c4 cc).toArray)] [] (.fn (.func 86) [] [.loc 0 0]) [.flat 27 (c4 cc)] := by
  refine zal (N := 4) 0 (by kernel_rfl) Tryz.func50 rfl rfl rfl (by simp only [fr0, Nat.zero_add, Nat.reduceAdd]; exact rfl) rfl fun s0 hs0 => ?_
  refine zaf ?_
  refine zah 1 (by simp only [holes, List.cons_append, List.nil_append]; exact rfl) ?_
  refine zad ?_
  refine zaj rfl rfl rfl (op_boxa 0 rfl (ev1 rfl) rfl) (by simp only [upd, zaa, za]; exact rfl) ?_
  refine zab rfl rfl rfl (zac (.inr rfl) (ev1 rfl)) ?_
  refine zae ?_
  refine zaf ?_
  refine zad ?_
  refine zab rfl rfl rfl (op_mkf rfl en (ec (ev1 rfl) en)) ?_
  refine zab rfl rfl rfl (zac (.inr rfl) (ev1 rfl)) ?_
  refine zae ?_
  refine dwp_ret ?_
  refine kend [0] (rs1 rfl (rv_t rfl)) rfl rfl ?_ ⟨rfl, trivial⟩
  rfl
set_option maxRecDepth 4000 in
set_option maxHeartbeats 1000000 in
theorem washes_d (cc : C4) : DFun Tryz.prog 52 [.val (.agg (c4 cc).toArray)] [] (.fn (.func 87) [] [.loc 0 0]) [.flat 27 (c4 cc)] := by
  refine zal (N := 4) 0 (by kernel_rfl) Tryz.func52 rfl rfl rfl (by simp only [fr0, Nat.zero_add, Nat.reduceAdd]; exact rfl) rfl fun s0 hs0 => ?_
  refine zaf ?_
  refine zah 1 (by simp only [holes, List.cons_append, List.nil_append]; exact rfl) ?_
  refine zad ?_
  refine zaj rfl rfl rfl (op_boxa 0 rfl (ev1 rfl) rfl) (by simp only [upd, zaa, za]; exact rfl) ?_
  refine zab rfl rfl rfl (zac (.inr rfl) (ev1 rfl)) ?_
  refine zae ?_
  refine zaf ?_
  refine zad ?_
  refine zab rfl rfl rfl (op_mkf rfl en (ec (ev1 rfl) en)) ?_
  refine zab rfl rfl rfl (zac (.inr rfl) (ev1 rfl)) ?_
  refine zae ?_
  refine dwp_ret ?_
  refine kend [0] (rs1 rfl (rv_t rfl)) rfl rfl ?_ ⟨rfl, trivial⟩
  rfl
set_option maxRecDepth 4000 in
set_option maxHeartbeats 1000000 in
theorem come_p (cc u : C4) : DFun Tryz.prog 86 [.val (.agg (c4 u).toArray), .loc 0 0] [.flat 27 (c4 cc)] (.val (.agg (c4 cc).toArray)) [.flat 27 (c4 cc)] := by
  refine zal (N := 5) 1 (by kernel_rfl) Tryz.func86 rfl rfl rfl (by simp only [fr0, Nat.zero_add, Nat.reduceAdd]; exact rfl) rfl fun s0 hs0 => ?_
  refine zaf ?_
  refine zah 2 (by simp only [holes, List.cons_append, List.nil_append]; exact rfl) ?_
  refine zad ?_
  refine zaj rfl rfl rfl (op_boxa 1 rfl (ev1 rfl) rfl) (by simp only [upd, zaa, za]; exact rfl) ?_
  refine zaj rfl rfl rfl (op_alloc 2 rfl zr27 rfl) (by simp only [upd, zaa, za]; exact rfl) ?_
  refine zae ?_
  refine zaf ?_
  refine zad ?_
  refine zab rfl rfl rfl (op_ldw rfl tb27 (ev1 rfl) rfl rfl) ?_
  refine walk_s rfl rfl (op_stwa rfl tb27 (ev1 rfl) (ev1 rfl) rfl rfl rfl rfl) (by simp only [upd, zaa, za]; exact rfl) ?_
  refine zae ?_
  refine dwp_ret ?_
  refine kend [0] (rs1 rfl (rv_w tb27 rfl rfl rfl)) rfl rfl ?_ ⟨rfl, trivial⟩
  rfl
set_option maxRecDepth 4000 in
set_option maxHeartbeats 1000000 in
theorem come_w (cc u : C4) (hu : u.rng) (hc : cc.rng) : DFun Tryz.prog 87 [.val (.agg (c4 u).toArray), .loc 0 0] [.flat 27 (c4 cc)] (.val (.agg (c4 (overC u cc)).toArray)) [.flat 27 (c4 cc)] := by
  refine zal (N := 7) 1 (by kernel_rfl) Tryz.func87 rfl rfl rfl (by simp only [fr0, Nat.zero_add, Nat.reduceAdd]; exact rfl) rfl fun s0 hs0 => ?_
  refine zaf ?_
  refine zah 2 (by simp only [holes, List.cons_append, List.nil_append]; exact rfl) ?_
  refine zad ?_
  refine zaj rfl rfl rfl (op_boxa 1 rfl (ev1 rfl) rfl) (by simp only [upd, zaa, za]; exact rfl) ?_
  refine zaj rfl rfl rfl (op_alloc 2 rfl zr27 rfl) (by simp only [upd, zaa, za]; exact rfl) ?_
  refine zae ?_
  refine zaf ?_
  refine zad ?_
  refine zab rfl rfl rfl (op_ldw rfl tb27 (ev1 rfl) rfl rfl) ?_
  refine zab rfl rfl rfl (op_ldw rfl tb27 (ev1 rfl) rfl rfl) ?_
  refine zab rfl rfl rfl (zai [] [] [] rfl (ev1 rfl) (ec (ev1 rfl) (ec (ev1 rfl) en)) rfl rfl (over_d u cc hu hc) rfl rfl rfl rfl rfl rfl) ?_
  refine walk_s rfl rfl (op_stwa rfl tb27 (ev1 rfl) (ev1 rfl) rfl rfl rfl rfl) (by simp only [upd, zaa, za]; exact rfl) ?_
  refine zae ?_
  refine dwp_ret ?_
  refine kend [0] (rs1 rfl (rv_w tb27 rfl rfl rfl)) rfl rfl ?_ ⟨rfl, trivial⟩
  rfl
end Go.Proofs.YtjgnalfnginjbaaGreatDoor
namespace Go.Proofs.YtjgnalfnginjbaaGreatDoor
set_option maxRecDepth 4000
set_option linter.unusedVariables false
set_option linter.unusedSimpArgs false
open Go.RowKit
theorem fl147 : fdL Tryz.prog 147 = some [(0, 1), (1, 1), (2, 1), (3, 1)] := by kernel_rfl
theorem fo85_0 : fdO Tryz.prog 85 0 = some 0 := by kernel_rfl
theorem mp124 : mpT Tryz.prog 124 = some (51, 27) := by kernel_rfl
theorem tb124 : tyB Tryz.prog 124 = some (false, 1) := by kernel_rfl
theorem tb148 : tyB Tryz.prog 148 = some (false, 1) := by kernel_rfl
theorem tb88 : tyB Tryz.prog 88 = some (false, 1) := by kernel_rfl
theorem zr147 : zrC Tryz.prog 147 = some [.int .i64 0, .int .i64 0, .int .i64 0, .int .i64 0] := by kernel_rfl
set_option maxRecDepth 4000 in
set_option maxHeartbeats 1000000 in
theorem pixels_d (w h : Int) (ds : List D) (ts : List TL) (hr : RowOk ds ts) (hc : CvOk w h ts) (l : List Sp) (hl : chkS l) (hn : l.length ≤ 1000000) : DFun Tryz.prog 84 [.agg [cvD w h ds], .slf 3 l.length (l.flatMap s3)] [] (.fn (.func 106) [] [.loc 0 0, .loc 1 0, .loc 2 0]) [.mix 25 [.slf 3 (clipS (⟨0, 0, w * 8 - 1, 255⟩ : Bx) l).length ((clipS (⟨0, 0, w * 8 - 1, 255⟩ : Bx) l).flatMap s3)], .flat 3 [.int .i64 (h * 8)], .mix 85 [cvD w h ds]] := by
  have hb := mayS_b hc.may
  refine zal (N := 23) 0 (by kernel_rfl) Tryz.func84 rfl rfl rfl (by simp only [fr0, Nat.zero_add, Nat.reduceAdd]; exact rfl) rfl fun s0 hs0 => ?_
  refine dwp_len (t := 1) rfl fun hl1 hL1 => ?_
  refine zaf ?_
  refine zah 1 (by simp only [holes, List.cons_append, List.nil_append]; exact rfl) ?_
  refine zad ?_
  refine zaj rfl rfl rfl (op_boxam 0 rfl (ev1 rfl) rfl) (by simp only [upd, zaa, za]; exact rfl) ?_
  refine zab rfl rfl rfl (zac (.inr rfl) (ev1 rfl)) ?_
  refine zae ?_
  refine zaf ?_
  refine zah 1 (by simp only [holes, List.cons_append, List.nil_append]; exact rfl) ?_
  refine zad ?_
  refine zab rfl rfl rfl (op_fa rfl fo85_0 (ev1 rfl)) ?_
  refine zab rfl rfl rfl (op_ldm rfl tb33 (ev1 rfl) rfl rfl) ?_
  refine zab rfl rfl rfl (zai [] [] [] rfl (ev1 rfl) (ec (ev1 rfl) en) rfl rfl (size_d w h ds ts hr hc) rfl rfl rfl rfl rfl rfl) ?_
  refine zab rfl rfl rfl (zac (.inl rfl) (ev1 rfl)) ?_
  refine zab rfl rfl rfl (op_ext rfl (ev1 rfl) rfl) ?_
  refine zab rfl rfl rfl (op_ext rfl (ev1 rfl) rfl) ?_
  refine zaj rfl rfl rfl (op_alloc 1 rfl zr3 rfl) (by simp only [upd, zaa, za]; exact rfl) ?_
  refine zab rfl rfl rfl (zac (.inr rfl) (ev1 rfl)) ?_
  refine walk_s rfl rfl (op_stwi rfl tb3 (ev1 rfl) (ev1 rfl) rfl) (by simp only [upd, zaa, za]; exact rfl) ?_
  refine zae ?_
  refine zaf ?_
  refine zah 1 (by simp only [holes, List.cons_append, List.nil_append]; exact rfl) ?_
  refine zad ?_
  refine zab rfl rfl rfl (zac (.inl rfl) (ev1 rfl)) ?_
  refine zab rfl rfl rfl (zac (.inl rfl) (ev1 rfl)) ?_
  refine zab rfl rfl rfl (op_sub' rfl (ev1 rfl) (ev1 rfl) (fun _ => IntWalk.i64_in _ (by omega))) ?_
  refine zab rfl rfl rfl (op_build (ps := [(2, .tmp 16), (3, .const (.int .i64 255))]) rfl fl147 zr147 (vc (ev1 rfl) (vc (ev1 rfl) vn)) rfl rfl) ?_
  refine zab rfl rfl rfl (zai [] [] [] rfl (ev1 rfl) (ec (ev1 rfl) (ec (ev1 rfl) en)) rfl rfl (clip_d l (⟨0, 0, w * 8 - 1, 255⟩ : Bx) hn) rfl rfl rfl rfl rfl rfl) ?_
  refine zab rfl rfl rfl ((op_ext rfl (ev1 rfl) rfl).cast (d' := .slf 3 (clipS (⟨0, 0, w * 8 - 1, 255⟩ : Bx) l).length ((clipS (⟨0, 0, w * 8 - 1, 255⟩ : Bx) l).flatMap s3)) (by rw [clipL_ok hl])) ?_
  refine zab rfl rfl rfl ((op_ext rfl (ev1 rfl) rfl).cast (d' := .val (.int .i64 0)) (by rw [chkE_ok hl])) ?_
  refine zab rfl rfl rfl (zai [] [] [] rfl (ev1 rfl) (ec (ev1 rfl) (ec (ev1 rfl) en)) rfl rfl (mustS_d (clipS (⟨0, 0, w * 8 - 1, 255⟩ : Bx) l)) rfl rfl rfl rfl rfl rfl) ?_
  refine zaj rfl rfl rfl (op_alloc 2 rfl zr25 rfl) (by simp only [upd, zaa, za]; exact rfl) ?_
  refine walk_s rfl rfl (op_stfm rfl tb25 (ev1 rfl) (ev1 rfl) (fun s v h => by cases h <;> exact ⟨rfl, rfl⟩) rfl (by decide)) (by simp only [upd, zaa, za]; exact rfl) ?_
  refine zae ?_
  refine zaf ?_
  refine zad ?_
  refine zab rfl rfl rfl (op_mkf rfl en (ec (ev1 rfl) (ec (ev1 rfl) (ec (ev1 rfl) en)))) ?_
  refine zab rfl rfl rfl (zac (.inr rfl) (ev1 rfl)) ?_
  refine zae ?_
  refine dwp_ret ?_
  refine kend [2, 1, 0] (rs1 rfl (rv_t rfl)) rfl rfl ?_ ⟨rfl, rfl, rfl, trivial⟩
  rfl
set_option maxRecDepth 4000 in
set_option maxHeartbeats 1000000 in
theorem pixels_p (w h : Int) (ds : List D) (ts : List TL) (hr : RowOk ds ts) (hc : CvOk w h ts) (l : List Sp) (hl : ¬ chkS l) (hn : l.length ≤ 1000000) : DPan Tryz.prog 84 [.agg [cvD w h ds], .slf 3 l.length (l.flatMap s3)] [] (.ifc 122 (.val (.agg #[.int .i64 160]))) [] := by
  have hb := mayS_b hc.may
  refine zal (N := 23) 0 (by kernel_rfl) Tryz.func84 rfl rfl rfl (by simp only [fr0, Nat.zero_add, Nat.reduceAdd]; exact rfl) rfl fun s0 hs0 => ?_
  refine dwp_len (t := 1) rfl fun hl1 hL1 => ?_
  refine zaf ?_
  refine zah 1 (by simp only [holes, List.cons_append, List.nil_append]; exact rfl) ?_
  refine zad ?_
  refine zaj rfl rfl rfl (op_boxam 0 rfl (ev1 rfl) rfl) (by simp only [upd, zaa, za]; exact rfl) ?_
  refine zab rfl rfl rfl (zac (.inr rfl) (ev1 rfl)) ?_
  refine zae ?_
  refine zaf ?_
  refine zah 1 (by simp only [holes, List.cons_append, List.nil_append]; exact rfl) ?_
  refine zad ?_
  refine zab rfl rfl rfl (op_fa rfl fo85_0 (ev1 rfl)) ?_
  refine zab rfl rfl rfl (op_ldm rfl tb33 (ev1 rfl) rfl rfl) ?_
  refine zab rfl rfl rfl (zai [] [] [] rfl (ev1 rfl) (ec (ev1 rfl) en) rfl rfl (size_d w h ds ts hr hc) rfl rfl rfl rfl rfl rfl) ?_
  refine zab rfl rfl rfl (zac (.inl rfl) (ev1 rfl)) ?_
  refine zab rfl rfl rfl (op_ext rfl (ev1 rfl) rfl) ?_
  refine zab rfl rfl rfl (op_ext rfl (ev1 rfl) rfl) ?_
  refine zaj rfl rfl rfl (op_alloc 1 rfl zr3 rfl) (by simp only [upd, zaa, za]; exact rfl) ?_
  refine zab rfl rfl rfl (zac (.inr rfl) (ev1 rfl)) ?_
  refine walk_s rfl rfl (op_stwi rfl tb3 (ev1 rfl) (ev1 rfl) rfl) (by simp only [upd, zaa, za]; exact rfl) ?_
  refine zae ?_
  refine zaf ?_
  refine zah 1 (by simp only [holes, List.cons_append, List.nil_append]; exact rfl) ?_
  refine zad ?_
  refine zab rfl rfl rfl (zac (.inl rfl) (ev1 rfl)) ?_
  refine zab rfl rfl rfl (zac (.inl rfl) (ev1 rfl)) ?_
  refine zab rfl rfl rfl (op_sub' rfl (ev1 rfl) (ev1 rfl) (fun _ => IntWalk.i64_in _ (by omega))) ?_
  refine zab rfl rfl rfl (op_build (ps := [(2, .tmp 16), (3, .const (.int .i64 255))]) rfl fl147 zr147 (vc (ev1 rfl) (vc (ev1 rfl) vn)) rfl rfl) ?_
  refine zab rfl rfl rfl (zai [] [] [] rfl (ev1 rfl) (ec (ev1 rfl) (ec (ev1 rfl) en)) rfl rfl (clip_d l (⟨0, 0, w * 8 - 1, 255⟩ : Bx) hn) rfl rfl rfl rfl rfl rfl) ?_
  refine zab rfl rfl rfl (op_ext rfl (ev1 rfl) rfl) ?_
  refine zab rfl rfl rfl ((op_ext rfl (ev1 rfl) rfl).cast (d' := .val (.int .i64 160)) (by rw [chkE_no hl])) ?_
  refine walk_p rfl (dop_callP [] [] [] rfl (ev1 rfl) (ec (ev1 rfl) (ec (ev1 rfl) en)) rfl rfl (mustS_p _ 160 (by decide)) rfl rfl rfl rfl rfl rfl) rfl ?_
  refine kpan0 rfl ?_
  rfl
noncomputable def earA : Code := rfA (pth [1, 1, 0, 1, 0] (bodyOf Tryz.f83))
noncomputable def earB : Code := rfB (pth [1, 1, 0, 1, 0] (bodyOf Tryz.f83))
set_option maxRecDepth 4000 in
set_option maxHeartbeats 1000000 in
theorem eaRound_p (cc : C4) (m : List (P2 × C4)) (p : P2) (u : C4) (hn : p ∉ m.map (·.1)) : DRound Tryz.prog 0 [.val (.agg #[.int .i64 p.x, .int .i64 p.y]), .val (.agg (c4 u).toArray)] [.lp 18 [(3, .loc 1 0), (5, .loc 2 0)] #[10, 11] earA earB .ready none, .mix 88 [.fn (.func 86) [] [.loc 4 0]], .mix 124 [.hnd 3], .obj (mapQ p2 c4 (m)), .flat 27 (c4 cc)] true [.lp 18 [(3, .loc 1 0), (5, .loc 2 0)] #[10, 11] earA earB .ready none, .mix 88 [.fn (.func 86) [] [.loc 4 0]], .mix 124 [.hnd 3], .obj (mapQ p2 c4 (m ++ [(p, cc)])), .flat 27 (c4 cc)] := by
  refine dround_go 5 rfl rfl (by simp) rfl rfl fun s0 hs0 => ?_
  refine zaf ?_
  refine zah 1 (by simp only [holes, List.cons_append, List.nil_append]; exact rfl) ?_
  refine zad ?_
  refine zaj rfl rfl rfl (op_alloc 5 rfl zr51 rfl) (by simp only [upd, zaa, za]; exact rfl) ?_
  refine walk_s rfl rfl (op_stwa rfl tb51 (ev1 rfl) (ev1 rfl) rfl rfl rfl rfl) (by simp only [upd, zaa, za]; exact rfl) ?_
  refine zae ?_
  refine zah 1 (by simp only [holes, List.cons_append, List.nil_append]; exact rfl) ?_
  refine zad ?_
  refine zaj rfl rfl rfl (op_alloc 6 rfl zr27 rfl) (by simp only [upd, zaa, za]; exact rfl) ?_
  refine walk_s rfl rfl (op_stwa rfl tb27 (ev1 rfl) (ev1 rfl) rfl rfl rfl rfl) (by simp only [upd, zaa, za]; exact rfl) ?_
  refine zae ?_
  refine ⟨rfl, ?_⟩
  simp only [zaa, za]
  refine dwp_block ?_
  refine dwp_draw [([2], []), ([5], []), ([1], []), ([6], []), ([4], [4]), ([3], [3])] mixed (by kernel_rfl) ?_
  refine zag rfl rfl (op_ldm rfl tb124 (ev1 rfl) rfl rfl) ?_
  refine zag rfl rfl (op_ldw rfl tb51 (ev1 rfl) rfl rfl) ?_
  refine zag rfl rfl (op_ldm rfl tb88 (ev1 rfl) rfl rfl) ?_
  refine zag rfl rfl (op_ldw rfl tb27 (ev1 rfl) rfl rfl) ?_
  refine lex_w rfl rfl (zai [4] [] [] rfl (ev1 rfl) (ec (ev1 rfl) en) rfl rfl (come_p cc u) rfl rfl rfl rfl rfl rfl) rfl (by simp only [upd, zaa, za]; exact rfl) ?_
  refine lex_s rfl rfl (op_muq (k := p) (v := cc) mp124 keyP rfl (ev1 rfl) (ev1 rfl) (ev1 rfl) rfl (fun _ => hn)) rfl (by simp only [upd, zaa, za]; exact rfl) ?_
  refine lex_nil ?_
  refine ⟨by first | rfl | assumption | simp_all, rfl, [0, 1, 2, 3, 4], rfl, ⟨rfl, rfl, rfl, rfl, rfl, trivial⟩⟩
set_option maxRecDepth 4000 in
set_option maxHeartbeats 1000000 in
theorem eaRound_w (cc : C4) (m : List (P2 × C4)) (p : P2) (u : C4) (hn : p ∉ m.map (·.1)) (hu : u.rng) (hcr : cc.rng) : DRound Tryz.prog 0 [.val (.agg #[.int .i64 p.x, .int .i64 p.y]), .val (.agg (c4 u).toArray)] [.lp 18 [(3, .loc 1 0), (5, .loc 2 0)] #[10, 11] earA earB .ready none, .mix 88 [.fn (.func 87) [] [.loc 4 0]], .mix 124 [.hnd 3], .obj (mapQ p2 c4 (m)), .flat 27 (c4 cc)] true [.lp 18 [(3, .loc 1 0), (5, .loc 2 0)] #[10, 11] earA earB .ready none, .mix 88 [.fn (.func 87) [] [.loc 4 0]], .mix 124 [.hnd 3], .obj (mapQ p2 c4 (m ++ [(p, (overC u cc))])), .flat 27 (c4 cc)] := by
  refine dround_go 5 rfl rfl (by simp) rfl rfl fun s0 hs0 => ?_
  refine zaf ?_
  refine zah 1 (by simp only [holes, List.cons_append, List.nil_append]; exact rfl) ?_
  refine zad ?_
  refine zaj rfl rfl rfl (op_alloc 5 rfl zr51 rfl) (by simp only [upd, zaa, za]; exact rfl) ?_
  refine walk_s rfl rfl (op_stwa rfl tb51 (ev1 rfl) (ev1 rfl) rfl rfl rfl rfl) (by simp only [upd, zaa, za]; exact rfl) ?_
  refine zae ?_
  refine zah 1 (by simp only [holes, List.cons_append, List.nil_append]; exact rfl) ?_
  refine zad ?_
  refine zaj rfl rfl rfl (op_alloc 6 rfl zr27 rfl) (by simp only [upd, zaa, za]; exact rfl) ?_
  refine walk_s rfl rfl (op_stwa rfl tb27 (ev1 rfl) (ev1 rfl) rfl rfl rfl rfl) (by simp only [upd, zaa, za]; exact rfl) ?_
  refine zae ?_
  refine ⟨rfl, ?_⟩
  simp only [zaa, za]
  refine dwp_block ?_
  refine dwp_draw [([2], []), ([5], []), ([1], []), ([6], []), ([4], [4]), ([3], [3])] mixed (by kernel_rfl) ?_
  refine zag rfl rfl (op_ldm rfl tb124 (ev1 rfl) rfl rfl) ?_
  refine zag rfl rfl (op_ldw rfl tb51 (ev1 rfl) rfl rfl) ?_
  refine zag rfl rfl (op_ldm rfl tb88 (ev1 rfl) rfl rfl) ?_
  refine zag rfl rfl (op_ldw rfl tb27 (ev1 rfl) rfl rfl) ?_
  refine lex_w rfl rfl (zai [4] [] [] rfl (ev1 rfl) (ec (ev1 rfl) en) rfl rfl (come_w cc u hu hcr) rfl rfl rfl rfl rfl rfl) rfl (by simp only [upd, zaa, za]; exact rfl) ?_
  refine lex_s rfl rfl (op_muq (k := p) (v := (overC u cc)) mp124 keyP rfl (ev1 rfl) (ev1 rfl) (ev1 rfl) rfl (fun _ => hn)) rfl (by simp only [upd, zaa, za]; exact rfl) ?_
  refine lex_nil ?_
  refine ⟨by first | rfl | assumption | simp_all, rfl, [0, 1, 2, 3, 4], rfl, ⟨rfl, rfl, rfl, rfl, rfl, trivial⟩⟩
noncomputable def pxrA : Code := rfA (pth [1, 0, 1, 1, 0] (bodyOf Tryz.f106))
noncomputable def pxrB : Code := rfB (pth [1, 0, 1, 1, 0] (bodyOf Tryz.f106))
set_option maxRecDepth 4000 in
set_option maxHeartbeats 1000000 in
theorem pxRound_p_go (w h : Int) (ds : List D) (ts : List TL) (hr : RowOk ds ts) (hc : CvOk w h ts) (cc : C4) (p : P2) (m : List (P2 × C4)) (hy : p.y < h * 8) (ho : onS w h p.x p.y = true) (hn : p ∉ m.map (·.1)) : DRound Tryz.prog 0 [.val (.agg #[.int .i64 p.x, .int .i64 p.y])] [.lp 33 [(2, .loc 1 0), (3, .loc 2 0), (4, .loc 3 0)] #[10] pxrA pxrB .ready none, .flat 3 [.int .i64 (h * 8)], .mix 85 [cvD w h ds], .mix 148 [.yld 4], .lp 18 [(3, .loc 5 0), (5, .loc 6 0)] #[10, 11] earA earB .ready none, .mix 88 [.fn (.func 86) [] [.loc 8 0]], .mix 124 [.hnd 7], .obj (mapQ p2 c4 (m)), .flat 27 (c4 cc)] true [.lp 33 [(2, .loc 1 0), (3, .loc 2 0), (4, .loc 3 0)] #[10] pxrA pxrB .ready none, .flat 3 [.int .i64 (h * 8)], .mix 85 [cvD w h ds], .mix 148 [.yld 4], .lp 18 [(3, .loc 5 0), (5, .loc 6 0)] #[10, 11] earA earB .ready none, .mix 88 [.fn (.func 86) [] [.loc 8 0]], .mix 124 [.hnd 7], .obj (mapQ p2 c4 (m ++ [(p, cmC false (getC w ts p.x p.y) cc)])), .flat 27 (c4 cc)] := by
  refine dround_go 9 rfl rfl (by simp) rfl rfl fun s0 hs0 => ?_
  refine zah 1 (by simp only [holes, List.cons_append, List.nil_append]; exact rfl) ?_
  refine zad ?_
  refine zaj rfl rfl rfl (op_alloc 9 rfl zr51 rfl) (by simp only [upd, zaa, za]; exact rfl) ?_
  refine walk_s rfl rfl (op_stwa rfl tb51 (ev1 rfl) (ev1 rfl) rfl rfl rfl rfl) (by simp only [upd, zaa, za]; exact rfl) ?_
  refine zae ?_
  refine ⟨rfl, ?_⟩
  simp only [zaa, za]
  refine dwp_block ?_
  refine zaf ?_
  refine zaf ?_
  refine zad ?_
  refine zab rfl rfl rfl (op_fa rfl fo51_1 (ev1 rfl)) ?_
  refine zab rfl rfl rfl (op_ldo rfl tb3 (ev1 rfl) rfl rfl) ?_
  refine zab rfl rfl rfl (op_ldo rfl tb3 (ev1 rfl) rfl rfl) ?_
  refine zab rfl rfl rfl (op_geq rfl (ev1 rfl) (ev1 rfl)) ?_
  refine zae ?_
  refine dwp_if_f rfl (by simp at hy ⊢; omega) ?_
  refine dwp_skip ?_
  refine zaf ?_
  refine zah 1 (by simp only [holes, List.cons_append, List.nil_append]; exact rfl) ?_
  refine zad ?_
  refine zab rfl rfl rfl (op_fa rfl fo85_0 (ev1 rfl)) ?_
  refine zab rfl rfl rfl (op_ldm rfl tb33 (ev1 rfl) rfl rfl) ?_
  refine zab rfl rfl rfl (op_fa rfl fo51_0 (ev1 rfl)) ?_
  refine zab rfl rfl rfl (op_ldo rfl tb3 (ev1 rfl) rfl rfl) ?_
  refine zab rfl rfl rfl (op_fa rfl fo51_1 (ev1 rfl)) ?_
  refine zab rfl rfl rfl (op_ldo rfl tb3 (ev1 rfl) rfl rfl) ?_
  refine zab rfl rfl rfl (zai [] [] [] rfl (ev1 rfl) (ec (ev1 rfl) (ec (ev1 rfl) (ec (ev1 rfl) en))) rfl rfl (at_d w h ds ts hr hc p.x p.y) rfl rfl rfl rfl rfl rfl) ?_
  refine zab rfl rfl rfl (zac (.inl rfl) (ev1 rfl)) ?_
  refine zab rfl rfl rfl ((op_ext rfl (ev1 rfl) rfl).cast (d' := .val (.agg (c4 (getC w ts p.x p.y)).toArray)) (by rw [if_pos ho])) ?_
  refine zab rfl rfl rfl ((op_ext rfl (ev1 rfl) rfl).cast (d' := .val (.bool true)) (by rw [ho])) ?_
  refine zaj rfl rfl rfl (op_alloc 10 rfl zr27 rfl) (by simp only [upd, zaa, za]; exact rfl) ?_
  refine walk_s rfl rfl (op_stwa rfl tb27 (ev1 rfl) (ev1 rfl) rfl rfl rfl rfl) (by simp only [upd, zaa, za]; exact rfl) ?_
  refine zab rfl rfl rfl (zac (.inr rfl) (ev1 rfl)) ?_
  refine zae ?_
  refine zaf ?_
  refine zad ?_
  refine zab rfl rfl rfl (zac (.inl rfl) (ev1 rfl)) ?_
  refine zab rfl rfl rfl (zac (.inl rfl) (ev1 rfl)) ?_
  refine walk_k (gd_t (b := true) rfl rfl rfl) rfl rfl rfl (op_ldm rfl tb148 (ev1 rfl) rfl rfl) (by simp only [upd, zaa, za]; exact rfl) ?_
  refine walk_k (gd_t (b := true) rfl rfl rfl) rfl rfl rfl (op_ldw rfl tb51 (ev1 rfl) rfl rfl) (by simp only [upd, zaa, za]; exact rfl) ?_
  refine walk_k (gd_t (b := true) rfl rfl rfl) rfl rfl rfl (op_ldw rfl tb27 (ev1 rfl) rfl rfl) (by simp only [upd, zaa, za]; exact rfl) ?_
  refine walk_k (gd_t (b := true) rfl rfl rfl) rfl rfl rfl (op_y (i := 0) [4, 5, 6, 7, 8] [] [] rfl (ev2 rfl) (ec (ev2 rfl) (ec (ev2 rfl) en)) rfl rfl rfl (eaRound_p cc m p (getC w ts p.x p.y) hn) rfl rfl rfl rfl rfl) (by simp only [upd, zaa, za]; exact rfl) ?_
  refine walk_k (gd_t (b := true) rfl rfl rfl) rfl rfl rfl ((op_not rfl (ev2 rfl)).cast (d' := .val (.bool false)) (by kernel_rfl)) (by simp only [upd, zaa, za]; exact rfl) ?_
  refine zab rfl rfl rfl ((op_and rfl (ev1 rfl) (ev3 rfl (fun _ => rfl))).cast (d' := .val (.bool false)) (by rfl)) ?_
  refine zae ?_
  refine dwp_if_f rfl (rfl) ?_
  refine dwp_skip ?_
  refine ⟨by first | rfl | assumption | simp_all, rfl, [0, 1, 2, 3, 4, 5, 6, 7, 8], rfl, ⟨rfl, rfl, rfl, rfl, rfl, rfl, rfl, rfl, rfl, trivial⟩⟩
set_option maxRecDepth 4000 in
set_option maxHeartbeats 1000000 in
theorem pxRound_p_no (w h : Int) (ds : List D) (ts : List TL) (hr : RowOk ds ts) (hc : CvOk w h ts) (cc : C4) (p : P2) (m : List (P2 × C4)) (hy : ¬ p.y < h * 8) : DRound Tryz.prog 0 [.val (.agg #[.int .i64 p.x, .int .i64 p.y])] [.lp 33 [(2, .loc 1 0), (3, .loc 2 0), (4, .loc 3 0)] #[10] pxrA pxrB .ready none, .flat 3 [.int .i64 (h * 8)], .mix 85 [cvD w h ds], .mix 148 [.yld 4], .lp 18 [(3, .loc 5 0), (5, .loc 6 0)] #[10, 11] earA earB .ready none, .mix 88 [.fn (.func 86) [] [.loc 8 0]], .mix 124 [.hnd 7], .obj (mapQ p2 c4 (m)), .flat 27 (c4 cc)] false [.lp 33 [(2, .loc 1 0), (3, .loc 2 0), (4, .loc 3 0)] #[10] pxrA pxrB .done (some (.exit 0)), .flat 3 [.int .i64 (h * 8)], .mix 85 [cvD w h ds], .mix 148 [.yld 4], .lp 18 [(3, .loc 5 0), (5, .loc 6 0)] #[10, 11] earA earB .ready none, .mix 88 [.fn (.func 86) [] [.loc 8 0]], .mix 124 [.hnd 7], .obj (mapQ p2 c4 (m)), .flat 27 (c4 cc)] := by
  refine dround_go 9 rfl rfl (by simp) rfl rfl fun s0 hs0 => ?_
  refine zah 1 (by simp only [holes, List.cons_append, List.nil_append]; exact rfl) ?_
  refine zad ?_
  refine zaj rfl rfl rfl (op_alloc 9 rfl zr51 rfl) (by simp only [upd, zaa, za]; exact rfl) ?_
  refine walk_s rfl rfl (op_stwa rfl tb51 (ev1 rfl) (ev1 rfl) rfl rfl rfl rfl) (by simp only [upd, zaa, za]; exact rfl) ?_
  refine zae ?_
  refine ⟨rfl, ?_⟩
  simp only [zaa, za]
  refine dwp_block ?_
  refine zaf ?_
  refine zaf ?_
  refine zad ?_
  refine zab rfl rfl rfl (op_fa rfl fo51_1 (ev1 rfl)) ?_
  refine zab rfl rfl rfl (op_ldo rfl tb3 (ev1 rfl) rfl rfl) ?_
  refine zab rfl rfl rfl (op_ldo rfl tb3 (ev1 rfl) rfl rfl) ?_
  refine zab rfl rfl rfl (op_geq rfl (ev1 rfl) (ev1 rfl)) ?_
  refine zae ?_
  refine dwp_if_t rfl (by simp at hy ⊢; omega) ?_
  refine dwp_exit ?_
  refine ⟨by first | rfl | assumption | simp_all, rfl, [0, 1, 2, 3, 4, 5, 6, 7, 8], rfl, ⟨rfl, rfl, rfl, rfl, rfl, rfl, rfl, rfl, rfl, trivial⟩⟩
set_option maxRecDepth 4000 in
set_option maxHeartbeats 1000000 in
theorem pxRound_w_go (w h : Int) (ds : List D) (ts : List TL) (hr : RowOk ds ts) (hc : CvOk w h ts) (cc : C4) (p : P2) (m : List (P2 × C4)) (hy : p.y < h * 8) (ho : onS w h p.x p.y = true) (hn : p ∉ m.map (·.1)) (hg : tsRng ts) (hcr : cc.rng) : DRound Tryz.prog 0 [.val (.agg #[.int .i64 p.x, .int .i64 p.y])] [.lp 33 [(2, .loc 1 0), (3, .loc 2 0), (4, .loc 3 0)] #[10] pxrA pxrB .ready none, .flat 3 [.int .i64 (h * 8)], .mix 85 [cvD w h ds], .mix 148 [.yld 4], .lp 18 [(3, .loc 5 0), (5, .loc 6 0)] #[10, 11] earA earB .ready none, .mix 88 [.fn (.func 87) [] [.loc 8 0]], .mix 124 [.hnd 7], .obj (mapQ p2 c4 (m)), .flat 27 (c4 cc)] true [.lp 33 [(2, .loc 1 0), (3, .loc 2 0), (4, .loc 3 0)] #[10] pxrA pxrB .ready none, .flat 3 [.int .i64 (h * 8)], .mix 85 [cvD w h ds], .mix 148 [.yld 4], .lp 18 [(3, .loc 5 0), (5, .loc 6 0)] #[10, 11] earA earB .ready none, .mix 88 [.fn (.func 87) [] [.loc 8 0]], .mix 124 [.hnd 7], .obj (mapQ p2 c4 (m ++ [(p, cmC true (getC w ts p.x p.y) cc)])), .flat 27 (c4 cc)] := by
  refine dround_go 9 rfl rfl (by simp) rfl rfl fun s0 hs0 => ?_
  refine zah 1 (by simp only [holes, List.cons_append, List.nil_append]; exact rfl) ?_
  refine zad ?_
  refine zaj rfl rfl rfl (op_alloc 9 rfl zr51 rfl) (by simp only [upd, zaa, za]; exact rfl) ?_
  refine walk_s rfl rfl (op_stwa rfl tb51 (ev1 rfl) (ev1 rfl) rfl rfl rfl rfl) (by simp only [upd, zaa, za]; exact rfl) ?_
  refine zae ?_
  refine ⟨rfl, ?_⟩
  simp only [zaa, za]
  refine dwp_block ?_
  refine zaf ?_
  refine zaf ?_
  refine zad ?_
  refine zab rfl rfl rfl (op_fa rfl fo51_1 (ev1 rfl)) ?_
  refine zab rfl rfl rfl (op_ldo rfl tb3 (ev1 rfl) rfl rfl) ?_
  refine zab rfl rfl rfl (op_ldo rfl tb3 (ev1 rfl) rfl rfl) ?_
  refine zab rfl rfl rfl (op_geq rfl (ev1 rfl) (ev1 rfl)) ?_
  refine zae ?_
  refine dwp_if_f rfl (by simp at hy ⊢; omega) ?_
  refine dwp_skip ?_
  refine zaf ?_
  refine zah 1 (by simp only [holes, List.cons_append, List.nil_append]; exact rfl) ?_
  refine zad ?_
  refine zab rfl rfl rfl (op_fa rfl fo85_0 (ev1 rfl)) ?_
  refine zab rfl rfl rfl (op_ldm rfl tb33 (ev1 rfl) rfl rfl) ?_
  refine zab rfl rfl rfl (op_fa rfl fo51_0 (ev1 rfl)) ?_
  refine zab rfl rfl rfl (op_ldo rfl tb3 (ev1 rfl) rfl rfl) ?_
  refine zab rfl rfl rfl (op_fa rfl fo51_1 (ev1 rfl)) ?_
  refine zab rfl rfl rfl (op_ldo rfl tb3 (ev1 rfl) rfl rfl) ?_
  refine zab rfl rfl rfl (zai [] [] [] rfl (ev1 rfl) (ec (ev1 rfl) (ec (ev1 rfl) (ec (ev1 rfl) en))) rfl rfl (at_d w h ds ts hr hc p.x p.y) rfl rfl rfl rfl rfl rfl) ?_
  refine zab rfl rfl rfl (zac (.inl rfl) (ev1 rfl)) ?_
  refine zab rfl rfl rfl ((op_ext rfl (ev1 rfl) rfl).cast (d' := .val (.agg (c4 (getC w ts p.x p.y)).toArray)) (by rw [if_pos ho])) ?_
  refine zab rfl rfl rfl ((op_ext rfl (ev1 rfl) rfl).cast (d' := .val (.bool true)) (by rw [ho])) ?_
  refine zaj rfl rfl rfl (op_alloc 10 rfl zr27 rfl) (by simp only [upd, zaa, za]; exact rfl) ?_
  refine walk_s rfl rfl (op_stwa rfl tb27 (ev1 rfl) (ev1 rfl) rfl rfl rfl rfl) (by simp only [upd, zaa, za]; exact rfl) ?_
  refine zab rfl rfl rfl (zac (.inr rfl) (ev1 rfl)) ?_
  refine zae ?_
  refine zaf ?_
  refine zad ?_
  refine zab rfl rfl rfl (zac (.inl rfl) (ev1 rfl)) ?_
  refine zab rfl rfl rfl (zac (.inl rfl) (ev1 rfl)) ?_
  refine walk_k (gd_t (b := true) rfl rfl rfl) rfl rfl rfl (op_ldm rfl tb148 (ev1 rfl) rfl rfl) (by simp only [upd, zaa, za]; exact rfl) ?_
  refine walk_k (gd_t (b := true) rfl rfl rfl) rfl rfl rfl (op_ldw rfl tb51 (ev1 rfl) rfl rfl) (by simp only [upd, zaa, za]; exact rfl) ?_
  refine walk_k (gd_t (b := true) rfl rfl rfl) rfl rfl rfl (op_ldw rfl tb27 (ev1 rfl) rfl rfl) (by simp only [upd, zaa, za]; exact rfl) ?_
  refine walk_k (gd_t (b := true) rfl rfl rfl) rfl rfl rfl (op_y (i := 0) [4, 5, 6, 7, 8] [] [] rfl (ev2 rfl) (ec (ev2 rfl) (ec (ev2 rfl) en)) rfl rfl rfl (eaRound_w cc m p (getC w ts p.x p.y) hn (getC_rng hg _ _ _) hcr) rfl rfl rfl rfl rfl) (by simp only [upd, zaa, za]; exact rfl) ?_
  refine walk_k (gd_t (b := true) rfl rfl rfl) rfl rfl rfl ((op_not rfl (ev2 rfl)).cast (d' := .val (.bool false)) (by kernel_rfl)) (by simp only [upd, zaa, za]; exact rfl) ?_
  refine zab rfl rfl rfl ((op_and rfl (ev1 rfl) (ev3 rfl (fun _ => rfl))).cast (d' := .val (.bool false)) (by rfl)) ?_
  refine zae ?_
  refine dwp_if_f rfl (rfl) ?_
  refine dwp_skip ?_
  refine ⟨by first | rfl | assumption | simp_all, rfl, [0, 1, 2, 3, 4, 5, 6, 7, 8], rfl, ⟨rfl, rfl, rfl, rfl, rfl, rfl, rfl, rfl, rfl, trivial⟩⟩
set_option maxRecDepth 4000 in
set_option maxHeartbeats 1000000 in
theorem pxRound_w_no (w h : Int) (ds : List D) (ts : List TL) (hr : RowOk ds ts) (hc : CvOk w h ts) (cc : C4) (p : P2) (m : List (P2 × C4)) (hy : ¬ p.y < h * 8) : DRound Tryz.prog 0 [.val (.agg #[.int .i64 p.x, .int .i64 p.y])] [.lp 33 [(2, .loc 1 0), (3, .loc 2 0), (4, .loc 3 0)] #[10] pxrA pxrB .ready none, .flat 3 [.int .i64 (h * 8)], .mix 85 [cvD w h ds], .mix 148 [.yld 4], .lp 18 [(3, .loc 5 0), (5, .loc 6 0)] #[10, 11] earA earB .ready none, .mix 88 [.fn (.func 87) [] [.loc 8 0]], .mix 124 [.hnd 7], .obj (mapQ p2 c4 (m)), .flat 27 (c4 cc)] false [.lp 33 [(2, .loc 1 0), (3, .loc 2 0), (4, .loc 3 0)] #[10] pxrA pxrB .done (some (.exit 0)), .flat 3 [.int .i64 (h * 8)], .mix 85 [cvD w h ds], .mix 148 [.yld 4], .lp 18 [(3, .loc 5 0), (5, .loc 6 0)] #[10, 11] earA earB .ready none, .mix 88 [.fn (.func 87) [] [.loc 8 0]], .mix 124 [.hnd 7], .obj (mapQ p2 c4 (m)), .flat 27 (c4 cc)] := by
  refine dround_go 9 rfl rfl (by simp) rfl rfl fun s0 hs0 => ?_
  refine zah 1 (by simp only [holes, List.cons_append, List.nil_append]; exact rfl) ?_
  refine zad ?_
  refine zaj rfl rfl rfl (op_alloc 9 rfl zr51 rfl) (by simp only [upd, zaa, za]; exact rfl) ?_
  refine walk_s rfl rfl (op_stwa rfl tb51 (ev1 rfl) (ev1 rfl) rfl rfl rfl rfl) (by simp only [upd, zaa, za]; exact rfl) ?_
  refine zae ?_
  refine ⟨rfl, ?_⟩
  simp only [zaa, za]
  refine dwp_block ?_
  refine zaf ?_
  refine zaf ?_
  refine zad ?_
  refine zab rfl rfl rfl (op_fa rfl fo51_1 (ev1 rfl)) ?_
  refine zab rfl rfl rfl (op_ldo rfl tb3 (ev1 rfl) rfl rfl) ?_
  refine zab rfl rfl rfl (op_ldo rfl tb3 (ev1 rfl) rfl rfl) ?_
  refine zab rfl rfl rfl (op_geq rfl (ev1 rfl) (ev1 rfl)) ?_
  refine zae ?_
  refine dwp_if_t rfl (by simp at hy ⊢; omega) ?_
  refine dwp_exit ?_
  refine ⟨by first | rfl | assumption | simp_all, rfl, [0, 1, 2, 3, 4, 5, 6, 7, 8], rfl, ⟨rfl, rfl, rfl, rfl, rfl, rfl, rfl, rfl, rfl, trivial⟩⟩
end Go.Proofs.YtjgnalfnginjbaaGreatDoor
namespace Go.Proofs.YtjgnalfnginjbaaGreatDoor
set_option maxRecDepth 4000
set_option linter.unusedVariables false
set_option linter.unusedSimpArgs false
open Go.RowKit
noncomputable def alrA : Code := rfA (pth [1, 1, 0] (bodyOf Tryz.f125))
noncomputable def alrB : Code := rfB (pth [1, 1, 0] (bodyOf Tryz.f125))
set_option maxRecDepth 4000 in
set_option maxHeartbeats 1000000 in
theorem span_p_y (w h : Int) (ds : List D) (ts : List TL) (hr : RowOk ds ts) (hc : CvOk w h ts) (cc : C4) (s : Sp) (hs : rchS s ∧ s.f ≤ s.t) (hy : s.y < h * 8) (P : List P2) (hnd : (P ++ s.pts).Nodup) (hon : ∀ k : Nat, k < s.wd → onS w h (s.f + (k : Int)) s.y = true) : DRound Tryz.prog 0 [.val (.agg (s3 s).toArray)] [.lp 23 [(2, .loc 1 0)] #[7] alrA alrB .ready none, .mix 53 [.yld 2], .lp 33 [(2, .loc 3 0), (3, .loc 4 0), (4, .loc 5 0)] #[10] pxrA pxrB .ready none, .flat 3 [.int .i64 (h * 8)], .mix 85 [cvD w h ds], .mix 148 [.yld 6], .lp 18 [(3, .loc 7 0), (5, .loc 8 0)] #[10, 11] earA earB .ready none, .mix 88 [.fn (.func 86) [] [.loc 10 0]], .mix 124 [.hnd 9], .obj (mapQ p2 c4 (mpK false w ts cc (P))), .flat 27 (c4 cc)] true [.lp 23 [(2, .loc 1 0)] #[7] alrA alrB .ready none, .mix 53 [.yld 2], .lp 33 [(2, .loc 3 0), (3, .loc 4 0), (4, .loc 5 0)] #[10] pxrA pxrB .ready none, .flat 3 [.int .i64 (h * 8)], .mix 85 [cvD w h ds], .mix 148 [.yld 6], .lp 18 [(3, .loc 7 0), (5, .loc 8 0)] #[10, 11] earA earB .ready none, .mix 88 [.fn (.func 86) [] [.loc 10 0]], .mix 124 [.hnd 9], .obj (mapQ p2 c4 (mpK false w ts cc (P ++ s.pts))), .flat 27 (c4 cc)] := by
  obtain ⟨hrs, hft⟩ := hs
  have hr2 := hrs
  unfold rchS at hr2
  have hwd : (s.wd : Int) = s.t - s.f + 1 := by unfold Sp.wd; omega
  have hpw := pts_wd s
  refine dround_go 11 rfl rfl (by simp) rfl rfl fun s0 hs0 => ?_
  refine zah 1 (by simp only [holes, List.cons_append, List.nil_append]; exact rfl) ?_
  refine zad ?_
  refine zaj rfl rfl rfl (op_alloc 11 rfl zr32 rfl) (by simp only [upd, zaa, za]; exact rfl) ?_
  refine walk_s rfl rfl (op_stwa rfl tb32 (ev1 rfl) (ev1 rfl) rfl rfl rfl rfl) (by simp only [upd, zaa, za]; exact rfl) ?_
  refine zae ?_
  refine ⟨rfl, ?_⟩
  simp only [zaa, za]
  refine dwp_block ?_
  refine zaf ?_
  refine zad ?_
  refine zab rfl rfl rfl (op_fa rfl fo32_1 (ev1 rfl)) ?_
  refine zab rfl rfl rfl (op_ldo rfl tb3 (ev1 rfl) rfl rfl) ?_
  refine zab rfl rfl rfl (zac (.inr rfl) (ev1 rfl)) ?_
  refine zae ?_
  refine dwp_block ?_
  refine dwp_loopS ⟨hs0, rfl⟩ (α := Nat) (fun k => [(4, .val (.int .i64 (s.f + (k : Int))))]) [(2, _), (3, _)] (fun k => [(9, .obj (mapQ p2 c4 (mpK false w ts cc (P ++ s.pts.take k))))]) [_, _, _, _, _, _, _, _, _, .hole, _, _] (fun k => k ≤ s.wd) (fun k => s.wd - k) 0 [0, 1, 2, 3, 4, 5, 6, 7, 8, 9, 10, 11] (Nat.zero_le _) rfl ⟨rfl, rfl, trivial⟩ ⟨congrArg (fun z => some (D.val (.int .i64 z))) (by first | rfl | omega), trivial⟩ ⟨rfl, rfl, rfl, rfl, rfl, rfl, rfl, rfl, rfl, by rw [List.take_zero, List.append_nil]; rfl, rfl, rfl, trivial⟩ ?_
  intro k hx
  simp only [upd, zaa, za, List.cons_append, List.nil_append]
  have hk0 := hx
  refine zaf ?_
  refine zaf ?_
  refine zad ?_
  refine zab rfl rfl rfl (zac (.inl rfl) (ev1 rfl)) ?_
  refine zab rfl rfl rfl (op_fa rfl fo32_2 (ev1 rfl)) ?_
  refine zab rfl rfl rfl (op_ldo rfl tb3 (ev1 rfl) rfl rfl) ?_
  refine zab rfl rfl rfl (op_leq rfl (ev1 rfl) (ev1 rfl)) ?_
  refine zae ?_
  refine dwp_cond rfl (fun c1 => ?_) (fun c1 => ?_)
  · try simp only [decide_eq_true_eq, decide_eq_false_iff_not, beq_iff_eq, bne_iff_ne, beq_eq_false_iff_ne, bne_eq_false_iff_eq, Bool.not_eq_true', Bool.not_eq_false', Bool.and_eq_true, Bool.or_eq_true, Bool.or_eq_false_iff, ne_eq, Decidable.not_not, Int.not_lt, Int.not_le] at c1
    refine dwp_skip ?_
    refine zaf ?_
    refine dwp_block ?_
    refine zaf ?_
    have hk : k < s.wd := by omega
    have hfr := fresh (q := (⟨s.f + (k : Int), s.y⟩ : P2)) hnd (show k < s.pts.length by rw [hpw]; exact hk) (by simp [Sp.pts])
    refine zad ?_
    refine zab rfl rfl rfl (op_ldm rfl tb53 (ev1 rfl) rfl rfl) ?_
    refine zab rfl rfl rfl (zac (.inl rfl) (ev1 rfl)) ?_
    refine zab rfl rfl rfl (op_fa rfl fo32_0 (ev1 rfl)) ?_
    refine zab rfl rfl rfl (op_ldo rfl tb3 (ev1 rfl) rfl rfl) ?_
    refine zab rfl rfl rfl (op_build (ps := [(0, .tmp 17), (1, .tmp 19)]) rfl fl51 zr51 (vc (ev1 rfl) (vc (ev1 rfl) vn)) rfl rfl) ?_
    refine zaj rfl rfl rfl (op_y (i := 0) [2, 3, 4, 5, 6, 7, 8, 9, 10] [] [] rfl (ev1 rfl) (ec (ev1 rfl) en) rfl rfl rfl (pxRound_p_go w h ds ts hr hc cc ⟨s.f + (k : Int), s.y⟩ _ hy (hon k hk) (by rw [mpK_keys]; exact hfr)) rfl rfl rfl rfl rfl) (by simp only [upd, zaa, za]; exact rfl) ?_
    refine zab rfl rfl rfl (op_not rfl (ev1 rfl)) ?_
    refine zae ?_
    refine dwp_if_f rfl (rfl) ?_
    refine dwp_skip ?_
    refine zad ?_
    refine zab rfl rfl rfl (zac (.inl rfl) (ev1 rfl)) ?_
    refine zab rfl rfl rfl (op_add' rfl (ev1 rfl) (ev1 rfl) (fun _ => IntWalk.i64_in _ (by omega))) ?_
    refine zab rfl rfl rfl (zac (.inr rfl) (ev1 rfl)) ?_
    refine zae ?_
    refine ⟨k + 1, [0, 1, 2, 3, 4, 5, 6, 7, 8, 9, 10, 11], by omega, by simp only []; omega, rfl, ⟨congrArg (fun z => some (D.val (.int .i64 z))) (by first | rfl | omega), rfl, rfl, trivial⟩, ⟨rfl, rfl, rfl, rfl, rfl, rfl, rfl, rfl, rfl, by rw [pts_add hk, ← List.append_assoc, ← mpK_add]; rfl, rfl, rfl, trivial⟩⟩
  · try simp only [decide_eq_true_eq, decide_eq_false_iff_not, beq_iff_eq, bne_iff_ne, beq_eq_false_iff_ne, bne_eq_false_iff_eq, Bool.not_eq_true', Bool.not_eq_false', Bool.and_eq_true, Bool.or_eq_true, Bool.or_eq_false_iff, ne_eq, Decidable.not_not, Int.not_lt, Int.not_le] at c1
    refine dwp_exit ?_
    obtain rfl : k = s.wd := by omega
    rw [show s.pts.take s.wd = s.pts from List.take_of_length_le (by omega)]
    refine ⟨by first | rfl | assumption | simp_all, rfl, [0, 1, 2, 3, 4, 5, 6, 7, 8, 9, 10], rfl, ⟨rfl, rfl, rfl, rfl, rfl, rfl, rfl, rfl, rfl, rfl, rfl, trivial⟩⟩
set_option maxRecDepth 4000 in
set_option maxHeartbeats 1000000 in
theorem span_p_n (w h : Int) (ds : List D) (ts : List TL) (hr : RowOk ds ts) (hc : CvOk w h ts) (cc : C4) (s : Sp) (hs : rchS s ∧ s.f ≤ s.t) (hy : ¬ s.y < h * 8) (P : List P2) : DRound Tryz.prog 0 [.val (.agg (s3 s).toArray)] [.lp 23 [(2, .loc 1 0)] #[7] alrA alrB .ready none, .mix 53 [.yld 2], .lp 33 [(2, .loc 3 0), (3, .loc 4 0), (4, .loc 5 0)] #[10] pxrA pxrB .ready none, .flat 3 [.int .i64 (h * 8)], .mix 85 [cvD w h ds], .mix 148 [.yld 6], .lp 18 [(3, .loc 7 0), (5, .loc 8 0)] #[10, 11] earA earB .ready none, .mix 88 [.fn (.func 86) [] [.loc 10 0]], .mix 124 [.hnd 9], .obj (mapQ p2 c4 (mpK false w ts cc (P))), .flat 27 (c4 cc)] false [.lp 23 [(2, .loc 1 0)] #[7] alrA alrB .done (some .ret), .mix 53 [.yld 2], .lp 33 [(2, .loc 3 0), (3, .loc 4 0), (4, .loc 5 0)] #[10] pxrA pxrB .done (some (.exit 0)), .flat 3 [.int .i64 (h * 8)], .mix 85 [cvD w h ds], .mix 148 [.yld 6], .lp 18 [(3, .loc 7 0), (5, .loc 8 0)] #[10, 11] earA earB .ready none, .mix 88 [.fn (.func 86) [] [.loc 10 0]], .mix 124 [.hnd 9], .obj (mapQ p2 c4 (mpK false w ts cc (P))), .flat 27 (c4 cc)] := by
  obtain ⟨hrs, hft⟩ := hs
  have hr2 := hrs
  unfold rchS at hr2
  have hwd : (s.wd : Int) = s.t - s.f + 1 := by unfold Sp.wd; omega
  have hpw := pts_wd s
  refine dround_go 11 rfl rfl (by simp) rfl rfl fun s0 hs0 => ?_
  refine zah 1 (by simp only [holes, List.cons_append, List.nil_append]; exact rfl) ?_
  refine zad ?_
  refine zaj rfl rfl rfl (op_alloc 11 rfl zr32 rfl) (by simp only [upd, zaa, za]; exact rfl) ?_
  refine walk_s rfl rfl (op_stwa rfl tb32 (ev1 rfl) (ev1 rfl) rfl rfl rfl rfl) (by simp only [upd, zaa, za]; exact rfl) ?_
  refine zae ?_
  refine ⟨rfl, ?_⟩
  simp only [zaa, za]
  refine dwp_block ?_
  refine zaf ?_
  refine zad ?_
  refine zab rfl rfl rfl (op_fa rfl fo32_1 (ev1 rfl)) ?_
  refine zab rfl rfl rfl (op_ldo rfl tb3 (ev1 rfl) rfl rfl) ?_
  refine zab rfl rfl rfl (zac (.inr rfl) (ev1 rfl)) ?_
  refine zae ?_
  refine dwp_block ?_
  refine dwp_loopS ⟨hs0, rfl⟩ (α := Nat) (fun k => [(4, .val (.int .i64 (s.f + (k : Int))))]) [(2, _), (3, _)] (fun k => []) [_, _, _, _, _, _, _, _, _, _, _, _] (fun k => k = 0) (fun k => 1 - k) 0 [0, 1, 2, 3, 4, 5, 6, 7, 8, 9, 10, 11] (rfl) rfl ⟨rfl, rfl, trivial⟩ ⟨congrArg (fun z => some (D.val (.int .i64 z))) (by first | rfl | omega), trivial⟩ ⟨rfl, rfl, rfl, rfl, rfl, rfl, rfl, rfl, rfl, rfl, rfl, rfl, trivial⟩ ?_
  intro k hx
  simp only [upd, zaa, za, List.cons_append, List.nil_append]
  have hk0 := hx
  refine zaf ?_
  refine zaf ?_
  refine zad ?_
  refine zab rfl rfl rfl (zac (.inl rfl) (ev1 rfl)) ?_
  refine zab rfl rfl rfl (op_fa rfl fo32_2 (ev1 rfl)) ?_
  refine zab rfl rfl rfl (op_ldo rfl tb3 (ev1 rfl) rfl rfl) ?_
  refine zab rfl rfl rfl (op_leq rfl (ev1 rfl) (ev1 rfl)) ?_
  refine zae ?_
  refine dwp_if_t rfl (by subst hk0; simp; omega) ?_
  refine dwp_skip ?_
  refine zaf ?_
  refine dwp_block ?_
  refine zaf ?_
  refine zad ?_
  refine zab rfl rfl rfl (op_ldm rfl tb53 (ev1 rfl) rfl rfl) ?_
  refine zab rfl rfl rfl (zac (.inl rfl) (ev1 rfl)) ?_
  refine zab rfl rfl rfl (op_fa rfl fo32_0 (ev1 rfl)) ?_
  refine zab rfl rfl rfl (op_ldo rfl tb3 (ev1 rfl) rfl rfl) ?_
  refine zab rfl rfl rfl (op_build (ps := [(0, .tmp 17), (1, .tmp 19)]) rfl fl51 zr51 (vc (ev1 rfl) (vc (ev1 rfl) vn)) rfl rfl) ?_
  refine zaj rfl rfl rfl (op_y (i := 0) [2, 3, 4, 5, 6, 7, 8, 9, 10] [] [] rfl (ev1 rfl) (ec (ev1 rfl) en) rfl rfl rfl (pxRound_p_no w h ds ts hr hc cc ⟨s.f + (k : Int), s.y⟩ _ hy) rfl rfl rfl rfl rfl) (by simp only [upd, zaa, za]; exact rfl) ?_
  refine zab rfl rfl rfl (op_not rfl (ev1 rfl)) ?_
  refine zae ?_
  refine dwp_if_t rfl (rfl) ?_
  refine dwp_ret ?_
  refine ⟨by first | rfl | assumption | simp_all, rfl, [0, 1, 2, 3, 4, 5, 6, 7, 8, 9, 10], rfl, ⟨rfl, rfl, rfl, rfl, rfl, rfl, rfl, rfl, rfl, rfl, rfl, trivial⟩⟩
set_option maxRecDepth 4000 in
set_option maxHeartbeats 1000000 in
theorem told_p (w h : Int) (ds : List D) (ts : List TL) (hr : RowOk ds ts) (hc : CvOk w h ts) (cc : C4) (l : List Sp) (hl : chkS l) (hl0 : l.length ≤ 9223372036854775807) (hon : ∀ p ∈ ptsS l, p.y < h * 8 → onS w h p.x p.y = true) : DFun Tryz.prog 103 [.yld 0, .loc 11 0] [.lp 23 [(2, .loc 1 0)] #[7] alrA alrB .ready none, .mix 53 [.yld 2], .lp 33 [(2, .loc 3 0), (3, .loc 4 0), (4, .loc 5 0)] #[10] pxrA pxrB .ready none, .flat 3 [.int .i64 (h * 8)], .mix 85 [cvD w h ds], .mix 148 [.yld 6], .lp 18 [(3, .loc 7 0), (5, .loc 8 0)] #[10, 11] earA earB .ready none, .mix 88 [.fn (.func 86) [] [.loc 10 0]], .mix 124 [.hnd 9], .obj (mapQ p2 c4 (mpK false w ts cc (([] : List P2)))), .flat 27 (c4 cc), .mix 25 [.slf 3 l.length (l.flatMap s3)]] (.tup []) [.lp 23 [(2, .loc 1 0)] #[7] alrA alrB (rst (lowB (h * 8) l)) (rpe .ret (lowB (h * 8) l)), .mix 53 [.yld 2], .lp 33 [(2, .loc 3 0), (3, .loc 4 0), (4, .loc 5 0)] #[10] pxrA pxrB (rst (lowB (h * 8) l)) (rpe (.exit 0) (lowB (h * 8) l)), .flat 3 [.int .i64 (h * 8)], .mix 85 [cvD w h ds], .mix 148 [.yld 6], .lp 18 [(3, .loc 7 0), (5, .loc 8 0)] #[10, 11] earA earB .ready none, .mix 88 [.fn (.func 86) [] [.loc 10 0]], .mix 124 [.hnd 9], .obj (mapQ p2 c4 (mpK false w ts cc (ptsS (lowS (h * 8) l)))), .flat 27 (c4 cc), .mix 25 [.slf 3 l.length (l.flatMap s3)]] := by
  refine zal (N := 19) 12 (by kernel_rfl) Tryz.func103 rfl rfl rfl (by simp only [fr0, Nat.zero_add, Nat.reduceAdd]; exact rfl) rfl fun s0 hs0 => ?_
  refine zaf ?_
  refine zaf ?_
  refine zad ?_
  refine zab rfl rfl rfl (op_ldm rfl tb25 (ev1 rfl) rfl rfl) ?_
  refine zab rfl rfl rfl (zai [] [] [] rfl (ev1 rfl) (ec (ev1 rfl) en) rfl rfl (check_d l) rfl rfl rfl rfl rfl rfl) ?_
  refine zab rfl rfl rfl (op_neq rfl (ev1 rfl) (ev1 rfl)) ?_
  refine zae ?_
  refine dwp_if_f rfl (by rw [chkE_ok hl]; rfl) ?_
  refine dwp_skip ?_
  refine zaf ?_
  refine zad ?_
  refine zab rfl rfl rfl (op_ldm rfl tb25 (ev1 rfl) rfl rfl) ?_
  refine zab rfl rfl rfl (op_len rfl sl25 (ev1 rfl)) ?_
  refine zab rfl rfl rfl (zac (.inl rfl) (ev1 rfl)) ?_
  refine zae ?_
  refine dwp_block ?_
  refine dwp_loopS ⟨hs0, rfl⟩ (α := Nat) (fun i => [(10, .val (.int .i64 (i : Int)))]) [(0, _), (8, _), (9, _)] (fun i => [(9, .obj (mapQ p2 c4 (mpK false w ts cc (ptsS (l.take i)))))]) [_, _, _, _, _, _, _, _, _, .hole, _, _] (fun i => i ≤ l.length ∧ lowB (h * 8) (l.take i) = true) (fun i => l.length - i) 0 [0, 1, 2, 3, 4, 5, 6, 7, 8, 9, 10, 11] (⟨Nat.zero_le _, rfl⟩) rfl ⟨rfl, rfl, rfl, trivial⟩ ⟨rfl, trivial⟩ ⟨rfl, rfl, rfl, rfl, rfl, rfl, rfl, rfl, rfl, rfl, rfl, rfl, trivial⟩ ?_
  intro i hx
  simp only [upd, zaa, za, List.cons_append, List.nil_append]
  obtain ⟨hi0, hlo⟩ := hx
  refine zaf ?_
  refine zad ?_
  refine zab rfl rfl rfl (op_lss rfl (ev1 rfl) (ev1 rfl)) ?_
  refine zae ?_
  refine zaf ?_
  refine dwp_cond rfl (fun c2 => ?_) (fun c2 => ?_)
  · try simp only [decide_eq_true_eq, decide_eq_false_iff_not, beq_iff_eq, bne_iff_ne, beq_eq_false_iff_ne, bne_eq_false_iff_eq, Bool.not_eq_true', Bool.not_eq_false', Bool.and_eq_true, Bool.or_eq_true, Bool.or_eq_false_iff, ne_eq, Decidable.not_not, Int.not_lt, Int.not_le] at c2
    refine dwp_skip ?_
    refine zaf ?_
    refine dwp_block ?_
    refine zaf ?_
    have hi : i < l.length := by omega
    refine zah 1 (by simp only [holes, List.cons_append, List.nil_append]; exact rfl) ?_
    refine zad ?_
    refine zab rfl rfl rfl (op_ixsr (j := i) rfl sl25 (ev1 rfl) (ev1 rfl) (fun _ => rfl) (by decide) (by omega) (by omega)) ?_
    refine zab rfl rfl rfl (op_ldwd rfl tb32 (ev1 rfl) rfl) ?_
    refine zaj rfl rfl rfl (op_alloc 12 rfl zr32 rfl) (by simp only [upd, zaa, za]; exact rfl) ?_
    refine walk_s rfl rfl (op_stwa rfl tb32 (ev1 rfl) (ev1 rfl) rfl rfl rfl rfl) (by simp only [upd, zaa, za]; exact rfl) ?_
    refine zae ?_
    refine zaf ?_
    by_cases hy : l[i].y < h * 8
    · have hnd := ptsS_nd hl (i + 1)
      rw [ptsS_add hi] at hnd
      refine zad ?_
      refine zab rfl rfl rfl (zac (.inl rfl) (ev1 rfl)) ?_
      refine zab rfl rfl rfl (op_ldw rfl tb32 (ev1 rfl) rfl rfl) ?_
      refine zaj rfl rfl rfl (op_y (i := 0) [0, 1, 2, 3, 4, 5, 6, 7, 8, 9, 10] [] [] rfl (ev1 rfl) (ec (ev1 rfl) en) rfl rfl rfl (span_p_y w h ds ts hr hc cc l[i] (hl.1 _ (List.getElem_mem hi)) hy _ hnd (fun k hk => hon _ (pts_mem2 hi hk) hy)) rfl rfl rfl rfl rfl) (by simp only [upd, zaa, za]; exact rfl) ?_
      refine zab rfl rfl rfl (op_not rfl (ev1 rfl)) ?_
      refine zae ?_
      refine dwp_if_f rfl (rfl) ?_
      refine dwp_skip ?_
      refine zad ?_
      refine zab rfl rfl rfl (op_add' rfl (ev1 rfl) (ev1 rfl) (fun _ => IntWalk.i64_in _ (by omega))) ?_
      refine zab rfl rfl rfl (zac (.inl rfl) (ev1 rfl)) ?_
      refine zae ?_
      refine ⟨i + 1, [0, 1, 2, 3, 4, 5, 6, 7, 8, 9, 10, 11], ⟨by omega, lowB_add hi hlo hy⟩, by simp only []; omega, rfl, ⟨rfl, rfl, rfl, rfl, trivial⟩, ⟨rfl, rfl, rfl, rfl, rfl, rfl, rfl, rfl, rfl, by rw [ptsS_add hi]; rfl, rfl, rfl, trivial⟩⟩
    · refine zad ?_
      refine zab rfl rfl rfl (zac (.inl rfl) (ev1 rfl)) ?_
      refine zab rfl rfl rfl (op_ldw rfl tb32 (ev1 rfl) rfl rfl) ?_
      refine zaj rfl rfl rfl (op_y (i := 0) [0, 1, 2, 3, 4, 5, 6, 7, 8, 9, 10] [] [] rfl (ev1 rfl) (ec (ev1 rfl) en) rfl rfl rfl (span_p_n w h ds ts hr hc cc l[i] (hl.1 _ (List.getElem_mem hi)) hy _) rfl rfl rfl rfl rfl) (by simp only [upd, zaa, za]; exact rfl) ?_
      refine zab rfl rfl rfl (op_not rfl (ev1 rfl)) ?_
      refine zae ?_
      refine dwp_if_t rfl (rfl) ?_
      refine dwp_ret ?_
      have e1 := lowB_no hi hy
      have e2 := lowS_stop hl hi hlo hy
      rw [e1, e2]
      refine kend [0, 1, 2, 3, 4, 5, 6, 7, 8, 9, 10, 11] (res_none rfl) rfl rfl ?_ ⟨rfl, rfl, rfl, rfl, rfl, rfl, rfl, rfl, rfl, rfl, rfl, rfl, trivial⟩
      rfl
  · try simp only [decide_eq_true_eq, decide_eq_false_iff_not, beq_iff_eq, bne_iff_ne, beq_eq_false_iff_ne, bne_eq_false_iff_eq, Bool.not_eq_true', Bool.not_eq_false', Bool.and_eq_true, Bool.or_eq_true, Bool.or_eq_false_iff, ne_eq, Decidable.not_not, Int.not_lt, Int.not_le] at c2
    refine dwp_exit ?_
    have hil : l.take i = l := take_all (by omega)
    rw [hil] at hlo
    rw [hlo, lowS_all hlo, hil]
    refine kend [0, 1, 2, 3, 4, 5, 6, 7, 8, 9, 10, 11] (res_none rfl) rfl rfl ?_ ⟨rfl, rfl, rfl, rfl, rfl, rfl, rfl, rfl, rfl, rfl, rfl, rfl, trivial⟩
    rfl
set_option maxRecDepth 4000 in
set_option maxHeartbeats 1000000 in
theorem all_p (w h : Int) (ds : List D) (ts : List TL) (hr : RowOk ds ts) (hc : CvOk w h ts) (cc : C4) (l : List Sp) (hl : chkS l) (hl0 : l.length ≤ 9223372036854775807) (hon : ∀ p ∈ ptsS l, p.y < h * 8 → onS w h p.x p.y = true) : DFun Tryz.prog 125 [.yld 0, .loc 9 0] [.lp 33 [(2, .loc 1 0), (3, .loc 2 0), (4, .loc 3 0)] #[10] pxrA pxrB .ready none, .flat 3 [.int .i64 (h * 8)], .mix 85 [cvD w h ds], .mix 148 [.yld 4], .lp 18 [(3, .loc 5 0), (5, .loc 6 0)] #[10, 11] earA earB .ready none, .mix 88 [.fn (.func 86) [] [.loc 8 0]], .mix 124 [.hnd 7], .obj (mapQ p2 c4 (mpK false w ts cc (([] : List P2)))), .flat 27 (c4 cc), .mix 25 [.slf 3 l.length (l.flatMap s3)]] (.tup []) [.lp 33 [(2, .loc 1 0), (3, .loc 2 0), (4, .loc 3 0)] #[10] pxrA pxrB (rst (lowB (h * 8) l)) (rpe (.exit 0) (lowB (h * 8) l)), .flat 3 [.int .i64 (h * 8)], .mix 85 [cvD w h ds], .mix 148 [.yld 4], .lp 18 [(3, .loc 5 0), (5, .loc 6 0)] #[10, 11] earA earB .ready none, .mix 88 [.fn (.func 86) [] [.loc 8 0]], .mix 124 [.hnd 7], .obj (mapQ p2 c4 (mpK false w ts cc (ptsS (lowS (h * 8) l)))), .flat 27 (c4 cc), .mix 25 [.slf 3 l.length (l.flatMap s3)]] := by
  refine zal (N := 23) 10 (by kernel_rfl) Tryz.func125 rfl rfl rfl (by simp only [fr0, Nat.zero_add, Nat.reduceAdd]; exact rfl) rfl fun s0 hs0 => ?_
  refine zaf ?_
  refine zah 1 (by simp only [holes, List.cons_append, List.nil_append]; exact rfl) ?_
  refine zad ?_
  refine zaj rfl rfl rfl (op_boxm 10 rfl (ev1 rfl) (fun s v h => by cases h <;> rfl) rfl) (by simp only [upd, zaa, za]; exact rfl) ?_
  refine zae ?_
  refine zaf ?_
  refine zah 1 (by simp only [holes, List.cons_append, List.nil_append]; exact rfl) ?_
  refine zad ?_
  refine zab rfl rfl rfl (op_ldm rfl tb25 (ev1 rfl) rfl rfl) ?_
  refine zaj rfl rfl rfl (zai [] [] [11] rfl (ev1 rfl) (ec (ev1 rfl) en) rfl rfl (told_d l) rfl rfl rfl rfl rfl rfl) (by simp only [upd, zaa, za]; exact rfl) ?_
  refine zae ?_
  refine dwp_block ?_
  refine dwp_hole ?_
  simp only [List.cons_append, List.nil_append]
  refine dwp_rf (FL := [(2, _)]) (st := (rst (lowB (h * 8) l))) (pe := (rpe .ret (lowB (h * 8) l))) [12, 10, 0, 1, 2, 3, 4, 5, 6, 7, 8, 11] [] [] 12 rfl rfl (ev1 rfl) rfl (subF_lk ⟨rfl, trivial⟩) rfl rfl rfl (told_p w h ds ts hr hc cc l hl hl0 hon) rfl rfl rfl rfl rfl rfl rfl (rst_busy _) (fun e => ?_) (fun c e => ?_)
  · simp only [upd, zaa, za]
    refine kend [0, 1, 2, 3, 4, 5, 6, 7, 8, 9] (res_none rfl) rfl rfl ?_ ⟨rfl, rfl, rfl, rfl, rfl, rfl, rfl, rfl, rfl, rfl, trivial⟩
    rfl
  · obtain ⟨e1, rfl⟩ : lowB (h * 8) l = false ∧ c = .ret := by
      cases h : lowB (h * 8) l <;> simp_all [rpe]
    simp only [upd, zaa, za]
    refine dwp_ret ?_
    refine kend [0, 1, 2, 3, 4, 5, 6, 7, 8, 9] (res_none rfl) rfl rfl ?_ ⟨rfl, rfl, rfl, rfl, rfl, rfl, rfl, rfl, rfl, rfl, trivial⟩
    rfl
set_option maxRecDepth 4000 in
set_option maxHeartbeats 1000000 in
theorem span_w_y (w h : Int) (ds : List D) (ts : List TL) (hr : RowOk ds ts) (hc : CvOk w h ts) (cc : C4) (s : Sp) (hs : rchS s ∧ s.f ≤ s.t) (hy : s.y < h * 8) (P : List P2) (hnd : (P ++ s.pts).Nodup) (hon : ∀ k : Nat, k < s.wd → onS w h (s.f + (k : Int)) s.y = true) (hg : tsRng ts) (hcr : cc.rng) : DRound Tryz.prog 0 [.val (.agg (s3 s).toArray)] [.lp 23 [(2, .loc 1 0)] #[7] alrA alrB .ready none, .mix 53 [.yld 2], .lp 33 [(2, .loc 3 0), (3, .loc 4 0), (4, .loc 5 0)] #[10] pxrA pxrB .ready none, .flat 3 [.int .i64 (h * 8)], .mix 85 [cvD w h ds], .mix 148 [.yld 6], .lp 18 [(3, .loc 7 0), (5, .loc 8 0)] #[10, 11] earA earB .ready none, .mix 88 [.fn (.func 87) [] [.loc 10 0]], .mix 124 [.hnd 9], .obj (mapQ p2 c4 (mpK true w ts cc (P))), .flat 27 (c4 cc)] true [.lp 23 [(2, .loc 1 0)] #[7] alrA alrB .ready none, .mix 53 [.yld 2], .lp 33 [(2, .loc 3 0), (3, .loc 4 0), (4, .loc 5 0)] #[10] pxrA pxrB .ready none, .flat 3 [.int .i64 (h * 8)], .mix 85 [cvD w h ds], .mix 148 [.yld 6], .lp 18 [(3, .loc 7 0), (5, .loc 8 0)] #[10, 11] earA earB .ready none, .mix 88 [.fn (.func 87) [] [.loc 10 0]], .mix 124 [.hnd 9], .obj (mapQ p2 c4 (mpK true w ts cc (P ++ s.pts))), .flat 27 (c4 cc)] := by
  obtain ⟨hrs, hft⟩ := hs
  have hr2 := hrs
  unfold rchS at hr2
  have hwd : (s.wd : Int) = s.t - s.f + 1 := by unfold Sp.wd; omega
  have hpw := pts_wd s
  refine dround_go 11 rfl rfl (by simp) rfl rfl fun s0 hs0 => ?_
  refine zah 1 (by simp only [holes, List.cons_append, List.nil_append]; exact rfl) ?_
  refine zad ?_
  refine zaj rfl rfl rfl (op_alloc 11 rfl zr32 rfl) (by simp only [upd, zaa, za]; exact rfl) ?_
  refine walk_s rfl rfl (op_stwa rfl tb32 (ev1 rfl) (ev1 rfl) rfl rfl rfl rfl) (by simp only [upd, zaa, za]; exact rfl) ?_
  refine zae ?_
  refine ⟨rfl, ?_⟩
  simp only [zaa, za]
  refine dwp_block ?_
  refine zaf ?_
  refine zad ?_
  refine zab rfl rfl rfl (op_fa rfl fo32_1 (ev1 rfl)) ?_
  refine zab rfl rfl rfl (op_ldo rfl tb3 (ev1 rfl) rfl rfl) ?_
  refine zab rfl rfl rfl (zac (.inr rfl) (ev1 rfl)) ?_
  refine zae ?_
  refine dwp_block ?_
  refine dwp_loopS ⟨hs0, rfl⟩ (α := Nat) (fun k => [(4, .val (.int .i64 (s.f + (k : Int))))]) [(2, _), (3, _)] (fun k => [(9, .obj (mapQ p2 c4 (mpK true w ts cc (P ++ s.pts.take k))))]) [_, _, _, _, _, _, _, _, _, .hole, _, _] (fun k => k ≤ s.wd) (fun k => s.wd - k) 0 [0, 1, 2, 3, 4, 5, 6, 7, 8, 9, 10, 11] (Nat.zero_le _) rfl ⟨rfl, rfl, trivial⟩ ⟨congrArg (fun z => some (D.val (.int .i64 z))) (by first | rfl | omega), trivial⟩ ⟨rfl, rfl, rfl, rfl, rfl, rfl, rfl, rfl, rfl, by rw [List.take_zero, List.append_nil]; rfl, rfl, rfl, trivial⟩ ?_
  intro k hx
  simp only [upd, zaa, za, List.cons_append, List.nil_append]
  have hk0 := hx
  refine zaf ?_
  refine zaf ?_
  refine zad ?_
  refine zab rfl rfl rfl (zac (.inl rfl) (ev1 rfl)) ?_
  refine zab rfl rfl rfl (op_fa rfl fo32_2 (ev1 rfl)) ?_
  refine zab rfl rfl rfl (op_ldo rfl tb3 (ev1 rfl) rfl rfl) ?_
  refine zab rfl rfl rfl (op_leq rfl (ev1 rfl) (ev1 rfl)) ?_
  refine zae ?_
  refine dwp_cond rfl (fun c1 => ?_) (fun c1 => ?_)
  · try simp only [decide_eq_true_eq, decide_eq_false_iff_not, beq_iff_eq, bne_iff_ne, beq_eq_false_iff_ne, bne_eq_false_iff_eq, Bool.not_eq_true', Bool.not_eq_false', Bool.and_eq_true, Bool.or_eq_true, Bool.or_eq_false_iff, ne_eq, Decidable.not_not, Int.not_lt, Int.not_le] at c1
    refine dwp_skip ?_
    refine zaf ?_
    refine dwp_block ?_
    refine zaf ?_
    have hk : k < s.wd := by omega
    have hfr := fresh (q := (⟨s.f + (k : Int), s.y⟩ : P2)) hnd (show k < s.pts.length by rw [hpw]; exact hk) (by simp [Sp.pts])
    refine zad ?_
    refine zab rfl rfl rfl (op_ldm rfl tb53 (ev1 rfl) rfl rfl) ?_
    refine zab rfl rfl rfl (zac (.inl rfl) (ev1 rfl)) ?_
    refine zab rfl rfl rfl (op_fa rfl fo32_0 (ev1 rfl)) ?_
    refine zab rfl rfl rfl (op_ldo rfl tb3 (ev1 rfl) rfl rfl) ?_
    refine zab rfl rfl rfl (op_build (ps := [(0, .tmp 17), (1, .tmp 19)]) rfl fl51 zr51 (vc (ev1 rfl) (vc (ev1 rfl) vn)) rfl rfl) ?_
    refine zaj rfl rfl rfl (op_y (i := 0) [2, 3, 4, 5, 6, 7, 8, 9, 10] [] [] rfl (ev1 rfl) (ec (ev1 rfl) en) rfl rfl rfl (pxRound_w_go w h ds ts hr hc cc ⟨s.f + (k : Int), s.y⟩ _ hy (hon k hk) (by rw [mpK_keys]; exact hfr) hg hcr) rfl rfl rfl rfl rfl) (by simp only [upd, zaa, za]; exact rfl) ?_
    refine zab rfl rfl rfl (op_not rfl (ev1 rfl)) ?_
    refine zae ?_
    refine dwp_if_f rfl (rfl) ?_
    refine dwp_skip ?_
    refine zad ?_
    refine zab rfl rfl rfl (zac (.inl rfl) (ev1 rfl)) ?_
    refine zab rfl rfl rfl (op_add' rfl (ev1 rfl) (ev1 rfl) (fun _ => IntWalk.i64_in _ (by omega))) ?_
    refine zab rfl rfl rfl (zac (.inr rfl) (ev1 rfl)) ?_
    refine zae ?_
    refine ⟨k + 1, [0, 1, 2, 3, 4, 5, 6, 7, 8, 9, 10, 11], by omega, by simp only []; omega, rfl, ⟨congrArg (fun z => some (D.val (.int .i64 z))) (by first | rfl | omega), rfl, rfl, trivial⟩, ⟨rfl, rfl, rfl, rfl, rfl, rfl, rfl, rfl, rfl, by rw [pts_add hk, ← List.append_assoc, ← mpK_add]; rfl, rfl, rfl, trivial⟩⟩
  · try simp only [decide_eq_true_eq, decide_eq_false_iff_not, beq_iff_eq, bne_iff_ne, beq_eq_false_iff_ne, bne_eq_false_iff_eq, Bool.not_eq_true', Bool.not_eq_false', Bool.and_eq_true, Bool.or_eq_true, Bool.or_eq_false_iff, ne_eq, Decidable.not_not, Int.not_lt, Int.not_le] at c1
    refine dwp_exit ?_
    obtain rfl : k = s.wd := by omega
    rw [show s.pts.take s.wd = s.pts from List.take_of_length_le (by omega)]
    refine ⟨by first | rfl | assumption | simp_all, rfl, [0, 1, 2, 3, 4, 5, 6, 7, 8, 9, 10], rfl, ⟨rfl, rfl, rfl, rfl, rfl, rfl, rfl, rfl, rfl, rfl, rfl, trivial⟩⟩
set_option maxRecDepth 4000 in
set_option maxHeartbeats 1000000 in
theorem span_w_n (w h : Int) (ds : List D) (ts : List TL) (hr : RowOk ds ts) (hc : CvOk w h ts) (cc : C4) (s : Sp) (hs : rchS s ∧ s.f ≤ s.t) (hy : ¬ s.y < h * 8) (P : List P2) : DRound Tryz.prog 0 [.val (.agg (s3 s).toArray)] [.lp 23 [(2, .loc 1 0)] #[7] alrA alrB .ready none, .mix 53 [.yld 2], .lp 33 [(2, .loc 3 0), (3, .loc 4 0), (4, .loc 5 0)] #[10] pxrA pxrB .ready none, .flat 3 [.int .i64 (h * 8)], .mix 85 [cvD w h ds], .mix 148 [.yld 6], .lp 18 [(3, .loc 7 0), (5, .loc 8 0)] #[10, 11] earA earB .ready none, .mix 88 [.fn (.func 87) [] [.loc 10 0]], .mix 124 [.hnd 9], .obj (mapQ p2 c4 (mpK true w ts cc (P))), .flat 27 (c4 cc)] false [.lp 23 [(2, .loc 1 0)] #[7] alrA alrB .done (some .ret), .mix 53 [.yld 2], .lp 33 [(2, .loc 3 0), (3, .loc 4 0), (4, .loc 5 0)] #[10] pxrA pxrB .done (some (.exit 0)), .flat 3 [.int .i64 (h * 8)], .mix 85 [cvD w h ds], .mix 148 [.yld 6], .lp 18 [(3, .loc 7 0), (5, .loc 8 0)] #[10, 11] earA earB .ready none, .mix 88 [.fn (.func 87) [] [.loc 10 0]], .mix 124 [.hnd 9], .obj (mapQ p2 c4 (mpK true w ts cc (P))), .flat 27 (c4 cc)] := by
  obtain ⟨hrs, hft⟩ := hs
  have hr2 := hrs
  unfold rchS at hr2
  have hwd : (s.wd : Int) = s.t - s.f + 1 := by unfold Sp.wd; omega
  have hpw := pts_wd s
  refine dround_go 11 rfl rfl (by simp) rfl rfl fun s0 hs0 => ?_
  refine zah 1 (by simp only [holes, List.cons_append, List.nil_append]; exact rfl) ?_
  refine zad ?_
  refine zaj rfl rfl rfl (op_alloc 11 rfl zr32 rfl) (by simp only [upd, zaa, za]; exact rfl) ?_
  refine walk_s rfl rfl (op_stwa rfl tb32 (ev1 rfl) (ev1 rfl) rfl rfl rfl rfl) (by simp only [upd, zaa, za]; exact rfl) ?_
  refine zae ?_
  refine ⟨rfl, ?_⟩
  simp only [zaa, za]
  refine dwp_block ?_
  refine zaf ?_
  refine zad ?_
  refine zab rfl rfl rfl (op_fa rfl fo32_1 (ev1 rfl)) ?_
  refine zab rfl rfl rfl (op_ldo rfl tb3 (ev1 rfl) rfl rfl) ?_
  refine zab rfl rfl rfl (zac (.inr rfl) (ev1 rfl)) ?_
  refine zae ?_
  refine dwp_block ?_
  refine dwp_loopS ⟨hs0, rfl⟩ (α := Nat) (fun k => [(4, .val (.int .i64 (s.f + (k : Int))))]) [(2, _), (3, _)] (fun k => []) [_, _, _, _, _, _, _, _, _, _, _, _] (fun k => k = 0) (fun k => 1 - k) 0 [0, 1, 2, 3, 4, 5, 6, 7, 8, 9, 10, 11] (rfl) rfl ⟨rfl, rfl, trivial⟩ ⟨congrArg (fun z => some (D.val (.int .i64 z))) (by first | rfl | omega), trivial⟩ ⟨rfl, rfl, rfl, rfl, rfl, rfl, rfl, rfl, rfl, rfl, rfl, rfl, trivial⟩ ?_
  intro k hx
  simp only [upd, zaa, za, List.cons_append, List.nil_append]
  have hk0 := hx
  refine zaf ?_
  refine zaf ?_
  refine zad ?_
  refine zab rfl rfl rfl (zac (.inl rfl) (ev1 rfl)) ?_
  refine zab rfl rfl rfl (op_fa rfl fo32_2 (ev1 rfl)) ?_
  refine zab rfl rfl rfl (op_ldo rfl tb3 (ev1 rfl) rfl rfl) ?_
  refine zab rfl rfl rfl (op_leq rfl (ev1 rfl) (ev1 rfl)) ?_
  refine zae ?_
  refine dwp_if_t rfl (by subst hk0; simp; omega) ?_
  refine dwp_skip ?_
  refine zaf ?_
  refine dwp_block ?_
  refine zaf ?_
  refine zad ?_
  refine zab rfl rfl rfl (op_ldm rfl tb53 (ev1 rfl) rfl rfl) ?_
  refine zab rfl rfl rfl (zac (.inl rfl) (ev1 rfl)) ?_
  refine zab rfl rfl rfl (op_fa rfl fo32_0 (ev1 rfl)) ?_
  refine zab rfl rfl rfl (op_ldo rfl tb3 (ev1 rfl) rfl rfl) ?_
  refine zab rfl rfl rfl (op_build (ps := [(0, .tmp 17), (1, .tmp 19)]) rfl fl51 zr51 (vc (ev1 rfl) (vc (ev1 rfl) vn)) rfl rfl) ?_
  refine zaj rfl rfl rfl (op_y (i := 0) [2, 3, 4, 5, 6, 7, 8, 9, 10] [] [] rfl (ev1 rfl) (ec (ev1 rfl) en) rfl rfl rfl (pxRound_w_no w h ds ts hr hc cc ⟨s.f + (k : Int), s.y⟩ _ hy) rfl rfl rfl rfl rfl) (by simp only [upd, zaa, za]; exact rfl) ?_
  refine zab rfl rfl rfl (op_not rfl (ev1 rfl)) ?_
  refine zae ?_
  refine dwp_if_t rfl (rfl) ?_
  refine dwp_ret ?_
  refine ⟨by first | rfl | assumption | simp_all, rfl, [0, 1, 2, 3, 4, 5, 6, 7, 8, 9, 10], rfl, ⟨rfl, rfl, rfl, rfl, rfl, rfl, rfl, rfl, rfl, rfl, rfl, trivial⟩⟩
set_option maxRecDepth 4000 in
set_option maxHeartbeats 1000000 in
theorem told_w (w h : Int) (ds : List D) (ts : List TL) (hr : RowOk ds ts) (hc : CvOk w h ts) (cc : C4) (l : List Sp) (hl : chkS l) (hl0 : l.length ≤ 9223372036854775807) (hon : ∀ p ∈ ptsS l, p.y < h * 8 → onS w h p.x p.y = true) (hg : tsRng ts) (hcr : cc.rng) : DFun Tryz.prog 103 [.yld 0, .loc 11 0] [.lp 23 [(2, .loc 1 0)] #[7] alrA alrB .ready none, .mix 53 [.yld 2], .lp 33 [(2, .loc 3 0), (3, .loc 4 0), (4, .loc 5 0)] #[10] pxrA pxrB .ready none, .flat 3 [.int .i64 (h * 8)], .mix 85 [cvD w h ds], .mix 148 [.yld 6], .lp 18 [(3, .loc 7 0), (5, .loc 8 0)] #[10, 11] earA earB .ready none, .mix 88 [.fn (.func 87) [] [.loc 10 0]], .mix 124 [.hnd 9], .obj (mapQ p2 c4 (mpK true w ts cc (([] : List P2)))), .flat 27 (c4 cc), .mix 25 [.slf 3 l.length (l.flatMap s3)]] (.tup []) [.lp 23 [(2, .loc 1 0)] #[7] alrA alrB (rst (lowB (h * 8) l)) (rpe .ret (lowB (h * 8) l)), .mix 53 [.yld 2], .lp 33 [(2, .loc 3 0), (3, .loc 4 0), (4, .loc 5 0)] #[10] pxrA pxrB (rst (lowB (h * 8) l)) (rpe (.exit 0) (lowB (h * 8) l)), .flat 3 [.int .i64 (h * 8)], .mix 85 [cvD w h ds], .mix 148 [.yld 6], .lp 18 [(3, .loc 7 0), (5, .loc 8 0)] #[10, 11] earA earB .ready none, .mix 88 [.fn (.func 87) [] [.loc 10 0]], .mix 124 [.hnd 9], .obj (mapQ p2 c4 (mpK true w ts cc (ptsS (lowS (h * 8) l)))), .flat 27 (c4 cc), .mix 25 [.slf 3 l.length (l.flatMap s3)]] := by
  refine zal (N := 19) 12 (by kernel_rfl) Tryz.func103 rfl rfl rfl (by simp only [fr0, Nat.zero_add, Nat.reduceAdd]; exact rfl) rfl fun s0 hs0 => ?_
  refine zaf ?_
  refine zaf ?_
  refine zad ?_
  refine zab rfl rfl rfl (op_ldm rfl tb25 (ev1 rfl) rfl rfl) ?_
  refine zab rfl rfl rfl (zai [] [] [] rfl (ev1 rfl) (ec (ev1 rfl) en) rfl rfl (check_d l) rfl rfl rfl rfl rfl rfl) ?_
  refine zab rfl rfl rfl (op_neq rfl (ev1 rfl) (ev1 rfl)) ?_
  refine zae ?_
  refine dwp_if_f rfl (by rw [chkE_ok hl]; rfl) ?_
  refine dwp_skip ?_
  refine zaf ?_
  refine zad ?_
  refine zab rfl rfl rfl (op_ldm rfl tb25 (ev1 rfl) rfl rfl) ?_
  refine zab rfl rfl rfl (op_len rfl sl25 (ev1 rfl)) ?_
  refine zab rfl rfl rfl (zac (.inl rfl) (ev1 rfl)) ?_
  refine zae ?_
  refine dwp_block ?_
  refine dwp_loopS ⟨hs0, rfl⟩ (α := Nat) (fun i => [(10, .val (.int .i64 (i : Int)))]) [(0, _), (8, _), (9, _)] (fun i => [(9, .obj (mapQ p2 c4 (mpK true w ts cc (ptsS (l.take i)))))]) [_, _, _, _, _, _, _, _, _, .hole, _, _] (fun i => i ≤ l.length ∧ lowB (h * 8) (l.take i) = true) (fun i => l.length - i) 0 [0, 1, 2, 3, 4, 5, 6, 7, 8, 9, 10, 11] (⟨Nat.zero_le _, rfl⟩) rfl ⟨rfl, rfl, rfl, trivial⟩ ⟨rfl, trivial⟩ ⟨rfl, rfl, rfl, rfl, rfl, rfl, rfl, rfl, rfl, rfl, rfl, rfl, trivial⟩ ?_
  intro i hx
  simp only [upd, zaa, za, List.cons_append, List.nil_append]
  obtain ⟨hi0, hlo⟩ := hx
  refine zaf ?_
  refine zad ?_
  refine zab rfl rfl rfl (op_lss rfl (ev1 rfl) (ev1 rfl)) ?_
  refine zae ?_
  refine zaf ?_
  refine dwp_cond rfl (fun c2 => ?_) (fun c2 => ?_)
  · try simp only [decide_eq_true_eq, decide_eq_false_iff_not, beq_iff_eq, bne_iff_ne, beq_eq_false_iff_ne, bne_eq_false_iff_eq, Bool.not_eq_true', Bool.not_eq_false', Bool.and_eq_true, Bool.or_eq_true, Bool.or_eq_false_iff, ne_eq, Decidable.not_not, Int.not_lt, Int.not_le] at c2
    refine dwp_skip ?_
    refine zaf ?_
    refine dwp_block ?_
    refine zaf ?_
    have hi : i < l.length := by omega
    refine zah 1 (by simp only [holes, List.cons_append, List.nil_append]; exact rfl) ?_
    refine zad ?_
    refine zab rfl rfl rfl (op_ixsr (j := i) rfl sl25 (ev1 rfl) (ev1 rfl) (fun _ => rfl) (by decide) (by omega) (by omega)) ?_
    refine zab rfl rfl rfl (op_ldwd rfl tb32 (ev1 rfl) rfl) ?_
    refine zaj rfl rfl rfl (op_alloc 12 rfl zr32 rfl) (by simp only [upd, zaa, za]; exact rfl) ?_
    refine walk_s rfl rfl (op_stwa rfl tb32 (ev1 rfl) (ev1 rfl) rfl rfl rfl rfl) (by simp only [upd, zaa, za]; exact rfl) ?_
    refine zae ?_
    refine zaf ?_
    by_cases hy : l[i].y < h * 8
    · have hnd := ptsS_nd hl (i + 1)
      rw [ptsS_add hi] at hnd
      refine zad ?_
      refine zab rfl rfl rfl (zac (.inl rfl) (ev1 rfl)) ?_
      refine zab rfl rfl rfl (op_ldw rfl tb32 (ev1 rfl) rfl rfl) ?_
      refine zaj rfl rfl rfl (op_y (i := 0) [0, 1, 2, 3, 4, 5, 6, 7, 8, 9, 10] [] [] rfl (ev1 rfl) (ec (ev1 rfl) en) rfl rfl rfl (span_w_y w h ds ts hr hc cc l[i] (hl.1 _ (List.getElem_mem hi)) hy _ hnd (fun k hk => hon _ (pts_mem2 hi hk) hy) hg hcr) rfl rfl rfl rfl rfl) (by simp only [upd, zaa, za]; exact rfl) ?_
      refine zab rfl rfl rfl (op_not rfl (ev1 rfl)) ?_
      refine zae ?_
      refine dwp_if_f rfl (rfl) ?_
      refine dwp_skip ?_
      refine zad ?_
      refine zab rfl rfl rfl (op_add' rfl (ev1 rfl) (ev1 rfl) (fun _ => IntWalk.i64_in _ (by omega))) ?_
      refine zab rfl rfl rfl (zac (.inl rfl) (ev1 rfl)) ?_
      refine zae ?_
      refine ⟨i + 1, [0, 1, 2, 3, 4, 5, 6, 7, 8, 9, 10, 11], ⟨by omega, lowB_add hi hlo hy⟩, by simp only []; omega, rfl, ⟨rfl, rfl, rfl, rfl, trivial⟩, ⟨rfl, rfl, rfl, rfl, rfl, rfl, rfl, rfl, rfl, by rw [ptsS_add hi]; rfl, rfl, rfl, trivial⟩⟩
    · refine zad ?_
      refine zab rfl rfl rfl (zac (.inl rfl) (ev1 rfl)) ?_
      refine zab rfl rfl rfl (op_ldw rfl tb32 (ev1 rfl) rfl rfl) ?_
      refine zaj rfl rfl rfl (op_y (i := 0) [0, 1, 2, 3, 4, 5, 6, 7, 8, 9, 10] [] [] rfl (ev1 rfl) (ec (ev1 rfl) en) rfl rfl rfl (span_w_n w h ds ts hr hc cc l[i] (hl.1 _ (List.getElem_mem hi)) hy _) rfl rfl rfl rfl rfl) (by simp only [upd, zaa, za]; exact rfl) ?_
      refine zab rfl rfl rfl (op_not rfl (ev1 rfl)) ?_
      refine zae ?_
      refine dwp_if_t rfl (rfl) ?_
      refine dwp_ret ?_
      have e1 := lowB_no hi hy
      have e2 := lowS_stop hl hi hlo hy
      rw [e1, e2]
      refine kend [0, 1, 2, 3, 4, 5, 6, 7, 8, 9, 10, 11] (res_none rfl) rfl rfl ?_ ⟨rfl, rfl, rfl, rfl, rfl, rfl, rfl, rfl, rfl, rfl, rfl, rfl, trivial⟩
      rfl
  · try simp only [decide_eq_true_eq, decide_eq_false_iff_not, beq_iff_eq, bne_iff_ne, beq_eq_false_iff_ne, bne_eq_false_iff_eq, Bool.not_eq_true', Bool.not_eq_false', Bool.and_eq_true, Bool.or_eq_true, Bool.or_eq_false_iff, ne_eq, Decidable.not_not, Int.not_lt, Int.not_le] at c2
    refine dwp_exit ?_
    have hil : l.take i = l := take_all (by omega)
    rw [hil] at hlo
    rw [hlo, lowS_all hlo, hil]
    refine kend [0, 1, 2, 3, 4, 5, 6, 7, 8, 9, 10, 11] (res_none rfl) rfl rfl ?_ ⟨rfl, rfl, rfl, rfl, rfl, rfl, rfl, rfl, rfl, rfl, rfl, rfl, trivial⟩
    rfl
set_option maxRecDepth 4000 in
set_option maxHeartbeats 1000000 in
theorem all_w (w h : Int) (ds : List D) (ts : List TL) (hr : RowOk ds ts) (hc : CvOk w h ts) (cc : C4) (l : List Sp) (hl : chkS l) (hl0 : l.length ≤ 9223372036854775807) (hon : ∀ p ∈ ptsS l, p.y < h * 8 → onS w h p.x p.y = true) (hg : tsRng ts) (hcr : cc.rng) : DFun Tryz.prog 125 [.yld 0, .loc 9 0] [.lp 33 [(2, .loc 1 0), (3, .loc 2 0), (4, .loc 3 0)] #[10] pxrA pxrB .ready none, .flat 3 [.int .i64 (h * 8)], .mix 85 [cvD w h ds], .mix 148 [.yld 4], .lp 18 [(3, .loc 5 0), (5, .loc 6 0)] #[10, 11] earA earB .ready none, .mix 88 [.fn (.func 87) [] [.loc 8 0]], .mix 124 [.hnd 7], .obj (mapQ p2 c4 (mpK true w ts cc (([] : List P2)))), .flat 27 (c4 cc), .mix 25 [.slf 3 l.length (l.flatMap s3)]] (.tup []) [.lp 33 [(2, .loc 1 0), (3, .loc 2 0), (4, .loc 3 0)] #[10] pxrA pxrB (rst (lowB (h * 8) l)) (rpe (.exit 0) (lowB (h * 8) l)), .flat 3 [.int .i64 (h * 8)], .mix 85 [cvD w h ds], .mix 148 [.yld 4], .lp 18 [(3, .loc 5 0), (5, .loc 6 0)] #[10, 11] earA earB .ready none, .mix 88 [.fn (.func 87) [] [.loc 8 0]], .mix 124 [.hnd 7], .obj (mapQ p2 c4 (mpK true w ts cc (ptsS (lowS (h * 8) l)))), .flat 27 (c4 cc), .mix 25 [.slf 3 l.length (l.flatMap s3)]] := by
  refine zal (N := 23) 10 (by kernel_rfl) Tryz.func125 rfl rfl rfl (by simp only [fr0, Nat.zero_add, Nat.reduceAdd]; exact rfl) rfl fun s0 hs0 => ?_
  refine zaf ?_
  refine zah 1 (by simp only [holes, List.cons_append, List.nil_append]; exact rfl) ?_
  refine zad ?_
  refine zaj rfl rfl rfl (op_boxm 10 rfl (ev1 rfl) (fun s v h => by cases h <;> rfl) rfl) (by simp only [upd, zaa, za]; exact rfl) ?_
  refine zae ?_
  refine zaf ?_
  refine zah 1 (by simp only [holes, List.cons_append, List.nil_append]; exact rfl) ?_
  refine zad ?_
  refine zab rfl rfl rfl (op_ldm rfl tb25 (ev1 rfl) rfl rfl) ?_
  refine zaj rfl rfl rfl (zai [] [] [11] rfl (ev1 rfl) (ec (ev1 rfl) en) rfl rfl (told_d l) rfl rfl rfl rfl rfl rfl) (by simp only [upd, zaa, za]; exact rfl) ?_
  refine zae ?_
  refine dwp_block ?_
  refine dwp_hole ?_
  simp only [List.cons_append, List.nil_append]
  refine dwp_rf (FL := [(2, _)]) (st := (rst (lowB (h * 8) l))) (pe := (rpe .ret (lowB (h * 8) l))) [12, 10, 0, 1, 2, 3, 4, 5, 6, 7, 8, 11] [] [] 12 rfl rfl (ev1 rfl) rfl (subF_lk ⟨rfl, trivial⟩) rfl rfl rfl (told_w w h ds ts hr hc cc l hl hl0 hon hg hcr) rfl rfl rfl rfl rfl rfl rfl (rst_busy _) (fun e => ?_) (fun c e => ?_)
  · simp only [upd, zaa, za]
    refine kend [0, 1, 2, 3, 4, 5, 6, 7, 8, 9] (res_none rfl) rfl rfl ?_ ⟨rfl, rfl, rfl, rfl, rfl, rfl, rfl, rfl, rfl, rfl, trivial⟩
    rfl
  · obtain ⟨e1, rfl⟩ : lowB (h * 8) l = false ∧ c = .ret := by
      cases h : lowB (h * 8) l <;> simp_all [rpe]
    simp only [upd, zaa, za]
    refine dwp_ret ?_
    refine kend [0, 1, 2, 3, 4, 5, 6, 7, 8, 9] (res_none rfl) rfl rfl ?_ ⟨rfl, rfl, rfl, rfl, rfl, rfl, rfl, rfl, rfl, rfl, trivial⟩
    rfl
end Go.Proofs.YtjgnalfnginjbaaGreatDoor
namespace Go.Proofs.YtjgnalfnginjbaaGreatDoor
set_option maxRecDepth 4000
set_option linter.unusedVariables false
set_option linter.unusedSimpArgs false
open Go.RowKit
theorem fl96 : fdL Tryz.prog 96 = some [(0, 1), (1, 1), (2, 4)] := by kernel_rfl
theorem zr124 : zrC Tryz.prog 124 = some [.map none] := by kernel_rfl
set_option maxRecDepth 4000 in
set_option maxHeartbeats 1000000 in
theorem px_p (w h : Int) (ds : List D) (ts : List TL) (hr : RowOk ds ts) (hc : CvOk w h ts) (cc : C4) (l : List Sp) (hl : chkS l) (hl0 : l.length ≤ 1000000) (hon : ∀ p ∈ ptsS l, p.y < h * 8 → onS w h p.x p.y = true) : DFun Tryz.prog 106 [.yld 0, .loc 5 0, .loc 6 0, .loc 7 0] [.lp 18 [(3, .loc 1 0), (5, .loc 2 0)] #[10, 11] earA earB .ready none, .mix 88 [.fn (.func 86) [] [.loc 4 0]], .mix 124 [.hnd 3], .obj (mapQ p2 c4 (mpK false w ts cc (([] : List P2)))), .flat 27 (c4 cc), .mix 25 [.slf 3 l.length (l.flatMap s3)], .flat 3 [.int .i64 (h * 8)], .mix 85 [cvD w h ds]] (.tup []) [.lp 18 [(3, .loc 1 0), (5, .loc 2 0)] #[10, 11] earA earB .ready none, .mix 88 [.fn (.func 86) [] [.loc 4 0]], .mix 124 [.hnd 3], .obj (mapQ p2 c4 (mpK false w ts cc (ptsS (lowS (h * 8) l)))), .flat 27 (c4 cc), .mix 25 [.slf 3 l.length (l.flatMap s3)], .flat 3 [.int .i64 (h * 8)], .mix 85 [cvD w h ds]] := by
  refine zal (N := 33) 8 (by kernel_rfl) Tryz.func106 rfl rfl rfl (by simp only [fr0, Nat.zero_add, Nat.reduceAdd]; exact rfl) rfl fun s0 hs0 => ?_
  refine zaf ?_
  refine zah 1 (by simp only [holes, List.cons_append, List.nil_append]; exact rfl) ?_
  refine zad ?_
  refine zaj rfl rfl rfl (op_boxm 8 rfl (ev1 rfl) (fun s v h => by cases h <;> rfl) rfl) (by simp only [upd, zaa, za]; exact rfl) ?_
  refine zae ?_
  refine dwp_scope ?_
  refine zaf ?_
  refine dwp_label ?_
  refine zaf ?_
  refine zah 1 (by simp only [holes, List.cons_append, List.nil_append]; exact rfl) ?_
  refine zad ?_
  refine zab rfl rfl rfl (op_ldm rfl tb25 (ev1 rfl) rfl rfl) ?_
  refine zaj rfl rfl rfl (zai [] [] [9] rfl (ev1 rfl) (ec (ev1 rfl) en) rfl rfl (all_d l (by omega)) rfl rfl rfl rfl rfl rfl) (by simp only [upd, zaa, za]; exact rfl) ?_
  refine zae ?_
  refine dwp_block ?_
  refine dwp_hole ?_
  simp only [List.cons_append, List.nil_append]
  refine dwp_rf (FL := [(2, _), (3, _), (4, _)]) (st := (rst (lowB (h * 8) l))) (pe := (rpe (.exit 0) (lowB (h * 8) l))) [10, 6, 7, 8, 0, 1, 2, 3, 4, 9] [] [] 10 rfl rfl (ev1 rfl) rfl (subF_lk ⟨rfl, rfl, rfl, trivial⟩) rfl rfl rfl (all_p w h ds ts hr hc cc l hl (by omega) hon) rfl rfl rfl rfl rfl rfl rfl (rst_busy _) (fun e => ?_) (fun c e => ?_)
  · simp only [upd, zaa, za]
    refine kend [0, 1, 2, 3, 4, 5, 6, 7] (res_none rfl) rfl rfl ?_ ⟨rfl, rfl, rfl, rfl, rfl, rfl, rfl, rfl, trivial⟩
    rfl
  · obtain ⟨e1, rfl⟩ : lowB (h * 8) l = false ∧ c = .exit 0 := by
      cases h : lowB (h * 8) l <;> simp_all [rpe]
    simp only [upd, zaa, za]
    refine dwp_exit ?_
    refine kend [0, 1, 2, 3, 4, 5, 6, 7] (res_none rfl) rfl rfl ?_ ⟨rfl, rfl, rfl, rfl, rfl, rfl, rfl, rfl, trivial⟩
    rfl
set_option maxRecDepth 4000 in
set_option maxHeartbeats 1000000 in
theorem each_p (w h : Int) (ds : List D) (ts : List TL) (hr : RowOk ds ts) (hc : CvOk w h ts) (cc : C4) (l : List Sp) (hl : chkS l) (hl0 : l.length ≤ 1000000) (hon : ∀ p ∈ ptsS l, p.y < h * 8 → onS w h p.x p.y = true) : DFun Tryz.prog 83 [.fn (.func 106) [] [.loc 0 0, .loc 1 0, .loc 2 0], .fn (.func 86) [] [.loc 3 0]] [.mix 25 [.slf 3 l.length (l.flatMap s3)], .flat 3 [.int .i64 (h * 8)], .mix 85 [cvD w h ds], .flat 27 (c4 cc)] (.hnd 4) [.mix 25 [.slf 3 l.length (l.flatMap s3)], .flat 3 [.int .i64 (h * 8)], .mix 85 [cvD w h ds], .flat 27 (c4 cc), .obj (mapQ p2 c4 (mpK false w ts cc (ptsS (lowS (h * 8) l))))] := by
  refine zal (N := 18) 4 (by kernel_rfl) Tryz.func83 rfl rfl rfl (by simp only [fr0, Nat.zero_add, Nat.reduceAdd]; exact rfl) rfl fun s0 hs0 => ?_
  refine zaf ?_
  refine zah 1 (by simp only [holes, List.cons_append, List.nil_append]; exact rfl) ?_
  refine zad ?_
  refine zaj rfl rfl rfl (op_boxm 4 rfl (ev1 rfl) (fun s v h => by cases h <;> rfl) rfl) (by simp only [upd, zaa, za]; exact rfl) ?_
  refine zab rfl rfl rfl (zac (.inr rfl) (ev1 rfl)) ?_
  refine zae ?_
  refine zaf ?_
  refine zah 2 (by simp only [holes, List.cons_append, List.nil_append]; exact rfl) ?_
  refine zad ?_
  refine zaj rfl rfl rfl (op_mkq p2 c4 5 rfl rfl) (by simp only [upd, zaa, za]; exact rfl) ?_
  refine zaj rfl rfl rfl (op_alloc 6 rfl zr124 rfl) (by simp only [upd, zaa, za]; exact rfl) ?_
  refine walk_s rfl rfl (op_stfq rfl tb124 (ev1 rfl) (ev1 rfl) rfl rfl (by decide)) (by simp only [upd, zaa, za]; exact rfl) ?_
  refine zae ?_
  refine zaf ?_
  refine zaf ?_
  refine zad ?_
  refine zab rfl rfl rfl (zac (.inl rfl) (ev1 rfl)) ?_
  refine zae ?_
  refine dwp_block ?_
  refine dwp_hole ?_
  simp only [List.cons_append, List.nil_append]
  refine dwp_rf (FL := [(3, _), (5, _)]) (st := .ready) (pe := none) [7, 4, 6, 5, 3, 0, 1, 2] [] [] 7 rfl rfl (ev1 rfl) rfl (subF_lk ⟨rfl, rfl, trivial⟩) rfl rfl rfl (px_p w h ds ts hr hc cc l hl hl0 hon) rfl rfl rfl rfl rfl rfl rfl (by simp) (fun e => ?_) (fun c e => ?_)
  · simp only [upd, zaa, za]
    refine zaf ?_
    refine zad ?_
    refine zab rfl rfl rfl (op_ldm rfl tb124 (ev1 rfl) rfl rfl) ?_
    refine zab rfl rfl rfl (zac (.inr rfl) (ev1 rfl)) ?_
    refine zae ?_
    refine dwp_ret ?_
    refine kend [0, 1, 2, 3, 5] (rs1 rfl (rv_t rfl)) rfl rfl ?_ ⟨rfl, rfl, rfl, rfl, rfl, trivial⟩
    rfl
  · cases e
theorem drawn_ok_p (w h : Int) (ds : List D) (ts : List TL) (hr : RowOk ds ts) (hc : CvOk w h ts) (cc : C4) (l : List Sp) (hl : chkS l) : chkS (clipS (⟨0, 0, w * 8 - 1, 255⟩ : Bx) l) ∧ (∀ p ∈ ptsS (clipS (⟨0, 0, w * 8 - 1, 255⟩ : Bx) l), p.y < h * 8 → onS w h p.x p.y = true) ∧ ∀ x y, onS w h x y = true → ((⟨x, y⟩ : P2) ∈ ptsS (lowS (h * 8) (clipS (⟨0, 0, w * 8 - 1, 255⟩ : Bx) l)) ↔ (⟨x, y⟩ : P2) ∈ ptsS l) := by
  have hb := mayS_b hc.may
  have hin : ∀ x y, (⟨x, y⟩ : P2) ∈ ptsS (clipS (⟨0, 0, w * 8 - 1, 255⟩ : Bx) l) ↔ (0 ≤ x ∧ x ≤ w * 8 - 1) ∧ (0 ≤ y ∧ y ≤ 255) ∧ (⟨x, y⟩ : P2) ∈ ptsS l := fun x y => by
    rw [ptsS_mem, ptsS_mem, clip_has]
    show (_ ∧ (0 ≤ x ∧ x ≤ w * 8 - 1) ∧ 0 ≤ y ∧ y ≤ 255) ↔ _
    constructor
    · rintro ⟨h1, h2, h3⟩; exact ⟨h2, h3, h1⟩
    · rintro ⟨h2, h3, h1⟩; exact ⟨h1, h2, h3⟩
  refine ⟨clip_chk hl, fun p hp hy => ?_, fun x y ho => ?_⟩
  · obtain ⟨h1, h2, _⟩ := (hin p.x p.y).1 hp
    exact onS_iff.2 ⟨by omega, by omega⟩
  · have hxy := onS_iff.1 ho
    rw [lowS_mem, hin]
    constructor
    · exact fun g => g.1.2.2
    · exact fun g => ⟨⟨by omega, by omega, g⟩, by show y < _; omega⟩
set_option maxRecDepth 4000 in
set_option maxHeartbeats 1000000 in
theorem drawn_p (w h : Int) (ds : List D) (ts : List TL) (hr : RowOk ds ts) (hc : CvOk w h ts) (cc : C4) (l : List Sp) (hl : chkS l) (hn : l.length ≤ 1000000) : DFun Tryz.prog 49 [.agg [cvD w h ds], .slf 3 l.length (l.flatMap s3), .fn (.func 86) [] [.loc 0 0]] [.flat 27 (c4 cc)] (cvD w h (dpR (drwC false w h ts cc l))) [.flat 27 (c4 cc)] := by
  obtain ⟨hck, hon, hmem⟩ := drawn_ok_p w h ds ts hr hc cc l hl
  have hcl := clipS_len (⟨0, 0, w * 8 - 1, 255⟩ : Bx) l
  have hPl : (ptsS (lowS (h * 8) (clipS (⟨0, 0, w * 8 - 1, 255⟩ : Bx) l))).length ≤ 600000000 := low_len hck (by omega)
  have hb := mayS_b hc.may
  refine zal (N := 42) 1 (by kernel_rfl) Tryz.func49 rfl rfl rfl (by simp only [fr0, Nat.zero_add, Nat.reduceAdd]; exact rfl) rfl fun s0 hs0 => ?_
  refine dwp_len (t := 1) rfl fun hl1 hL1 => ?_
  refine zaf ?_
  refine zah 1 (by simp only [holes, List.cons_append, List.nil_append]; exact rfl) ?_
  refine zad ?_
  refine zaj rfl rfl rfl (op_boxam 1 rfl (ev1 rfl) rfl) (by simp only [upd, zaa, za]; exact rfl) ?_
  refine zab rfl rfl rfl (zac (.inr rfl) (ev1 rfl)) ?_
  refine zae ?_
  refine zaf ?_
  refine zah 4 (by simp only [holes, List.cons_append, List.nil_append]; exact rfl) ?_
  refine zad ?_
  refine zab rfl rfl rfl (op_ldmw rfl tb85 (ev1 rfl) rfl rfl) ?_
  refine zab rfl rfl rfl (zac (.inl rfl) (ev1 rfl)) ?_
  refine zaj rfl rfl rfl (zai [] [] [2, 3, 4] rfl (ev1 rfl) (ec (ev1 rfl) (ec (ev1 rfl) en)) rfl rfl (pixels_d w h ds ts hr hc l hl (by omega)) rfl rfl rfl rfl rfl rfl) (by simp only [upd, zaa, za]; exact rfl) ?_
  refine zab rfl rfl rfl (zac (.inl rfl) (ev1 rfl)) ?_
  refine zaj rfl rfl rfl (zai [2, 3, 4, 0] [] [5] rfl (ev1 rfl) (ec (ev1 rfl) (ec (ev1 rfl) en)) rfl rfl (each_p w h ds ts hr hc cc (clipS (⟨0, 0, w * 8 - 1, 255⟩ : Bx) l) hck (by omega) hon) rfl rfl rfl rfl rfl rfl) (by simp only [upd, zaa, za]; exact rfl) ?_
  refine zab rfl rfl rfl (zac (.inr rfl) (ev1 rfl)) ?_
  refine zae ?_
  refine zaf ?_
  have hml := mpK_len false w ts cc (ptsS (lowS (h * 8) (clipS (⟨0, 0, w * 8 - 1, 255⟩ : Bx) l)))
  refine zah 1 (by simp only [holes, List.cons_append, List.nil_append]; exact rfl) ?_
  refine zad ?_
  refine zab rfl rfl rfl (zac (.inl rfl) (ev1 rfl)) ?_
  refine zab rfl rfl rfl (op_lenq rfl mp124 (ev1 rfl) rfl) ?_
  refine zaj rfl rfl rfl (op_mk0 6 ((ptsS (lowS (h * 8) (clipS (⟨0, 0, w * 8 - 1, 255⟩ : Bx) l))).length) rfl sl129 zr96 (ev1 rfl) (ev1 rfl) (fun _ => rfl) (fun _ => by rw [hml]) rfl (fun _ => ⟨by omega, by omega⟩)) (by simp only [upd, zaa, za]; exact rfl) ?_
  refine zab rfl rfl rfl (zac (.inr rfl) (ev1 rfl)) ?_
  refine zae ?_
  refine zaf ?_
  refine zaf ?_
  refine zah 1 (by simp only [holes, List.cons_append, List.nil_append]; exact rfl) ?_
  refine zad ?_
  refine zab rfl rfl rfl (zac (.inl rfl) (ev1 rfl)) ?_
  refine zaj rfl rfl rfl (op_rgq 7 rfl mp124 (ev1 rfl) rfl rfl) (by simp only [upd, zaa, za]; exact rfl) ?_
  refine zae ?_
  refine dwp_block ?_
  refine dwp_loopS ⟨hs0, rfl⟩ (α := List Nat) (fun sn => []) [(3, _), (8, _), (21, _)] (fun sn => [(6, .arr 96 6 (dlN false w ts cc (ptsS (lowS (h * 8) (clipS (⟨0, 0, w * 8 - 1, 255⟩ : Bx) l))) sn).length ((dlN false w ts cc (ptsS (lowS (h * 8) (clipS (⟨0, 0, w * 8 - 1, 255⟩ : Bx) l))) sn).flatMap dtC)), (7, .mit (.hnd 5) (mpK false w ts cc (ptsS (lowS (h * 8) (clipS (⟨0, 0, w * 8 - 1, 255⟩ : Bx) l)))).length sn)]) [_, _, _, _, _, _, .hole, .hole] (fun sn => sn.Nodup ∧ ∀ p ∈ sn, p < (ptsS (lowS (h * 8) (clipS (⟨0, 0, w * 8 - 1, 255⟩ : Bx) l))).length) (fun sn => (ptsS (lowS (h * 8) (clipS (⟨0, 0, w * 8 - 1, 255⟩ : Bx) l))).length - sn.length) [] [0, 1, 2, 3, 4, 5, 6, 7] (⟨List.nodup_nil, fun p hp => by simp at hp⟩) rfl ⟨rfl, rfl, rfl, trivial⟩ trivial ⟨rfl, rfl, rfl, rfl, rfl, rfl, rfl, rfl, trivial⟩ ?_
  intro sn hx
  simp only [upd, zaa, za, List.cons_append, List.nil_append]
  obtain ⟨hnd, hlt⟩ := hx
  have hsl := all_in hnd hlt
  have hdl := dlN_len false w ts cc (ptsS (lowS (h * 8) (clipS (⟨0, 0, w * 8 - 1, 255⟩ : Bx) l))) sn
  refine zaf ?_
  refine zad ?_
  refine walk_e rfl rfl rfl (op_nxq rfl (ev1 rfl) rfl rfl) ?_
  rintro d wr (⟨rfl, rfl, hall⟩ | ⟨p, kp, ep, hep, hnp, rfl, rfl⟩)
  · simp only [upd]
    refine zab rfl rfl rfl (op_ext rfl (ev1 rfl) rfl) ?_
    refine zae ?_
    refine zaf ?_
    refine dwp_if_f rfl (rfl) ?_
    refine dwp_exit ?_
    refine zaf ?_
    refine dwp_giveA 8 rfl rfl (by simp only [zaa, za]; exact rfl) ?_
    have hfin := dlN_puts (k := false) hc cc hmem hlt (fun p hp => hall p (by rw [hml]; exact hp))
    refine zad ?_
    refine zab rfl rfl rfl (op_fa rfl fo85_0 (ev1 rfl)) ?_
    refine zab rfl rfl rfl (op_ldm rfl tb33 (ev1 rfl) rfl rfl) ?_
    refine zab rfl rfl rfl (op_mkf rfl (ec (ev1 rfl) en) en) ?_
    refine zab rfl rfl rfl (zac (.inr rfl) (ev1 rfl)) ?_
    refine zae ?_
    refine zaf ?_
    refine zad ?_
    refine zab rfl rfl rfl (zac (.inl rfl) (ev1 rfl)) ?_
    refine zab rfl rfl rfl (zac (.inl rfl) (ev1 rfl)) ?_
    refine zab rfl rfl rfl (zai [] [] [] rfl (ev1 rfl) (ec (ev1 rfl) en) rfl rfl (with_d w h ds ts hr hc _) rfl rfl rfl rfl rfl rfl) ?_
    refine zab rfl rfl rfl (zac (.inr rfl) (ev1 rfl)) ?_
    refine zae ?_
    refine dwp_ret ?_
    refine kend [0] (rs1 rfl (rv_t rfl)) rfl rfl ?_ ⟨rfl, trivial⟩
    rw [hfin]
  · simp only [upd, zaa, za]
    obtain ⟨hkp, rfl⟩ := mpK_get hep
    have hp1 := (List.getElem?_eq_some_iff.1 hkp).1
    have hI : (sn ++ [p]).Nodup ∧ ∀ r ∈ sn ++ [p], r < (ptsS (lowS (h * 8) (clipS (⟨0, 0, w * 8 - 1, 255⟩ : Bx) l))).length := ⟨by rw [List.nodup_append]; exact ⟨hnd, by simp, fun a ha b hb => by simp at hb; subst hb; exact fun e => hnp (e ▸ ha)⟩, fun r hr => (List.mem_append.1 hr).elim (hlt r) fun h => by simp at h; subst h; exact hp1⟩
    have hle2 := all_in hI.1 hI.2
    refine zab rfl rfl rfl (op_ext rfl (ev1 rfl) rfl) ?_
    refine zae ?_
    refine zaf ?_
    refine dwp_if_t rfl (rfl) ?_
    refine dwp_skip ?_
    refine dwp_block ?_
    refine zaf ?_
    refine zah 2 (by simp only [holes, List.cons_append, List.nil_append]; exact rfl) ?_
    refine zad ?_
    refine zab rfl rfl rfl (op_etq rfl (ev1 rfl) rfl rfl (hep)) ?_
    refine zab rfl rfl rfl (op_ext rfl (ev1 rfl) rfl) ?_
    refine zab rfl rfl rfl (op_ext rfl (ev1 rfl) rfl) ?_
    refine zaj rfl rfl rfl (op_alloc 8 rfl zr51 rfl) (by simp only [upd, zaa, za]; exact rfl) ?_
    refine zaj rfl rfl rfl (op_alloc 9 rfl zr27 rfl) (by simp only [upd, zaa, za]; exact rfl) ?_
    refine walk_s rfl rfl (op_stwa rfl tb51 (ev1 rfl) (ev1 rfl) rfl rfl rfl rfl) (by simp only [upd, zaa, za]; exact rfl) ?_
    refine walk_s rfl rfl (op_stwa rfl tb27 (ev1 rfl) (ev1 rfl) rfl rfl rfl rfl) (by simp only [upd, zaa, za]; exact rfl) ?_
    refine zae ?_
    refine zah 1 (by simp only [holes, List.cons_append, List.nil_append]; exact rfl) ?_
    refine zad ?_
    refine zab rfl rfl rfl (zac (.inl rfl) (ev1 rfl)) ?_
    refine zab rfl rfl rfl (op_fa rfl fo51_0 (ev1 rfl)) ?_
    refine zab rfl rfl rfl (op_ldo rfl tb3 (ev1 rfl) rfl rfl) ?_
    refine zab rfl rfl rfl (op_fa rfl fo51_1 (ev1 rfl)) ?_
    refine zab rfl rfl rfl (op_ldo rfl tb3 (ev1 rfl) rfl rfl) ?_
    refine zab rfl rfl rfl (op_ldw rfl tb27 (ev1 rfl) rfl rfl) ?_
    refine zab rfl rfl rfl (op_build (ps := [(0, .tmp 29), (1, .tmp 31), (2, .tmp 32)]) rfl fl96 zr96 (vc (ev1 rfl) (vc (ev1 rfl) (vc (ev1 rfl) vn))) rfl rfl) ?_
    refine zab rfl rfl rfl (op_bs (ps := [(0, .tmp 33)]) rfl sl129 zr96 rfl (vc (ev1 rfl) vn) rfl (by decide) (by decide)) ?_
    refine zaj rfl rfl rfl (op_app (j := 10) rfl sl129 zr96 rfl (ev1 rfl) (ev1 rfl) src_slf rfl rfl (fun _ => rfl) (fun _ => ⟨by omega, by omega⟩)) (by simp only [upd, zaa, za]; exact rfl) ?_
    refine zab rfl rfl rfl (zac (.inr rfl) (ev1 rfl)) ?_
    refine zae ?_
    refine ⟨sn ++ [p], [0, 1, 2, 3, 4, 5, 10, 7], hI, by simp only [List.length_append, List.length_cons, List.length_nil] at hle2 ⊢; omega, rfl, ⟨rfl, rfl, rfl, trivial⟩, ⟨rfl, rfl, rfl, rfl, rfl, rfl, by rw [dlN_add hkp, List.length_append, List.flatMap_append]; rfl, rfl, trivial⟩⟩
set_option maxRecDepth 4000 in
set_option maxHeartbeats 1000000 in
theorem px_w (w h : Int) (ds : List D) (ts : List TL) (hr : RowOk ds ts) (hc : CvOk w h ts) (cc : C4) (l : List Sp) (hl : chkS l) (hl0 : l.length ≤ 1000000) (hon : ∀ p ∈ ptsS l, p.y < h * 8 → onS w h p.x p.y = true) (hg : tsRng ts) (hcr : cc.rng) : DFun Tryz.prog 106 [.yld 0, .loc 5 0, .loc 6 0, .loc 7 0] [.lp 18 [(3, .loc 1 0), (5, .loc 2 0)] #[10, 11] earA earB .ready none, .mix 88 [.fn (.func 87) [] [.loc 4 0]], .mix 124 [.hnd 3], .obj (mapQ p2 c4 (mpK true w ts cc (([] : List P2)))), .flat 27 (c4 cc), .mix 25 [.slf 3 l.length (l.flatMap s3)], .flat 3 [.int .i64 (h * 8)], .mix 85 [cvD w h ds]] (.tup []) [.lp 18 [(3, .loc 1 0), (5, .loc 2 0)] #[10, 11] earA earB .ready none, .mix 88 [.fn (.func 87) [] [.loc 4 0]], .mix 124 [.hnd 3], .obj (mapQ p2 c4 (mpK true w ts cc (ptsS (lowS (h * 8) l)))), .flat 27 (c4 cc), .mix 25 [.slf 3 l.length (l.flatMap s3)], .flat 3 [.int .i64 (h * 8)], .mix 85 [cvD w h ds]] := by
  refine zal (N := 33) 8 (by kernel_rfl) Tryz.func106 rfl rfl rfl (by simp only [fr0, Nat.zero_add, Nat.reduceAdd]; exact rfl) rfl fun s0 hs0 => ?_
  refine zaf ?_
  refine zah 1 (by simp only [holes, List.cons_append, List.nil_append]; exact rfl) ?_
  refine zad ?_
  refine zaj rfl rfl rfl (op_boxm 8 rfl (ev1 rfl) (fun s v h => by cases h <;> rfl) rfl) (by simp only [upd, zaa, za]; exact rfl) ?_
  refine zae ?_
  refine dwp_scope ?_
  refine zaf ?_
  refine dwp_label ?_
  refine zaf ?_
  refine zah 1 (by simp only [holes, List.cons_append, List.nil_append]; exact rfl) ?_
  refine zad ?_
  refine zab rfl rfl rfl (op_ldm rfl tb25 (ev1 rfl) rfl rfl) ?_
  refine zaj rfl rfl rfl (zai [] [] [9] rfl (ev1 rfl) (ec (ev1 rfl) en) rfl rfl (all_d l (by omega)) rfl rfl rfl rfl rfl rfl) (by simp only [upd, zaa, za]; exact rfl) ?_
  refine zae ?_
  refine dwp_block ?_
  refine dwp_hole ?_
  simp only [List.cons_append, List.nil_append]
  refine dwp_rf (FL := [(2, _), (3, _), (4, _)]) (st := (rst (lowB (h * 8) l))) (pe := (rpe (.exit 0) (lowB (h * 8) l))) [10, 6, 7, 8, 0, 1, 2, 3, 4, 9] [] [] 10 rfl rfl (ev1 rfl) rfl (subF_lk ⟨rfl, rfl, rfl, trivial⟩) rfl rfl rfl (all_w w h ds ts hr hc cc l hl (by omega) hon hg hcr) rfl rfl rfl rfl rfl rfl rfl (rst_busy _) (fun e => ?_) (fun c e => ?_)
  · simp only [upd, zaa, za]
    refine kend [0, 1, 2, 3, 4, 5, 6, 7] (res_none rfl) rfl rfl ?_ ⟨rfl, rfl, rfl, rfl, rfl, rfl, rfl, rfl, trivial⟩
    rfl
  · obtain ⟨e1, rfl⟩ : lowB (h * 8) l = false ∧ c = .exit 0 := by
      cases h : lowB (h * 8) l <;> simp_all [rpe]
    simp only [upd, zaa, za]
    refine dwp_exit ?_
    refine kend [0, 1, 2, 3, 4, 5, 6, 7] (res_none rfl) rfl rfl ?_ ⟨rfl, rfl, rfl, rfl, rfl, rfl, rfl, rfl, trivial⟩
    rfl
set_option maxRecDepth 4000 in
set_option maxHeartbeats 1000000 in
theorem each_w (w h : Int) (ds : List D) (ts : List TL) (hr : RowOk ds ts) (hc : CvOk w h ts) (cc : C4) (l : List Sp) (hl : chkS l) (hl0 : l.length ≤ 1000000) (hon : ∀ p ∈ ptsS l, p.y < h * 8 → onS w h p.x p.y = true) (hg : tsRng ts) (hcr : cc.rng) : DFun Tryz.prog 83 [.fn (.func 106) [] [.loc 0 0, .loc 1 0, .loc 2 0], .fn (.func 87) [] [.loc 3 0]] [.mix 25 [.slf 3 l.length (l.flatMap s3)], .flat 3 [.int .i64 (h * 8)], .mix 85 [cvD w h ds], .flat 27 (c4 cc)] (.hnd 4) [.mix 25 [.slf 3 l.length (l.flatMap s3)], .flat 3 [.int .i64 (h * 8)], .mix 85 [cvD w h ds], .flat 27 (c4 cc), .obj (mapQ p2 c4 (mpK true w ts cc (ptsS (lowS (h * 8) l))))] := by
  refine zal (N := 18) 4 (by kernel_rfl) Tryz.func83 rfl rfl rfl (by simp only [fr0, Nat.zero_add, Nat.reduceAdd]; exact rfl) rfl fun s0 hs0 => ?_
  refine zaf ?_
  refine zah 1 (by simp only [holes, List.cons_append, List.nil_append]; exact rfl) ?_
  refine zad ?_
  refine zaj rfl rfl rfl (op_boxm 4 rfl (ev1 rfl) (fun s v h => by cases h <;> rfl) rfl) (by simp only [upd, zaa, za]; exact rfl) ?_
  refine zab rfl rfl rfl (zac (.inr rfl) (ev1 rfl)) ?_
  refine zae ?_
  refine zaf ?_
  refine zah 2 (by simp only [holes, List.cons_append, List.nil_append]; exact rfl) ?_
  refine zad ?_
  refine zaj rfl rfl rfl (op_mkq p2 c4 5 rfl rfl) (by simp only [upd, zaa, za]; exact rfl) ?_
  refine zaj rfl rfl rfl (op_alloc 6 rfl zr124 rfl) (by simp only [upd, zaa, za]; exact rfl) ?_
  refine walk_s rfl rfl (op_stfq rfl tb124 (ev1 rfl) (ev1 rfl) rfl rfl (by decide)) (by simp only [upd, zaa, za]; exact rfl) ?_
  refine zae ?_
  refine zaf ?_
  refine zaf ?_
  refine zad ?_
  refine zab rfl rfl rfl (zac (.inl rfl) (ev1 rfl)) ?_
  refine zae ?_
  refine dwp_block ?_
  refine dwp_hole ?_
  simp only [List.cons_append, List.nil_append]
  refine dwp_rf (FL := [(3, _), (5, _)]) (st := .ready) (pe := none) [7, 4, 6, 5, 3, 0, 1, 2] [] [] 7 rfl rfl (ev1 rfl) rfl (subF_lk ⟨rfl, rfl, trivial⟩) rfl rfl rfl (px_w w h ds ts hr hc cc l hl hl0 hon hg hcr) rfl rfl rfl rfl rfl rfl rfl (by simp) (fun e => ?_) (fun c e => ?_)
  · simp only [upd, zaa, za]
    refine zaf ?_
    refine zad ?_
    refine zab rfl rfl rfl (op_ldm rfl tb124 (ev1 rfl) rfl rfl) ?_
    refine zab rfl rfl rfl (zac (.inr rfl) (ev1 rfl)) ?_
    refine zae ?_
    refine dwp_ret ?_
    refine kend [0, 1, 2, 3, 5] (rs1 rfl (rv_t rfl)) rfl rfl ?_ ⟨rfl, rfl, rfl, rfl, rfl, trivial⟩
    rfl
  · cases e
set_option maxRecDepth 4000 in
set_option maxHeartbeats 1000000 in
theorem drawn_w (w h : Int) (ds : List D) (ts : List TL) (hr : RowOk ds ts) (hc : CvOk w h ts) (cc : C4) (l : List Sp) (hl : chkS l) (hn : l.length ≤ 1000000) (hg : tsRng ts) (hcr : cc.rng) : DFun Tryz.prog 49 [.agg [cvD w h ds], .slf 3 l.length (l.flatMap s3), .fn (.func 87) [] [.loc 0 0]] [.flat 27 (c4 cc)] (cvD w h (dpR (drwC true w h ts cc l))) [.flat 27 (c4 cc)] := by
  obtain ⟨hck, hon, hmem⟩ := drawn_ok_p w h ds ts hr hc cc l hl
  have hcl := clipS_len (⟨0, 0, w * 8 - 1, 255⟩ : Bx) l
  have hPl : (ptsS (lowS (h * 8) (clipS (⟨0, 0, w * 8 - 1, 255⟩ : Bx) l))).length ≤ 600000000 := low_len hck (by omega)
  have hb := mayS_b hc.may
  refine zal (N := 42) 1 (by kernel_rfl) Tryz.func49 rfl rfl rfl (by simp only [fr0, Nat.zero_add, Nat.reduceAdd]; exact rfl) rfl fun s0 hs0 => ?_
  refine dwp_len (t := 1) rfl fun hl1 hL1 => ?_
  refine zaf ?_
  refine zah 1 (by simp only [holes, List.cons_append, List.nil_append]; exact rfl) ?_
  refine zad ?_
  refine zaj rfl rfl rfl (op_boxam 1 rfl (ev1 rfl) rfl) (by simp only [upd, zaa, za]; exact rfl) ?_
  refine zab rfl rfl rfl (zac (.inr rfl) (ev1 rfl)) ?_
  refine zae ?_
  refine zaf ?_
  refine zah 4 (by simp only [holes, List.cons_append, List.nil_append]; exact rfl) ?_
  refine zad ?_
  refine zab rfl rfl rfl (op_ldmw rfl tb85 (ev1 rfl) rfl rfl) ?_
  refine zab rfl rfl rfl (zac (.inl rfl) (ev1 rfl)) ?_
  refine zaj rfl rfl rfl (zai [] [] [2, 3, 4] rfl (ev1 rfl) (ec (ev1 rfl) (ec (ev1 rfl) en)) rfl rfl (pixels_d w h ds ts hr hc l hl (by omega)) rfl rfl rfl rfl rfl rfl) (by simp only [upd, zaa, za]; exact rfl) ?_
  refine zab rfl rfl rfl (zac (.inl rfl) (ev1 rfl)) ?_
  refine zaj rfl rfl rfl (zai [2, 3, 4, 0] [] [5] rfl (ev1 rfl) (ec (ev1 rfl) (ec (ev1 rfl) en)) rfl rfl (each_w w h ds ts hr hc cc (clipS (⟨0, 0, w * 8 - 1, 255⟩ : Bx) l) hck (by omega) hon hg hcr) rfl rfl rfl rfl rfl rfl) (by simp only [upd, zaa, za]; exact rfl) ?_
  refine zab rfl rfl rfl (zac (.inr rfl) (ev1 rfl)) ?_
  refine zae ?_
  refine zaf ?_
  have hml := mpK_len true w ts cc (ptsS (lowS (h * 8) (clipS (⟨0, 0, w * 8 - 1, 255⟩ : Bx) l)))
  refine zah 1 (by simp only [holes, List.cons_append, List.nil_append]; exact rfl) ?_
  refine zad ?_
  refine zab rfl rfl rfl (zac (.inl rfl) (ev1 rfl)) ?_
  refine zab rfl rfl rfl (op_lenq rfl mp124 (ev1 rfl) rfl) ?_
  refine zaj rfl rfl rfl (op_mk0 6 ((ptsS (lowS (h * 8) (clipS (⟨0, 0, w * 8 - 1, 255⟩ : Bx) l))).length) rfl sl129 zr96 (ev1 rfl) (ev1 rfl) (fun _ => rfl) (fun _ => by rw [hml]) rfl (fun _ => ⟨by omega, by omega⟩)) (by simp only [upd, zaa, za]; exact rfl) ?_
  refine zab rfl rfl rfl (zac (.inr rfl) (ev1 rfl)) ?_
  refine zae ?_
  refine zaf ?_
  refine zaf ?_
  refine zah 1 (by simp only [holes, List.cons_append, List.nil_append]; exact rfl) ?_
  refine zad ?_
  refine zab rfl rfl rfl (zac (.inl rfl) (ev1 rfl)) ?_
  refine zaj rfl rfl rfl (op_rgq 7 rfl mp124 (ev1 rfl) rfl rfl) (by simp only [upd, zaa, za]; exact rfl) ?_
  refine zae ?_
  refine dwp_block ?_
  refine dwp_loopS ⟨hs0, rfl⟩ (α := List Nat) (fun sn => []) [(3, _), (8, _), (21, _)] (fun sn => [(6, .arr 96 6 (dlN true w ts cc (ptsS (lowS (h * 8) (clipS (⟨0, 0, w * 8 - 1, 255⟩ : Bx) l))) sn).length ((dlN true w ts cc (ptsS (lowS (h * 8) (clipS (⟨0, 0, w * 8 - 1, 255⟩ : Bx) l))) sn).flatMap dtC)), (7, .mit (.hnd 5) (mpK true w ts cc (ptsS (lowS (h * 8) (clipS (⟨0, 0, w * 8 - 1, 255⟩ : Bx) l)))).length sn)]) [_, _, _, _, _, _, .hole, .hole] (fun sn => sn.Nodup ∧ ∀ p ∈ sn, p < (ptsS (lowS (h * 8) (clipS (⟨0, 0, w * 8 - 1, 255⟩ : Bx) l))).length) (fun sn => (ptsS (lowS (h * 8) (clipS (⟨0, 0, w * 8 - 1, 255⟩ : Bx) l))).length - sn.length) [] [0, 1, 2, 3, 4, 5, 6, 7] (⟨List.nodup_nil, fun p hp => by simp at hp⟩) rfl ⟨rfl, rfl, rfl, trivial⟩ trivial ⟨rfl, rfl, rfl, rfl, rfl, rfl, rfl, rfl, trivial⟩ ?_
  intro sn hx
  simp only [upd, zaa, za, List.cons_append, List.nil_append]
  obtain ⟨hnd, hlt⟩ := hx
  have hsl := all_in hnd hlt
  have hdl := dlN_len true w ts cc (ptsS (lowS (h * 8) (clipS (⟨0, 0, w * 8 - 1, 255⟩ : Bx) l))) sn
  refine zaf ?_
  refine zad ?_
  refine walk_e rfl rfl rfl (op_nxq rfl (ev1 rfl) rfl rfl) ?_
  rintro d wr (⟨rfl, rfl, hall⟩ | ⟨p, kp, ep, hep, hnp, rfl, rfl⟩)
  · simp only [upd]
    refine zab rfl rfl rfl (op_ext rfl (ev1 rfl) rfl) ?_
    refine zae ?_
    refine zaf ?_
    refine dwp_if_f rfl (rfl) ?_
    refine dwp_exit ?_
    refine zaf ?_
    refine dwp_giveA 8 rfl rfl (by simp only [zaa, za]; exact rfl) ?_
    have hfin := dlN_puts (k := true) hc cc hmem hlt (fun p hp => hall p (by rw [hml]; exact hp))
    refine zad ?_
    refine zab rfl rfl rfl (op_fa rfl fo85_0 (ev1 rfl)) ?_
    refine zab rfl rfl rfl (op_ldm rfl tb33 (ev1 rfl) rfl rfl) ?_
    refine zab rfl rfl rfl (op_mkf rfl (ec (ev1 rfl) en) en) ?_
    refine zab rfl rfl rfl (zac (.inr rfl) (ev1 rfl)) ?_
    refine zae ?_
    refine zaf ?_
    refine zad ?_
    refine zab rfl rfl rfl (zac (.inl rfl) (ev1 rfl)) ?_
    refine zab rfl rfl rfl (zac (.inl rfl) (ev1 rfl)) ?_
    refine zab rfl rfl rfl (zai [] [] [] rfl (ev1 rfl) (ec (ev1 rfl) en) rfl rfl (with_d w h ds ts hr hc _) rfl rfl rfl rfl rfl rfl) ?_
    refine zab rfl rfl rfl (zac (.inr rfl) (ev1 rfl)) ?_
    refine zae ?_
    refine dwp_ret ?_
    refine kend [0] (rs1 rfl (rv_t rfl)) rfl rfl ?_ ⟨rfl, trivial⟩
    rw [hfin]
  · simp only [upd, zaa, za]
    obtain ⟨hkp, rfl⟩ := mpK_get hep
    have hp1 := (List.getElem?_eq_some_iff.1 hkp).1
    have hI : (sn ++ [p]).Nodup ∧ ∀ r ∈ sn ++ [p], r < (ptsS (lowS (h * 8) (clipS (⟨0, 0, w * 8 - 1, 255⟩ : Bx) l))).length := ⟨by rw [List.nodup_append]; exact ⟨hnd, by simp, fun a ha b hb => by simp at hb; subst hb; exact fun e => hnp (e ▸ ha)⟩, fun r hr => (List.mem_append.1 hr).elim (hlt r) fun h => by simp at h; subst h; exact hp1⟩
    have hle2 := all_in hI.1 hI.2
    refine zab rfl rfl rfl (op_ext rfl (ev1 rfl) rfl) ?_
    refine zae ?_
    refine zaf ?_
    refine dwp_if_t rfl (rfl) ?_
    refine dwp_skip ?_
    refine dwp_block ?_
    refine zaf ?_
    refine zah 2 (by simp only [holes, List.cons_append, List.nil_append]; exact rfl) ?_
    refine zad ?_
    refine zab rfl rfl rfl (op_etq rfl (ev1 rfl) rfl rfl (hep)) ?_
    refine zab rfl rfl rfl (op_ext rfl (ev1 rfl) rfl) ?_
    refine zab rfl rfl rfl (op_ext rfl (ev1 rfl) rfl) ?_
    refine zaj rfl rfl rfl (op_alloc 8 rfl zr51 rfl) (by simp only [upd, zaa, za]; exact rfl) ?_
    refine zaj rfl rfl rfl (op_alloc 9 rfl zr27 rfl) (by simp only [upd, zaa, za]; exact rfl) ?_
    refine walk_s rfl rfl (op_stwa rfl tb51 (ev1 rfl) (ev1 rfl) rfl rfl rfl rfl) (by simp only [upd, zaa, za]; exact rfl) ?_
    refine walk_s rfl rfl (op_stwa rfl tb27 (ev1 rfl) (ev1 rfl) rfl rfl rfl rfl) (by simp only [upd, zaa, za]; exact rfl) ?_
    refine zae ?_
    refine zah 1 (by simp only [holes, List.cons_append, List.nil_append]; exact rfl) ?_
    refine zad ?_
    refine zab rfl rfl rfl (zac (.inl rfl) (ev1 rfl)) ?_
    refine zab rfl rfl rfl (op_fa rfl fo51_0 (ev1 rfl)) ?_
    refine zab rfl rfl rfl (op_ldo rfl tb3 (ev1 rfl) rfl rfl) ?_
    refine zab rfl rfl rfl (op_fa rfl fo51_1 (ev1 rfl)) ?_
    refine zab rfl rfl rfl (op_ldo rfl tb3 (ev1 rfl) rfl rfl) ?_
    refine zab rfl rfl rfl (op_ldw rfl tb27 (ev1 rfl) rfl rfl) ?_
    refine zab rfl rfl rfl (op_build (ps := [(0, .tmp 29), (1, .tmp 31), (2, .tmp 32)]) rfl fl96 zr96 (vc (ev1 rfl) (vc (ev1 rfl) (vc (ev1 rfl) vn))) rfl rfl) ?_
    refine zab rfl rfl rfl (op_bs (ps := [(0, .tmp 33)]) rfl sl129 zr96 rfl (vc (ev1 rfl) vn) rfl (by decide) (by decide)) ?_
    refine zaj rfl rfl rfl (op_app (j := 10) rfl sl129 zr96 rfl (ev1 rfl) (ev1 rfl) src_slf rfl rfl (fun _ => rfl) (fun _ => ⟨by omega, by omega⟩)) (by simp only [upd, zaa, za]; exact rfl) ?_
    refine zab rfl rfl rfl (zac (.inr rfl) (ev1 rfl)) ?_
    refine zae ?_
    refine ⟨sn ++ [p], [0, 1, 2, 3, 4, 5, 10, 7], hI, by simp only [List.length_append, List.length_cons, List.length_nil] at hle2 ⊢; omega, rfl, ⟨rfl, rfl, rfl, trivial⟩, ⟨rfl, rfl, rfl, rfl, rfl, rfl, by rw [dlN_add hkp, List.length_append, List.flatMap_append]; rfl, rfl, trivial⟩⟩
set_option maxRecDepth 4000 in
set_option maxHeartbeats 1000000 in
theorem drawn_np (w h : Int) (ds : List D) (ts : List TL) (hr : RowOk ds ts) (hc : CvOk w h ts) (cc : C4) (l : List Sp) (hl : ¬ chkS l) (hn : l.length ≤ 1000000) : DPan Tryz.prog 49 [.agg [cvD w h ds], .slf 3 l.length (l.flatMap s3), .fn (.func 86) [] [.loc 0 0]] [.flat 27 (c4 cc)] (.ifc 122 (.val (.agg #[.int .i64 160]))) [.flat 27 (c4 cc)] := by
  refine zal (N := 42) 1 (by kernel_rfl) Tryz.func49 rfl rfl rfl (by simp only [fr0, Nat.zero_add, Nat.reduceAdd]; exact rfl) rfl fun s0 hs0 => ?_
  refine dwp_len (t := 1) rfl fun hl1 hL1 => ?_
  refine zaf ?_
  refine zah 1 (by simp only [holes, List.cons_append, List.nil_append]; exact rfl) ?_
  refine zad ?_
  refine zaj rfl rfl rfl (op_boxam 1 rfl (ev1 rfl) rfl) (by simp only [upd, zaa, za]; exact rfl) ?_
  refine zab rfl rfl rfl (zac (.inr rfl) (ev1 rfl)) ?_
  refine zae ?_
  refine zaf ?_
  refine zad ?_
  refine zab rfl rfl rfl (op_ldmw rfl tb85 (ev1 rfl) rfl rfl) ?_
  refine zab rfl rfl rfl (zac (.inl rfl) (ev1 rfl)) ?_
  refine walk_p rfl (dop_callP [] [] [] rfl (ev1 rfl) (ec (ev1 rfl) (ec (ev1 rfl) en)) rfl rfl (pixels_p w h ds ts hr hc l hl (by omega)) rfl rfl rfl rfl rfl rfl) rfl ?_
  refine kpan [0] rfl rfl ?_ ⟨rfl, trivial⟩
  rfl
set_option maxRecDepth 4000 in
set_option maxHeartbeats 1000000 in
theorem drawn_nw (w h : Int) (ds : List D) (ts : List TL) (hr : RowOk ds ts) (hc : CvOk w h ts) (cc : C4) (l : List Sp) (hl : ¬ chkS l) (hn : l.length ≤ 1000000) : DPan Tryz.prog 49 [.agg [cvD w h ds], .slf 3 l.length (l.flatMap s3), .fn (.func 87) [] [.loc 0 0]] [.flat 27 (c4 cc)] (.ifc 122 (.val (.agg #[.int .i64 160]))) [.flat 27 (c4 cc)] := by
  refine zal (N := 42) 1 (by kernel_rfl) Tryz.func49 rfl rfl rfl (by simp only [fr0, Nat.zero_add, Nat.reduceAdd]; exact rfl) rfl fun s0 hs0 => ?_
  refine dwp_len (t := 1) rfl fun hl1 hL1 => ?_
  refine zaf ?_
  refine zah 1 (by simp only [holes, List.cons_append, List.nil_append]; exact rfl) ?_
  refine zad ?_
  refine zaj rfl rfl rfl (op_boxam 1 rfl (ev1 rfl) rfl) (by simp only [upd, zaa, za]; exact rfl) ?_
  refine zab rfl rfl rfl (zac (.inr rfl) (ev1 rfl)) ?_
  refine zae ?_
  refine zaf ?_
  refine zad ?_
  refine zab rfl rfl rfl (op_ldmw rfl tb85 (ev1 rfl) rfl rfl) ?_
  refine zab rfl rfl rfl (zac (.inl rfl) (ev1 rfl)) ?_
  refine walk_p rfl (dop_callP [] [] [] rfl (ev1 rfl) (ec (ev1 rfl) (ec (ev1 rfl) en)) rfl rfl (pixels_p w h ds ts hr hc l hl (by omega)) rfl rfl rfl rfl rfl rfl) rfl ?_
  refine kpan [0] rfl rfl ?_ ⟨rfl, trivial⟩
  rfl
end Go.Proofs.YtjgnalfnginjbaaGreatDoor
namespace Go.Proofs.YtjgnalfnginjbaaGreatDoor
set_option maxRecDepth 4000
set_option linter.unusedVariables false
set_option linter.unusedSimpArgs false
open Go.RowKit
theorem zr34 : zrC Tryz.prog 34 = some [.int .i64 0] := by kernel_rfl
set_option maxRecDepth 4000 in
set_option maxHeartbeats 1000000 in
theorem paint_d (w h : Int) (ds : List D) (ts : List TL) (hr : RowOk ds ts) (hc : CvOk w h ts) (l : List Sp) (hl : chkS l) (hn : l.length ≤ 1000000) (c : C4) : DFun Tryz.prog 13 [cvD w h ds, .slf 3 l.length (l.flatMap s3), .val (.agg (c4 c).toArray)] [] (.tup [cvD w h (dpR (drwC false w h ts c l)), .val (.int .i64 0)]) [] := by
  refine dcalls_body (N := 17) 0 (by kernel_rfl) Tryz.func13 rfl rfl rfl (by simp only [fr0, Nat.zero_add, Nat.reduceAdd]; exact rfl) rfl fun s0 hs0 => ?_
  refine dbody_seq rfl hs0 ?_
  refine zah 2 (by simp only [holes, List.cons_append, List.nil_append]; exact rfl) ?_
  refine zad ?_
  refine zaj rfl rfl rfl (op_boxa 0 rfl (ev1 rfl) rfl) (by simp only [upd, zaa, za]; exact rfl) ?_
  refine zab rfl rfl rfl (zac (.inr rfl) (ev1 rfl)) ?_
  refine zaj rfl rfl rfl (op_alloc 1 rfl zr34 rfl) (by simp only [upd, zaa, za]; exact rfl) ?_
  refine zae ?_
  refine dbody_defer (l0 := [_]) rfl rfl rfl rfl rfl hs0 ?_
  refine zab rfl rfl rfl (op_mkf rfl en (ec (ev1 rfl) en)) ?_
  refine zae ⟨_, _, _, 2, ev1 rfl, Nat.le_trans hs0 (by decide), rfl, ?_⟩
  have hs1 : s0.M.length ≤ 2 := Nat.le_trans hs0 (by decide)
  refine dbody_end rfl hs0 ?_
  refine zaf ?_
  refine zah 1 (by simp only [holes, List.cons_append, List.nil_append]; exact rfl) ?_
  refine zad ?_
  refine zab rfl rfl rfl (zac (.inl rfl) (ev1 rfl)) ?_
  refine zab rfl rfl rfl (zai [] [] [] rfl (ev1 rfl) (ec (ev1 rfl) en) rfl rfl (easel_d w h ds) rfl rfl rfl rfl rfl rfl) ?_
  refine zaj rfl rfl rfl (op_alloc 2 rfl zr85 rfl) (by simp only [upd, zaa, za]; exact rfl) ?_
  refine walk_s rfl rfl (op_stam2 rfl tb85 (ev1 rfl) (ev1 rfl) rfl rfl rfl rfl) (by simp only [upd, zaa, za]; exact rfl) ?_
  refine zae ?_
  refine zaf ?_
  refine zah 1 (by simp only [holes, List.cons_append, List.nil_append]; exact rfl) ?_
  refine dwp_draw [([2], []), ([], []), ([0], []), ([3], [3]), ([3], [3]), ([], []), ([1], [1])] mixed (by kernel_rfl) ?_
  refine zag rfl rfl (op_ldmw rfl tb85 (ev1 rfl) rfl rfl) ?_
  refine zag rfl rfl (zac (.inl rfl) (ev1 rfl)) ?_
  refine zag rfl rfl (op_ldw rfl tb27 (ev1 rfl) rfl rfl) ?_
  refine lex_w rfl rfl (zai [] [] [3] rfl (ev1 rfl) (ec (ev1 rfl) en) rfl rfl (paints_d c) rfl rfl rfl rfl rfl rfl) rfl (by simp only [upd, zaa, za]; exact rfl) ?_
  refine lex_w rfl rfl (zai [3] [] [] rfl (ev1 rfl) (ec (ev1 rfl) (ec (ev1 rfl) (ec (ev1 rfl) en))) rfl rfl (drawn_p w h ds ts hr hc c l hl hn) rfl rfl rfl rfl rfl rfl) rfl (by simp only [upd, zaa, za]; exact rfl) ?_
  refine zag rfl rfl (zac (.inr rfl) (ev1 rfl)) ?_
  refine lex_s rfl rfl (op_stwi rfl tb34 (ev1 rfl) (ev1 rfl) rfl) rfl (by simp only [upd, zaa, za]; exact rfl) ?_
  refine lex_nil ?_
  refine dwp_ret ?_
  refine kdef (dturn_idle [1] [] rfl rfl (dpaint1_idle _) rfl rfl rfl rfl rfl) ?_
  refine kend0 (rs2 rfl (rv_t rfl) (rv_1 tb34 rfl rfl rfl)) rfl ?_
  rfl
set_option maxRecDepth 4000 in
set_option maxHeartbeats 1000000 in
theorem paint_n (w h : Int) (ds : List D) (ts : List TL) (hr : RowOk ds ts) (hc : CvOk w h ts) (l : List Sp) (hl : ¬ chkS l) (hn : l.length ≤ 1000000) (c : C4) : DFun Tryz.prog 13 [cvD w h ds, .slf 3 l.length (l.flatMap s3), .val (.agg (c4 c).toArray)] [] (.tup [.val (.pointer none), .val (.int .i64 160)]) [] := by
  refine dcalls_body (N := 17) 0 (by kernel_rfl) Tryz.func13 rfl rfl rfl (by simp only [fr0, Nat.zero_add, Nat.reduceAdd]; exact rfl) rfl fun s0 hs0 => ?_
  refine dbody_seq rfl hs0 ?_
  refine zah 2 (by simp only [holes, List.cons_append, List.nil_append]; exact rfl) ?_
  refine zad ?_
  refine zaj rfl rfl rfl (op_boxa 0 rfl (ev1 rfl) rfl) (by simp only [upd, zaa, za]; exact rfl) ?_
  refine zab rfl rfl rfl (zac (.inr rfl) (ev1 rfl)) ?_
  refine zaj rfl rfl rfl (op_alloc 1 rfl zr34 rfl) (by simp only [upd, zaa, za]; exact rfl) ?_
  refine zae ?_
  refine dbody_defer (l0 := [_]) rfl rfl rfl rfl rfl hs0 ?_
  refine zab rfl rfl rfl (op_mkf rfl en (ec (ev1 rfl) en)) ?_
  refine zae ⟨_, _, _, 2, ev1 rfl, Nat.le_trans hs0 (by decide), rfl, ?_⟩
  have hs1 : s0.M.length ≤ 2 := Nat.le_trans hs0 (by decide)
  refine dbody_end rfl hs0 ?_
  refine zaf ?_
  refine zah 1 (by simp only [holes, List.cons_append, List.nil_append]; exact rfl) ?_
  refine zad ?_
  refine zab rfl rfl rfl (zac (.inl rfl) (ev1 rfl)) ?_
  refine zab rfl rfl rfl (zai [] [] [] rfl (ev1 rfl) (ec (ev1 rfl) en) rfl rfl (easel_d w h ds) rfl rfl rfl rfl rfl rfl) ?_
  refine zaj rfl rfl rfl (op_alloc 2 rfl zr85 rfl) (by simp only [upd, zaa, za]; exact rfl) ?_
  refine walk_s rfl rfl (op_stam2 rfl tb85 (ev1 rfl) (ev1 rfl) rfl rfl rfl rfl) (by simp only [upd, zaa, za]; exact rfl) ?_
  refine zae ?_
  refine zaf ?_
  refine zah 1 (by simp only [holes, List.cons_append, List.nil_append]; exact rfl) ?_
  refine dwp_drawP 4 [([2], []), ([], []), ([0], []), ([3], [3])] mixed (by kernel_rfl) rfl rfl ?_
  refine zag rfl rfl (op_ldmw rfl tb85 (ev1 rfl) rfl rfl) ?_
  refine zag rfl rfl (zac (.inl rfl) (ev1 rfl)) ?_
  refine zag rfl rfl (op_ldw rfl tb27 (ev1 rfl) rfl rfl) ?_
  refine lex_w rfl rfl (zai [] [] [3] rfl (ev1 rfl) (ec (ev1 rfl) en) rfl rfl (paints_d c) rfl rfl rfl rfl rfl rfl) rfl (by simp only [upd, zaa, za]; exact rfl) ?_
  refine lex_nil ⟨_, _, _, rfl, dop_callP [3] [] [] rfl (ev1 rfl) (ec (ev1 rfl) (ec (ev1 rfl) (ec (ev1 rfl) en))) rfl rfl (drawn_np w h ds ts hr hc c l hl hn) rfl rfl rfl rfl rfl rfl, ?_⟩
  refine kdef (dturn_caught [1] [] rfl rfl rfl (dpaint1_caught _ _) rfl rfl rfl rfl rfl) ?_
  refine kend0 (rs2 rfl (rv_t rfl) (rv_1 tb34 rfl rfl rfl)) rfl ?_
  rfl
set_option maxRecDepth 4000 in
set_option maxHeartbeats 1000000 in
theorem paint_0 (l : List Sp) (c : C4) : DFun Tryz.prog 13 [.val (.pointer none), .slf 3 l.length (l.flatMap s3), .val (.agg (c4 c).toArray)] [] (.tup [.val (.pointer none), .val (.int .i64 1)]) [] := by
  refine dcalls_body (N := 17) 0 (by kernel_rfl) Tryz.func13 rfl rfl rfl (by simp only [fr0, Nat.zero_add, Nat.reduceAdd]; exact rfl) rfl fun s0 hs0 => ?_
  refine dbody_seq rfl hs0 ?_
  refine zah 2 (by simp only [holes, List.cons_append, List.nil_append]; exact rfl) ?_
  refine zad ?_
  refine zaj rfl rfl rfl (op_boxa 0 rfl (ev1 rfl) rfl) (by simp only [upd, zaa, za]; exact rfl) ?_
  refine zab rfl rfl rfl (zac (.inr rfl) (ev1 rfl)) ?_
  refine zaj rfl rfl rfl (op_alloc 1 rfl zr34 rfl) (by simp only [upd, zaa, za]; exact rfl) ?_
  refine zae ?_
  refine dbody_defer (l0 := [_]) rfl rfl rfl rfl rfl hs0 ?_
  refine zab rfl rfl rfl (op_mkf rfl en (ec (ev1 rfl) en)) ?_
  refine zae ⟨_, _, _, 2, ev1 rfl, Nat.le_trans hs0 (by decide), rfl, ?_⟩
  have hs1 : s0.M.length ≤ 2 := Nat.le_trans hs0 (by decide)
  refine dbody_end rfl hs0 ?_
  refine zaf ?_
  refine zah 1 (by simp only [holes, List.cons_append, List.nil_append]; exact rfl) ?_
  refine zad ?_
  refine zab rfl rfl rfl (zac (.inl rfl) (ev1 rfl)) ?_
  refine walk_p rfl (dop_callP [] [] [] rfl (ev1 rfl) (ec (ev1 rfl) en) rfl rfl (easel_p) rfl rfl rfl rfl rfl rfl) rfl ?_
  refine kdef (dturn_caught [1] [] rfl rfl rfl (dpaint1_caught _ _) rfl rfl rfl rfl rfl) ?_
  refine kend0 (rs2 rfl (rv_t rfl) (rv_1 tb34 rfl rfl rfl)) rfl ?_
  rfl
set_option maxRecDepth 4000 in
set_option maxHeartbeats 1000000 in
theorem wash_d (w h : Int) (ds : List D) (ts : List TL) (hr : RowOk ds ts) (hc : CvOk w h ts) (l : List Sp) (hl : chkS l) (hn : l.length ≤ 1000000) (c : C4) (hg : tsRng ts) (hcr : c.rng) : DFun Tryz.prog 14 [cvD w h ds, .slf 3 l.length (l.flatMap s3), .val (.agg (c4 c).toArray)] [] (.tup [cvD w h (dpR (drwC true w h ts c l)), .val (.int .i64 0)]) [] := by
  refine dcalls_body (N := 17) 0 (by kernel_rfl) Tryz.func14 rfl rfl rfl (by simp only [fr0, Nat.zero_add, Nat.reduceAdd]; exact rfl) rfl fun s0 hs0 => ?_
  refine dbody_seq rfl hs0 ?_
  refine zah 2 (by simp only [holes, List.cons_append, List.nil_append]; exact rfl) ?_
  refine zad ?_
  refine zaj rfl rfl rfl (op_boxa 0 rfl (ev1 rfl) rfl) (by simp only [upd, zaa, za]; exact rfl) ?_
  refine zab rfl rfl rfl (zac (.inr rfl) (ev1 rfl)) ?_
  refine zaj rfl rfl rfl (op_alloc 1 rfl zr34 rfl) (by simp only [upd, zaa, za]; exact rfl) ?_
  refine zae ?_
  refine dbody_defer (l0 := [_]) rfl rfl rfl rfl rfl hs0 ?_
  refine zab rfl rfl rfl (op_mkf rfl en (ec (ev1 rfl) en)) ?_
  refine zae ⟨_, _, _, 2, ev1 rfl, Nat.le_trans hs0 (by decide), rfl, ?_⟩
  have hs1 : s0.M.length ≤ 2 := Nat.le_trans hs0 (by decide)
  refine dbody_end rfl hs0 ?_
  refine zaf ?_
  refine zah 1 (by simp only [holes, List.cons_append, List.nil_append]; exact rfl) ?_
  refine zad ?_
  refine zab rfl rfl rfl (zac (.inl rfl) (ev1 rfl)) ?_
  refine zab rfl rfl rfl (zai [] [] [] rfl (ev1 rfl) (ec (ev1 rfl) en) rfl rfl (easel_d w h ds) rfl rfl rfl rfl rfl rfl) ?_
  refine zaj rfl rfl rfl (op_alloc 2 rfl zr85 rfl) (by simp only [upd, zaa, za]; exact rfl) ?_
  refine walk_s rfl rfl (op_stam2 rfl tb85 (ev1 rfl) (ev1 rfl) rfl rfl rfl rfl) (by simp only [upd, zaa, za]; exact rfl) ?_
  refine zae ?_
  refine zaf ?_
  refine zah 1 (by simp only [holes, List.cons_append, List.nil_append]; exact rfl) ?_
  refine dwp_draw [([2], []), ([], []), ([0], []), ([3], [3]), ([3], [3]), ([], []), ([1], [1])] mixed (by kernel_rfl) ?_
  refine zag rfl rfl (op_ldmw rfl tb85 (ev1 rfl) rfl rfl) ?_
  refine zag rfl rfl (zac (.inl rfl) (ev1 rfl)) ?_
  refine zag rfl rfl (op_ldw rfl tb27 (ev1 rfl) rfl rfl) ?_
  refine lex_w rfl rfl (zai [] [] [3] rfl (ev1 rfl) (ec (ev1 rfl) en) rfl rfl (washes_d c) rfl rfl rfl rfl rfl rfl) rfl (by simp only [upd, zaa, za]; exact rfl) ?_
  refine lex_w rfl rfl (zai [3] [] [] rfl (ev1 rfl) (ec (ev1 rfl) (ec (ev1 rfl) (ec (ev1 rfl) en))) rfl rfl (drawn_w w h ds ts hr hc c l hl hn hg hcr) rfl rfl rfl rfl rfl rfl) rfl (by simp only [upd, zaa, za]; exact rfl) ?_
  refine zag rfl rfl (zac (.inr rfl) (ev1 rfl)) ?_
  refine lex_s rfl rfl (op_stwi rfl tb34 (ev1 rfl) (ev1 rfl) rfl) rfl (by simp only [upd, zaa, za]; exact rfl) ?_
  refine lex_nil ?_
  refine dwp_ret ?_
  refine kdef (dturn_idle [1] [] rfl rfl (dwash1_idle _) rfl rfl rfl rfl rfl) ?_
  refine kend0 (rs2 rfl (rv_t rfl) (rv_1 tb34 rfl rfl rfl)) rfl ?_
  rfl
set_option maxRecDepth 4000 in
set_option maxHeartbeats 1000000 in
theorem wash_n (w h : Int) (ds : List D) (ts : List TL) (hr : RowOk ds ts) (hc : CvOk w h ts) (l : List Sp) (hl : ¬ chkS l) (hn : l.length ≤ 1000000) (c : C4) : DFun Tryz.prog 14 [cvD w h ds, .slf 3 l.length (l.flatMap s3), .val (.agg (c4 c).toArray)] [] (.tup [.val (.pointer none), .val (.int .i64 160)]) [] := by
  refine dcalls_body (N := 17) 0 (by kernel_rfl) Tryz.func14 rfl rfl rfl (by simp only [fr0, Nat.zero_add, Nat.reduceAdd]; exact rfl) rfl fun s0 hs0 => ?_
  refine dbody_seq rfl hs0 ?_
  refine zah 2 (by simp only [holes, List.cons_append, List.nil_append]; exact rfl) ?_
  refine zad ?_
  refine zaj rfl rfl rfl (op_boxa 0 rfl (ev1 rfl) rfl) (by simp only [upd, zaa, za]; exact rfl) ?_
  refine zab rfl rfl rfl (zac (.inr rfl) (ev1 rfl)) ?_
  refine zaj rfl rfl rfl (op_alloc 1 rfl zr34 rfl) (by simp only [upd, zaa, za]; exact rfl) ?_
  refine zae ?_
  refine dbody_defer (l0 := [_]) rfl rfl rfl rfl rfl hs0 ?_
  refine zab rfl rfl rfl (op_mkf rfl en (ec (ev1 rfl) en)) ?_
  refine zae ⟨_, _, _, 2, ev1 rfl, Nat.le_trans hs0 (by decide), rfl, ?_⟩
  have hs1 : s0.M.length ≤ 2 := Nat.le_trans hs0 (by decide)
  refine dbody_end rfl hs0 ?_
  refine zaf ?_
  refine zah 1 (by simp only [holes, List.cons_append, List.nil_append]; exact rfl) ?_
  refine zad ?_
  refine zab rfl rfl rfl (zac (.inl rfl) (ev1 rfl)) ?_
  refine zab rfl rfl rfl (zai [] [] [] rfl (ev1 rfl) (ec (ev1 rfl) en) rfl rfl (easel_d w h ds) rfl rfl rfl rfl rfl rfl) ?_
  refine zaj rfl rfl rfl (op_alloc 2 rfl zr85 rfl) (by simp only [upd, zaa, za]; exact rfl) ?_
  refine walk_s rfl rfl (op_stam2 rfl tb85 (ev1 rfl) (ev1 rfl) rfl rfl rfl rfl) (by simp only [upd, zaa, za]; exact rfl) ?_
  refine zae ?_
  refine zaf ?_
  refine zah 1 (by simp only [holes, List.cons_append, List.nil_append]; exact rfl) ?_
  refine dwp_drawP 4 [([2], []), ([], []), ([0], []), ([3], [3])] mixed (by kernel_rfl) rfl rfl ?_
  refine zag rfl rfl (op_ldmw rfl tb85 (ev1 rfl) rfl rfl) ?_
  refine zag rfl rfl (zac (.inl rfl) (ev1 rfl)) ?_
  refine zag rfl rfl (op_ldw rfl tb27 (ev1 rfl) rfl rfl) ?_
  refine lex_w rfl rfl (zai [] [] [3] rfl (ev1 rfl) (ec (ev1 rfl) en) rfl rfl (washes_d c) rfl rfl rfl rfl rfl rfl) rfl (by simp only [upd, zaa, za]; exact rfl) ?_
  refine lex_nil ⟨_, _, _, rfl, dop_callP [3] [] [] rfl (ev1 rfl) (ec (ev1 rfl) (ec (ev1 rfl) (ec (ev1 rfl) en))) rfl rfl (drawn_nw w h ds ts hr hc c l hl hn) rfl rfl rfl rfl rfl rfl, ?_⟩
  refine kdef (dturn_caught [1] [] rfl rfl rfl (dwash1_caught _ _) rfl rfl rfl rfl rfl) ?_
  refine kend0 (rs2 rfl (rv_t rfl) (rv_1 tb34 rfl rfl rfl)) rfl ?_
  rfl
set_option maxRecDepth 4000 in
set_option maxHeartbeats 1000000 in
theorem wash_0 (l : List Sp) (c : C4) : DFun Tryz.prog 14 [.val (.pointer none), .slf 3 l.length (l.flatMap s3), .val (.agg (c4 c).toArray)] [] (.tup [.val (.pointer none), .val (.int .i64 1)]) [] := by
  refine dcalls_body (N := 17) 0 (by kernel_rfl) Tryz.func14 rfl rfl rfl (by simp only [fr0, Nat.zero_add, Nat.reduceAdd]; exact rfl) rfl fun s0 hs0 => ?_
  refine dbody_seq rfl hs0 ?_
  refine zah 2 (by simp only [holes, List.cons_append, List.nil_append]; exact rfl) ?_
  refine zad ?_
  refine zaj rfl rfl rfl (op_boxa 0 rfl (ev1 rfl) rfl) (by simp only [upd, zaa, za]; exact rfl) ?_
  refine zab rfl rfl rfl (zac (.inr rfl) (ev1 rfl)) ?_
  refine zaj rfl rfl rfl (op_alloc 1 rfl zr34 rfl) (by simp only [upd, zaa, za]; exact rfl) ?_
  refine zae ?_
  refine dbody_defer (l0 := [_]) rfl rfl rfl rfl rfl hs0 ?_
  refine zab rfl rfl rfl (op_mkf rfl en (ec (ev1 rfl) en)) ?_
  refine zae ⟨_, _, _, 2, ev1 rfl, Nat.le_trans hs0 (by decide), rfl, ?_⟩
  have hs1 : s0.M.length ≤ 2 := Nat.le_trans hs0 (by decide)
  refine dbody_end rfl hs0 ?_
  refine zaf ?_
  refine zah 1 (by simp only [holes, List.cons_append, List.nil_append]; exact rfl) ?_
  refine zad ?_
  refine zab rfl rfl rfl (zac (.inl rfl) (ev1 rfl)) ?_
  refine walk_p rfl (dop_callP [] [] [] rfl (ev1 rfl) (ec (ev1 rfl) en) rfl rfl (easel_p) rfl rfl rfl rfl rfl rfl) rfl ?_
  refine kdef (dturn_caught [1] [] rfl rfl rfl (dwash1_caught _ _) rfl rfl rfl rfl rfl) ?_
  refine kend0 (rs2 rfl (rv_t rfl) (rv_1 tb34 rfl rfl rfl)) rfl ?_
  rfl
end Go.Proofs.YtjgnalfnginjbaaGreatDoor
namespace Go.Proofs.YtjgnalfnginjbaaGreatDoor
set_option maxRecDepth 4000
set_option linter.unusedVariables false
set_option linter.unusedSimpArgs false
open Go.RowKit
theorem fo47_0 : fdO Tryz.prog 47 0 = some 0 := by kernel_rfl
theorem fo47_1 : fdO Tryz.prog 47 1 = some 4 := by kernel_rfl
theorem fo47_2 : fdO Tryz.prog 47 2 = some 5 := by kernel_rfl
theorem lineL_len (a b : P2) : (lineL a b).length = gr2 a b + 1 := by unfold lineL; simp
theorem rect_chk {a b : P2} (ha : drwB a = true) (hb : drwB b = true) : chkS (rectL a b) := by
  have hA := drwB_iff.1 ha
  have hB := drwB_iff.1 hb
  refine ⟨fun s hs => ⟨?_, (rect_ok a b).1 s hs⟩, (rect_ok a b).2⟩
  have hw := wayN_eq a.y b.y
  obtain ⟨j, hj, rfl⟩ := List.mem_map.1 hs
  rw [List.mem_range] at hj
  unfold rchS
  simp only
  omega
theorem lineL_le {a b : P2} (ha : drwB a = true) (hb : drwB b = true) : (lineL a b).length ≤ 192 := by
  have hl := lineL_len a b
  have hx := wayN_eq a.x b.x
  have hy := wayN_eq a.y b.y
  have hA := drwB_iff.1 ha
  have hB := drwB_iff.1 hb
  have hg : gr2 a b = max (wayN a.x b.x) (wayN a.y b.y) := by unfold gr2; omega
  omega
theorem rectL_len {a b : P2} (ha : drwB a = true) (hb : drwB b = true) : (rectL a b).length ≤ 192 := by
  have hy := wayN_eq a.y b.y
  have hA := drwB_iff.1 ha
  have hB := drwB_iff.1 hb
  unfold rectL
  rw [List.length_map, List.length_range]
  omega
theorem swL_chk {r : Bool} {n : Int} {l : List P2} (h : swB n l = true) : chkS (swL r n l) := by
  obtain ⟨e1, _, hn, hd⟩ := sw_ok (r := r) h
  rw [e1]
  exact swA_chk (by omega) hd
theorem swL_len {r : Bool} {n : Int} {l : List P2} (h : swB n l = true) : (swL r n l).length ≤ l.length * 961 := by
  obtain ⟨e1, _, hn, hd⟩ := sw_ok (r := r) h
  rw [e1]
  exact Nat.le_trans (norm_len _) (swK_len (by omega) l)
def ac2 (a b : P2) : P2 := ⟨b.x, a.y⟩
def dn2 (a b : P2) : P2 := ⟨a.x, b.y⟩
theorem ac_drw {a b : P2} (ha : drwB a = true) (hb : drwB b = true) : drwB (ac2 a b) = true ∧ drwB (dn2 a b) = true := by
  have hA := drwB_iff.1 ha
  have hB := drwB_iff.1 hb
  exact ⟨drwB_iff.2 ⟨hB.1, hA.2⟩, drwB_iff.2 ⟨hA.1, hB.2⟩⟩
def frmR (a b : P2) : List (List Sp) := [rectL a (ac2 a b), rectL a (dn2 a b), rectL (ac2 a b) b, rectL (dn2 a b) b]
theorem frm_ok {a b : P2} (ha : drwB a = true) (hb : drwB b = true) : allC (frmR a b) = true ∧ (frmR a b).flatten.length ≤ 768 := by
  obtain ⟨h1, h2⟩ := ac_drw ha hb
  have l1 := rectL_len ha h1
  have l2 := rectL_len ha h2
  have l3 := rectL_len h1 hb
  have l4 := rectL_len h2 hb
  refine ⟨?_, ?_⟩
  · unfold allC frmR
    simp [rect_chk ha h1, rect_chk ha h2, rect_chk h1 hb, rect_chk h2 hb]
  · unfold frmR
    simp only [List.flatten_cons, List.flatten_nil, List.length_append, List.length_nil]
    omega
theorem norm_chk {l : List Sp} (h : ∀ s ∈ l, rchS s ∧ s.f ≤ s.t) : chkS (normS l) := by
  have hn := norm_ok fun s hs => (h s hs).2
  refine ⟨fun s hs => ?_, hn.1.2⟩
  have hv := hn.1.1 s hs
  have hb := has_bd (A := -256) (B := 255) (C := -256) (D' := 255) hn.1.1 hn.2 (fun s hs => by
    have := (h s hs).1
    unfold rchS at this
    omega) s hs
  refine ⟨?_, hv⟩
  unfold rchS
  omega
theorem uni_chk {rr : List (List Sp)} (h : allC rr = true) : chkS (uniL rr) := by
  rw [(uni_ok h).1]
  exact norm_chk (allC_flat h)
theorem uni_len {rr : List (List Sp)} (h : allC rr = true) : (uniL rr).length ≤ rr.flatten.length := by rw [(uni_ok h).1]; exact norm_len _
set_option maxRecDepth 4000 in
set_option maxHeartbeats 1000000 in
theorem stroke_n (w h : Int) (ds : List D) (ts : List TL) (hr : RowOk ds ts) (hc : CvOk w h ts) (c : C4) (n : Int) (r : Bool) (l : List P2) (hs : swB n l = false) (hn : l.length ≤ 1000) : DFun Tryz.prog 27 [cvD w h ds, .val (.agg #[.int .u8 c.r, .int .u8 c.g, .int .u8 c.b, .int .u8 c.a, .int .i64 n, .bool r]), .slf 2 l.length (l.flatMap p2)] [] (.tup [.val (.pointer none), .val (.int .i64 2)]) [] := by
  have he := (sw_no (r := r) hs).2
  refine dcalls_body (N := 26) 0 (by kernel_rfl) Tryz.func27 rfl rfl rfl (by simp only [fr0, Nat.zero_add, Nat.reduceAdd]; exact rfl) rfl fun s0 hs0 => ?_
  refine dbody_seq rfl hs0 ?_
  refine zah 2 (by simp only [holes, List.cons_append, List.nil_append]; exact rfl) ?_
  refine zad ?_
  refine zaj rfl rfl rfl (op_boxa 0 rfl (ev1 rfl) rfl) (by simp only [upd, zaa, za]; exact rfl) ?_
  refine zab rfl rfl rfl (zac (.inr rfl) (ev1 rfl)) ?_
  refine zaj rfl rfl rfl (op_alloc 1 rfl zr34 rfl) (by simp only [upd, zaa, za]; exact rfl) ?_
  refine zae ?_
  refine dbody_defer (l0 := [_]) rfl rfl rfl rfl rfl hs0 ?_
  refine zab rfl rfl rfl (op_mkf rfl en (ec (ev1 rfl) en)) ?_
  refine zae ⟨_, _, _, 2, ev1 rfl, Nat.le_trans hs0 (by decide), rfl, ?_⟩
  have hs1 : s0.M.length ≤ 2 := Nat.le_trans hs0 (by decide)
  refine dbody_end rfl hs0 ?_
  refine zaf ?_
  refine zah 1 (by simp only [holes, List.cons_append, List.nil_append]; exact rfl) ?_
  refine zad ?_
  refine zab rfl rfl rfl (zac (.inl rfl) (ev1 rfl)) ?_
  refine zab rfl rfl rfl (zai [] [] [] rfl (ev1 rfl) (ec (ev1 rfl) en) rfl rfl (easel_d w h ds) rfl rfl rfl rfl rfl rfl) ?_
  refine zaj rfl rfl rfl (op_alloc 2 rfl zr85 rfl) (by simp only [upd, zaa, za]; exact rfl) ?_
  refine walk_s rfl rfl (op_stam2 rfl tb85 (ev1 rfl) (ev1 rfl) rfl rfl rfl rfl) (by simp only [upd, zaa, za]; exact rfl) ?_
  refine zae ?_
  refine zaf ?_
  refine dwp_drawR 9 12 [([2], []), ([], []), ([], []), ([0], []), ([], []), ([0], []), ([], []), ([], []), ([], []), ([], []), ([], []), ([0], [])] mixed (by kernel_rfl) rfl rfl rfl ?_
  refine zag rfl rfl (op_ldmw rfl tb85 (ev1 rfl) rfl rfl) ?_
  refine zag rfl rfl (zac (.inl rfl) (ev1 rfl)) ?_
  refine zag rfl rfl (op_fa rfl fo47_1 (ev1 rfl)) ?_
  refine zag rfl rfl (op_ldo rfl tb3 (ev1 rfl) rfl rfl) ?_
  refine zag rfl rfl (op_fa rfl fo47_2 (ev1 rfl)) ?_
  refine zag rfl rfl (op_ldo rfl tb4 (ev1 rfl) rfl rfl) ?_
  refine zag rfl rfl (zai [] [] [] rfl (ev1 rfl) (ec (ev1 rfl) (ec (ev1 rfl) (ec (ev1 rfl) en))) rfl rfl (sweep_d l n r hn) rfl rfl rfl rfl rfl rfl) ?_
  refine zag rfl rfl (op_ext rfl (ev1 rfl) rfl) ?_
  refine zag rfl rfl ((op_ext rfl (ev1 rfl) rfl).cast (d' := .val (.int .i64 2)) (by rw [he])) ?_
  refine lex_s rfl rfl nop_d rfl rfl ?_
  refine zag rfl rfl (op_fa rfl fo47_0 (ev1 rfl)) ?_
  refine zag rfl rfl (op_ldr rfl tb27 (ev1 rfl) rfl rfl rfl) ?_
  refine lex_nil ⟨_, _, _, rfl, dop_callP [] [] [] rfl (ev1 rfl) (ec (ev1 rfl) (ec (ev1 rfl) en)) rfl rfl (mustS_p (swL r n l) 2 (by decide)) rfl rfl rfl rfl rfl rfl, ?_⟩
  refine kdef (dturn_caught [1] [] rfl rfl rfl (dstroke1_caught _ _) rfl rfl rfl rfl rfl) ?_
  refine kend0 (rs2 rfl (rv_t rfl) (rv_1 tb34 rfl rfl rfl)) rfl ?_
  rfl
set_option maxRecDepth 4000 in
set_option maxHeartbeats 1000000 in
theorem dline_d (w h : Int) (ds : List D) (ts : List TL) (hr : RowOk ds ts) (hc : CvOk w h ts) (c : C4) (n : Int) (r : Bool) (a b : P2) (ha : drwB a = true) (hb : drwB b = true) (hs : swB n (lineL a b) = true) : DFun Tryz.prog 29 [cvD w h ds, .val (.agg #[.int .u8 c.r, .int .u8 c.g, .int .u8 c.b, .int .u8 c.a, .int .i64 n, .bool r]), .val (.agg #[.int .i64 a.x, .int .i64 a.y]), .val (.agg #[.int .i64 b.x, .int .i64 b.y])] [] (.tup [cvD w h (dpR (drwC false w h ts c (swL r n (lineL a b)))), .val (.int .i64 0)]) [] := by
  have hd : (drwB a && drwB b) = true := by rw [ha, hb]; rfl
  obtain ⟨g1, g2⟩ := lin_ok hd
  have hll := lineL_le ha hb
  have hsl := swL_len (r := r) hs
  have he := (sw_ok (r := r) hs).2.1
  refine dcalls_body (N := 35) 0 (by kernel_rfl) Tryz.func29 rfl rfl rfl (by simp only [fr0, Nat.zero_add, Nat.reduceAdd]; exact rfl) rfl fun s0 hs0 => ?_
  refine dbody_seq rfl hs0 ?_
  refine zah 4 (by simp only [holes, List.cons_append, List.nil_append]; exact rfl) ?_
  refine zad ?_
  refine zaj rfl rfl rfl (op_boxa 0 rfl (ev1 rfl) rfl) (by simp only [upd, zaa, za]; exact rfl) ?_
  refine zaj rfl rfl rfl (op_boxa 1 rfl (ev1 rfl) rfl) (by simp only [upd, zaa, za]; exact rfl) ?_
  refine zaj rfl rfl rfl (op_boxa 2 rfl (ev1 rfl) rfl) (by simp only [upd, zaa, za]; exact rfl) ?_
  refine zab rfl rfl rfl (zac (.inr rfl) (ev1 rfl)) ?_
  refine zaj rfl rfl rfl (op_alloc 3 rfl zr34 rfl) (by simp only [upd, zaa, za]; exact rfl) ?_
  refine zae ?_
  refine dbody_defer (l0 := [_]) rfl rfl rfl rfl rfl hs0 ?_
  refine zab rfl rfl rfl (op_mkf rfl en (ec (ev1 rfl) en)) ?_
  refine zae ⟨_, _, _, 4, ev1 rfl, Nat.le_trans hs0 (by decide), rfl, ?_⟩
  have hs1 : s0.M.length ≤ 4 := Nat.le_trans hs0 (by decide)
  refine dbody_end rfl hs0 ?_
  refine zaf ?_
  refine zah 1 (by simp only [holes, List.cons_append, List.nil_append]; exact rfl) ?_
  refine zad ?_
  refine zab rfl rfl rfl (zac (.inl rfl) (ev1 rfl)) ?_
  refine zab rfl rfl rfl (zai [] [] [] rfl (ev1 rfl) (ec (ev1 rfl) en) rfl rfl (easel_d w h ds) rfl rfl rfl rfl rfl rfl) ?_
  refine zaj rfl rfl rfl (op_alloc 4 rfl zr85 rfl) (by simp only [upd, zaa, za]; exact rfl) ?_
  refine walk_s rfl rfl (op_stam2 rfl tb85 (ev1 rfl) (ev1 rfl) rfl rfl rfl rfl) (by simp only [upd, zaa, za]; exact rfl) ?_
  refine zae ?_
  refine zaf ?_
  refine zad ?_
  refine zab rfl rfl rfl (op_ldw rfl tb51 (ev1 rfl) rfl rfl) ?_
  refine zab rfl rfl rfl (op_ldw rfl tb51 (ev1 rfl) rfl rfl) ?_
  refine zab rfl rfl rfl (zai [] [] [] rfl (ev1 rfl) (ec (ev1 rfl) (ec (ev1 rfl) en)) rfl rfl (line_d a b) rfl rfl rfl rfl rfl rfl) ?_
  refine zab rfl rfl rfl ((op_ext rfl (ev1 rfl) rfl).cast (d' := .slf 2 (lineL a b).length ((lineL a b).flatMap p2)) (by rw [g1])) ?_
  refine zab rfl rfl rfl ((op_ext rfl (ev1 rfl) rfl).cast (d' := .val (.int .i64 0)) (by rw [g2])) ?_
  refine zab rfl rfl rfl (zai [] [] [] rfl (ev1 rfl) (ec (ev1 rfl) (ec (ev1 rfl) en)) rfl rfl (mustP_d (lineL a b)) rfl rfl rfl rfl rfl rfl) ?_
  refine zab rfl rfl rfl (zac (.inr rfl) (ev1 rfl)) ?_
  refine zae ?_
  refine zaf ?_
  refine zah 1 (by simp only [holes, List.cons_append, List.nil_append]; exact rfl) ?_
  refine dwp_draw [([4], []), ([], []), ([], []), ([0], []), ([], []), ([0], []), ([], []), ([], []), ([], []), ([], []), ([], []), ([0], []), ([5], [5]), ([5], [5]), ([], []), ([3], [3])] mixed (by kernel_rfl) ?_
  refine zag rfl rfl (op_ldmw rfl tb85 (ev1 rfl) rfl rfl) ?_
  refine zag rfl rfl (zac (.inl rfl) (ev1 rfl)) ?_
  refine zag rfl rfl (op_fa rfl fo47_1 (ev1 rfl)) ?_
  refine zag rfl rfl (op_ldo rfl tb3 (ev1 rfl) rfl rfl) ?_
  refine zag rfl rfl (op_fa rfl fo47_2 (ev1 rfl)) ?_
  refine zag rfl rfl (op_ldo rfl tb4 (ev1 rfl) rfl rfl) ?_
  refine zag rfl rfl (zai [] [] [] rfl (ev1 rfl) (ec (ev1 rfl) (ec (ev1 rfl) (ec (ev1 rfl) en))) rfl rfl (sweep_d (lineL a b) n r (by omega)) rfl rfl rfl rfl rfl rfl) ?_
  refine zag rfl rfl (op_ext rfl (ev1 rfl) rfl) ?_
  refine zag rfl rfl ((op_ext rfl (ev1 rfl) rfl).cast (d' := .val (.int .i64 0)) (by rw [he])) ?_
  refine zag rfl rfl (zai [] [] [] rfl (ev1 rfl) (ec (ev1 rfl) (ec (ev1 rfl) en)) rfl rfl (mustS_d (swL r n (lineL a b))) rfl rfl rfl rfl rfl rfl) ?_
  refine zag rfl rfl (op_fa rfl fo47_0 (ev1 rfl)) ?_
  refine zag rfl rfl (op_ldr rfl tb27 (ev1 rfl) rfl rfl rfl) ?_
  refine lex_w rfl rfl (zai [] [] [5] rfl (ev1 rfl) (ec (ev1 rfl) en) rfl rfl (paints_d c) rfl rfl rfl rfl rfl rfl) rfl (by simp only [upd, zaa, za]; exact rfl) ?_
  refine lex_w rfl rfl (zai [5] [] [] rfl (ev1 rfl) (ec (ev1 rfl) (ec (ev1 rfl) (ec (ev1 rfl) en))) rfl rfl (drawn_p w h ds ts hr hc c (swL r n (lineL a b)) (swL_chk hs) (by omega)) rfl rfl rfl rfl rfl rfl) rfl (by simp only [upd, zaa, za]; exact rfl) ?_
  refine zag rfl rfl (zac (.inr rfl) (ev1 rfl)) ?_
  refine lex_s rfl rfl (op_stwi rfl tb34 (ev1 rfl) (ev1 rfl) rfl) rfl (by simp only [upd, zaa, za]; exact rfl) ?_
  refine lex_nil ?_
  refine dwp_ret ?_
  refine kdef (dturn_idle [3] [] rfl rfl (dline1_idle _) rfl rfl rfl rfl rfl) ?_
  refine kend0 (rs2 rfl (rv_t rfl) (rv_1 tb34 rfl rfl rfl)) rfl ?_
  rfl
set_option maxRecDepth 4000 in
set_option maxHeartbeats 1000000 in
theorem drect_d (w h : Int) (ds : List D) (ts : List TL) (hr : RowOk ds ts) (hc : CvOk w h ts) (c : C4) (a b : P2) (ha : drwB a = true) (hb : drwB b = true) : DFun Tryz.prog 31 [cvD w h ds, .val (.agg (c4 c).toArray), .val (.agg #[.int .i64 a.x, .int .i64 a.y]), .val (.agg #[.int .i64 b.x, .int .i64 b.y])] [] (.tup [cvD w h (dpR (drwC false w h ts c (rectL a b))), .val (.int .i64 0)]) [] := by
  have hd : (drwB a && drwB b) = true := by rw [ha, hb]; rfl
  obtain ⟨g1, g2⟩ := rct_ok hd
  have hll := rectL_len ha hb
  refine dcalls_body (N := 24) 0 (by kernel_rfl) Tryz.func31 rfl rfl rfl (by simp only [fr0, Nat.zero_add, Nat.reduceAdd]; exact rfl) rfl fun s0 hs0 => ?_
  refine dbody_seq rfl hs0 ?_
  refine zah 4 (by simp only [holes, List.cons_append, List.nil_append]; exact rfl) ?_
  refine zad ?_
  refine zaj rfl rfl rfl (op_boxa 0 rfl (ev1 rfl) rfl) (by simp only [upd, zaa, za]; exact rfl) ?_
  refine zaj rfl rfl rfl (op_boxa 1 rfl (ev1 rfl) rfl) (by simp only [upd, zaa, za]; exact rfl) ?_
  refine zaj rfl rfl rfl (op_boxa 2 rfl (ev1 rfl) rfl) (by simp only [upd, zaa, za]; exact rfl) ?_
  refine zab rfl rfl rfl (zac (.inr rfl) (ev1 rfl)) ?_
  refine zaj rfl rfl rfl (op_alloc 3 rfl zr34 rfl) (by simp only [upd, zaa, za]; exact rfl) ?_
  refine zae ?_
  refine dbody_defer (l0 := [_]) rfl rfl rfl rfl rfl hs0 ?_
  refine zab rfl rfl rfl (op_mkf rfl en (ec (ev1 rfl) en)) ?_
  refine zae ⟨_, _, _, 4, ev1 rfl, Nat.le_trans hs0 (by decide), rfl, ?_⟩
  have hs1 : s0.M.length ≤ 4 := Nat.le_trans hs0 (by decide)
  refine dbody_end rfl hs0 ?_
  refine zaf ?_
  refine zah 1 (by simp only [holes, List.cons_append, List.nil_append]; exact rfl) ?_
  refine zad ?_
  refine zab rfl rfl rfl (zac (.inl rfl) (ev1 rfl)) ?_
  refine zab rfl rfl rfl (zai [] [] [] rfl (ev1 rfl) (ec (ev1 rfl) en) rfl rfl (easel_d w h ds) rfl rfl rfl rfl rfl rfl) ?_
  refine zaj rfl rfl rfl (op_alloc 4 rfl zr85 rfl) (by simp only [upd, zaa, za]; exact rfl) ?_
  refine walk_s rfl rfl (op_stam2 rfl tb85 (ev1 rfl) (ev1 rfl) rfl rfl rfl rfl) (by simp only [upd, zaa, za]; exact rfl) ?_
  refine zae ?_
  refine zaf ?_
  refine zah 1 (by simp only [holes, List.cons_append, List.nil_append]; exact rfl) ?_
  refine dwp_draw [([4], []), ([1], []), ([2], []), ([], []), ([], []), ([], []), ([], []), ([0], []), ([5], [5]), ([5], [5]), ([], []), ([3], [3])] mixed (by kernel_rfl) ?_
  refine zag rfl rfl (op_ldmw rfl tb85 (ev1 rfl) rfl rfl) ?_
  refine zag rfl rfl (op_ldw rfl tb51 (ev1 rfl) rfl rfl) ?_
  refine zag rfl rfl (op_ldw rfl tb51 (ev1 rfl) rfl rfl) ?_
  refine zag rfl rfl (zai [] [] [] rfl (ev1 rfl) (ec (ev1 rfl) (ec (ev1 rfl) en)) rfl rfl (rect_d a b) rfl rfl rfl rfl rfl rfl) ?_
  refine zag rfl rfl ((op_ext rfl (ev1 rfl) rfl).cast (d' := .slf 3 (rectL a b).length ((rectL a b).flatMap s3)) (by rw [g1])) ?_
  refine zag rfl rfl ((op_ext rfl (ev1 rfl) rfl).cast (d' := .val (.int .i64 0)) (by rw [g2])) ?_
  refine zag rfl rfl (zai [] [] [] rfl (ev1 rfl) (ec (ev1 rfl) (ec (ev1 rfl) en)) rfl rfl (mustS_d (rectL a b)) rfl rfl rfl rfl rfl rfl) ?_
  refine zag rfl rfl (op_ldw rfl tb27 (ev1 rfl) rfl rfl) ?_
  refine lex_w rfl rfl (zai [] [] [5] rfl (ev1 rfl) (ec (ev1 rfl) en) rfl rfl (paints_d c) rfl rfl rfl rfl rfl rfl) rfl (by simp only [upd, zaa, za]; exact rfl) ?_
  refine lex_w rfl rfl (zai [5] [] [] rfl (ev1 rfl) (ec (ev1 rfl) (ec (ev1 rfl) (ec (ev1 rfl) en))) rfl rfl (drawn_p w h ds ts hr hc c (rectL a b) (rect_chk ha hb) (by omega)) rfl rfl rfl rfl rfl rfl) rfl (by simp only [upd, zaa, za]; exact rfl) ?_
  refine zag rfl rfl (zac (.inr rfl) (ev1 rfl)) ?_
  refine lex_s rfl rfl (op_stwi rfl tb34 (ev1 rfl) (ev1 rfl) rfl) rfl (by simp only [upd, zaa, za]; exact rfl) ?_
  refine lex_nil ?_
  refine dwp_ret ?_
  refine kdef (dturn_idle [3] [] rfl rfl (drect1_idle _) rfl rfl rfl rfl rfl) ?_
  refine kend0 (rs2 rfl (rv_t rfl) (rv_1 tb34 rfl rfl rfl)) rfl ?_
  rfl
set_option maxRecDepth 4000 in
set_option maxHeartbeats 1000000 in
theorem frame_d (w h : Int) (ds : List D) (ts : List TL) (hr : RowOk ds ts) (hc : CvOk w h ts) (c : C4) (a b : P2) (ha : drwB a = true) (hb : drwB b = true) : DFun Tryz.prog 32 [cvD w h ds, .val (.agg (c4 c).toArray), .val (.agg #[.int .i64 a.x, .int .i64 a.y]), .val (.agg #[.int .i64 b.x, .int .i64 b.y])] [] (.tup [cvD w h (dpR (drwC false w h ts c (uniL (frmR a b)))), .val (.int .i64 0)]) [] := by
  obtain ⟨d1, d2⟩ := ac_drw ha hb
  have g1 := rct_ok (show (drwB a && drwB (ac2 a b)) = true by rw [ha, d1]; rfl)
  have g2 := rct_ok (show (drwB a && drwB (dn2 a b)) = true by rw [ha, d2]; rfl)
  have g3 := rct_ok (show (drwB (ac2 a b) && drwB b) = true by rw [d1, hb]; rfl)
  have g4 := rct_ok (show (drwB (dn2 a b) && drwB b) = true by rw [d2, hb]; rfl)
  obtain ⟨hfa, hfl⟩ := frm_ok ha hb
  have hue := (uni_ok hfa).2
  have hul := uni_len hfa
  refine dcalls_body (N := 61) 0 (by kernel_rfl) Tryz.func32 rfl rfl rfl (by simp only [fr0, Nat.zero_add, Nat.reduceAdd]; exact rfl) rfl fun s0 hs0 => ?_
  refine dbody_seq rfl hs0 ?_
  refine zah 4 (by simp only [holes, List.cons_append, List.nil_append]; exact rfl) ?_
  refine zad ?_
  refine zaj rfl rfl rfl (op_boxa 0 rfl (ev1 rfl) rfl) (by simp only [upd, zaa, za]; exact rfl) ?_
  refine zaj rfl rfl rfl (op_boxa 1 rfl (ev1 rfl) rfl) (by simp only [upd, zaa, za]; exact rfl) ?_
  refine zaj rfl rfl rfl (op_boxa 2 rfl (ev1 rfl) rfl) (by simp only [upd, zaa, za]; exact rfl) ?_
  refine zab rfl rfl rfl (zac (.inr rfl) (ev1 rfl)) ?_
  refine zaj rfl rfl rfl (op_alloc 3 rfl zr34 rfl) (by simp only [upd, zaa, za]; exact rfl) ?_
  refine zae ?_
  refine dbody_defer (l0 := [_]) rfl rfl rfl rfl rfl hs0 ?_
  refine zab rfl rfl rfl (op_mkf rfl en (ec (ev1 rfl) en)) ?_
  refine zae ⟨_, _, _, 4, ev1 rfl, Nat.le_trans hs0 (by decide), rfl, ?_⟩
  have hs1 : s0.M.length ≤ 4 := Nat.le_trans hs0 (by decide)
  refine dbody_end rfl hs0 ?_
  refine zaf ?_
  refine zah 1 (by simp only [holes, List.cons_append, List.nil_append]; exact rfl) ?_
  refine zad ?_
  refine zab rfl rfl rfl (zac (.inl rfl) (ev1 rfl)) ?_
  refine zab rfl rfl rfl (zai [] [] [] rfl (ev1 rfl) (ec (ev1 rfl) en) rfl rfl (easel_d w h ds) rfl rfl rfl rfl rfl rfl) ?_
  refine zaj rfl rfl rfl (op_alloc 4 rfl zr85 rfl) (by simp only [upd, zaa, za]; exact rfl) ?_
  refine walk_s rfl rfl (op_stam2 rfl tb85 (ev1 rfl) (ev1 rfl) rfl rfl rfl rfl) (by simp only [upd, zaa, za]; exact rfl) ?_
  refine zae ?_
  refine zaf ?_
  refine zah 2 (by simp only [holes, List.cons_append, List.nil_append]; exact rfl) ?_
  refine dwp_draw [([], []), ([2], []), ([], []), ([1], []), ([], []), ([], []), ([1], []), ([], []), ([2], []), ([], []), ([5], [5]), ([6], [6]), ([5], [5]), ([6], [6])] mixed (by kernel_rfl) ?_
  refine zag rfl rfl (op_fa rfl fo51_0 (ev1 rfl)) ?_
  refine zag rfl rfl (op_ldo rfl tb3 (ev1 rfl) rfl rfl) ?_
  refine zag rfl rfl (op_fa rfl fo51_1 (ev1 rfl)) ?_
  refine zag rfl rfl (op_ldo rfl tb3 (ev1 rfl) rfl rfl) ?_
  refine zag rfl rfl (op_build (ps := [(0, .tmp 18), (1, .tmp 20)]) rfl fl51 zr51 (vc (ev1 rfl) (vc (ev1 rfl) vn)) rfl rfl) ?_
  refine zag rfl rfl (op_fa rfl fo51_0 (ev1 rfl)) ?_
  refine zag rfl rfl (op_ldo rfl tb3 (ev1 rfl) rfl rfl) ?_
  refine zag rfl rfl (op_fa rfl fo51_1 (ev1 rfl)) ?_
  refine zag rfl rfl (op_ldo rfl tb3 (ev1 rfl) rfl rfl) ?_
  refine zag rfl rfl (op_build (ps := [(0, .tmp 23), (1, .tmp 25)]) rfl fl51 zr51 (vc (ev1 rfl) (vc (ev1 rfl) vn)) rfl rfl) ?_
  refine lex_w rfl rfl (op_alloc 5 rfl zr51 rfl) rfl (by simp only [upd, zaa, za]; exact rfl) ?_
  refine lex_w rfl rfl (op_alloc 6 rfl zr51 rfl) rfl (by simp only [upd, zaa, za]; exact rfl) ?_
  refine lex_s rfl rfl (op_stwa rfl tb51 (ev1 rfl) (ev1 rfl) rfl rfl rfl rfl) rfl (by simp only [upd, zaa, za]; exact rfl) ?_
  refine lex_s rfl rfl (op_stwa rfl tb51 (ev1 rfl) (ev1 rfl) rfl rfl rfl rfl) rfl (by simp only [upd, zaa, za]; exact rfl) ?_
  refine lex_nil ?_
  refine zaf ?_
  refine dwp_draw [([1], []), ([5], []), ([], []), ([], []), ([], []), ([], []), ([1], []), ([6], []), ([], []), ([], []), ([], []), ([], []), ([5], []), ([2], []), ([], []), ([], []), ([], []), ([], []), ([6], []), ([2], []), ([], []), ([], []), ([], []), ([], []), ([], []), ([], []), ([], []), ([], []), ([], []), ([], [])] mixed (by kernel_rfl) ?_
  refine zag rfl rfl (op_ldw rfl tb51 (ev1 rfl) rfl rfl) ?_
  refine zag rfl rfl (op_ldw rfl tb51 (ev1 rfl) rfl rfl) ?_
  refine zag rfl rfl (zai [] [] [] rfl (ev1 rfl) (ec (ev1 rfl) (ec (ev1 rfl) en)) rfl rfl (rect_d a (ac2 a b)) rfl rfl rfl rfl rfl rfl) ?_
  refine zag rfl rfl ((op_ext rfl (ev1 rfl) rfl).cast (d' := .slf 3 (rectL a (ac2 a b)).length ((rectL a (ac2 a b)).flatMap s3)) (by rw [g1.1])) ?_
  refine zag rfl rfl ((op_ext rfl (ev1 rfl) rfl).cast (d' := .val (.int .i64 0)) (by rw [g1.2])) ?_
  refine zag rfl rfl (zai [] [] [] rfl (ev1 rfl) (ec (ev1 rfl) (ec (ev1 rfl) en)) rfl rfl (mustS_d (rectL a (ac2 a b))) rfl rfl rfl rfl rfl rfl) ?_
  refine zag rfl rfl (op_ldw rfl tb51 (ev1 rfl) rfl rfl) ?_
  refine zag rfl rfl (op_ldw rfl tb51 (ev1 rfl) rfl rfl) ?_
  refine zag rfl rfl (zai [] [] [] rfl (ev1 rfl) (ec (ev1 rfl) (ec (ev1 rfl) en)) rfl rfl (rect_d a (dn2 a b)) rfl rfl rfl rfl rfl rfl) ?_
  refine zag rfl rfl ((op_ext rfl (ev1 rfl) rfl).cast (d' := .slf 3 (rectL a (dn2 a b)).length ((rectL a (dn2 a b)).flatMap s3)) (by rw [g2.1])) ?_
  refine zag rfl rfl ((op_ext rfl (ev1 rfl) rfl).cast (d' := .val (.int .i64 0)) (by rw [g2.2])) ?_
  refine zag rfl rfl (zai [] [] [] rfl (ev1 rfl) (ec (ev1 rfl) (ec (ev1 rfl) en)) rfl rfl (mustS_d (rectL a (dn2 a b))) rfl rfl rfl rfl rfl rfl) ?_
  refine zag rfl rfl (op_ldw rfl tb51 (ev1 rfl) rfl rfl) ?_
  refine zag rfl rfl (op_ldw rfl tb51 (ev1 rfl) rfl rfl) ?_
  refine zag rfl rfl (zai [] [] [] rfl (ev1 rfl) (ec (ev1 rfl) (ec (ev1 rfl) en)) rfl rfl (rect_d (ac2 a b) b) rfl rfl rfl rfl rfl rfl) ?_
  refine zag rfl rfl ((op_ext rfl (ev1 rfl) rfl).cast (d' := .slf 3 (rectL (ac2 a b) b).length ((rectL (ac2 a b) b).flatMap s3)) (by rw [g3.1])) ?_
  refine zag rfl rfl ((op_ext rfl (ev1 rfl) rfl).cast (d' := .val (.int .i64 0)) (by rw [g3.2])) ?_
  refine zag rfl rfl (zai [] [] [] rfl (ev1 rfl) (ec (ev1 rfl) (ec (ev1 rfl) en)) rfl rfl (mustS_d (rectL (ac2 a b) b)) rfl rfl rfl rfl rfl rfl) ?_
  refine zag rfl rfl (op_ldw rfl tb51 (ev1 rfl) rfl rfl) ?_
  refine zag rfl rfl (op_ldw rfl tb51 (ev1 rfl) rfl rfl) ?_
  refine zag rfl rfl (zai [] [] [] rfl (ev1 rfl) (ec (ev1 rfl) (ec (ev1 rfl) en)) rfl rfl (rect_d (dn2 a b) b) rfl rfl rfl rfl rfl rfl) ?_
  refine zag rfl rfl ((op_ext rfl (ev1 rfl) rfl).cast (d' := .slf 3 (rectL (dn2 a b) b).length ((rectL (dn2 a b) b).flatMap s3)) (by rw [g4.1])) ?_
  refine zag rfl rfl ((op_ext rfl (ev1 rfl) rfl).cast (d' := .val (.int .i64 0)) (by rw [g4.2])) ?_
  refine zag rfl rfl (zai [] [] [] rfl (ev1 rfl) (ec (ev1 rfl) (ec (ev1 rfl) en)) rfl rfl (mustS_d (rectL (dn2 a b) b)) rfl rfl rfl rfl rfl rfl) ?_
  refine zag rfl rfl (op_bsm (ps := [(0, .tmp 32), (1, .tmp 38), (2, .tmp 44), (3, .tmp 50)]) rfl sl142 zr25 rfl (ec (ev1 rfl) (ec (ev1 rfl) (ec (ev1 rfl) (ec (ev1 rfl) en)))) rfl (by decide)) ?_
  refine zag rfl rfl (zai [] [] [] rfl (ev1 rfl) (ec (ev1 rfl) en) rfl rfl (union_d (frmR a b) (by omega)) rfl rfl rfl rfl rfl rfl) ?_
  refine zag rfl rfl ((op_ext rfl (ev1 rfl) rfl).cast (d' := .slf 3 (uniL (frmR a b)).length ((uniL (frmR a b)).flatMap s3)) (rfl)) ?_
  refine zag rfl rfl ((op_ext rfl (ev1 rfl) rfl).cast (d' := .val (.int .i64 0)) (by rw [hue])) ?_
  refine zag rfl rfl (zai [] [] [] rfl (ev1 rfl) (ec (ev1 rfl) (ec (ev1 rfl) en)) rfl rfl (mustS_d (uniL (frmR a b))) rfl rfl rfl rfl rfl rfl) ?_
  refine zag rfl rfl (zac (.inr rfl) (ev1 rfl)) ?_
  refine lex_nil ?_
  refine zaf ?_
  refine zah 1 (by simp only [holes, List.cons_append, List.nil_append]; exact rfl) ?_
  refine dwp_draw [([4], []), ([], []), ([0], []), ([7], [7]), ([7], [7]), ([], []), ([3], [3])] mixed (by kernel_rfl) ?_
  refine zag rfl rfl (op_ldmw rfl tb85 (ev1 rfl) rfl rfl) ?_
  refine zag rfl rfl (zac (.inl rfl) (ev1 rfl)) ?_
  refine zag rfl rfl (op_ldw rfl tb27 (ev1 rfl) rfl rfl) ?_
  refine lex_w rfl rfl (zai [] [] [7] rfl (ev1 rfl) (ec (ev1 rfl) en) rfl rfl (paints_d c) rfl rfl rfl rfl rfl rfl) rfl (by simp only [upd, zaa, za]; exact rfl) ?_
  refine lex_w rfl rfl (zai [7] [] [] rfl (ev1 rfl) (ec (ev1 rfl) (ec (ev1 rfl) (ec (ev1 rfl) en))) rfl rfl (drawn_p w h ds ts hr hc c (uniL (frmR a b)) (uni_chk hfa) (by omega)) rfl rfl rfl rfl rfl rfl) rfl (by simp only [upd, zaa, za]; exact rfl) ?_
  refine zag rfl rfl (zac (.inr rfl) (ev1 rfl)) ?_
  refine lex_s rfl rfl (op_stwi rfl tb34 (ev1 rfl) (ev1 rfl) rfl) rfl (by simp only [upd, zaa, za]; exact rfl) ?_
  refine lex_nil ?_
  refine dwp_ret ?_
  refine kdef (dturn_idle [3] [] rfl rfl (dframe1_idle _) rfl rfl rfl rfl rfl) ?_
  refine kend0 (rs2 rfl (rv_t rfl) (rv_1 tb34 rfl rfl rfl)) rfl ?_
  rfl
end Go.Proofs.YtjgnalfnginjbaaGreatDoor
