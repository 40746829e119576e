/- Functions without a body that touch one cell (package sync/atomic), or mark; a function that is deferred with its arguments; deferred functions that do not recover. Conditions: what such a call's run is; Arguments whose elements are slices themselves, opened, as deep as their types go.  but the kernel's look at the types; Single operations of programs: rows that are turned to their own type, rows made whole and left so, arrays of listed parts, nil rows; Rows of one's own that hold data: begun as nil, appended to, given up; Blocks read anew; structs with addresses, whole; slices with no room, cut, and grown by zeros; Structs of data: built, in rows, looked at, stored; Arguments that are structs, or slices of such, whose fields hold slices, opened.  but the kernel's look at the types; A region that draws its order, one of whose operations panics. Conditions: the kernel's look at its edges;. No condition. -/
import Derived.Test.YtmacjicebemgoaaGreatR2
import Derived.Laws.LoneSync
import Derived.Test.YtmacjicebemgoaaGreatRows
namespace Go.Proofs.YtmacjicebemgoaaGreat
set_option linter.unusedVariables false
set_option linter.unusedSimpArgs false
open Go.RowKit
section
variable {P : Program} {pc : Bool} {o : Oper} {F : Fr} {M : List Blk}
end
section
variable {P : Program} {s0 : St} {n : Cx}
end
section
variable {P : Program} {pc : Bool} {o : Oper} {F : Fr} {M : List Blk}
theorem nlL_take : ∀ {l : List D} (k : Nat), D.nlL l = true → D.nlL (l.take k) = true
  | _, 0, _ => by simp [D.nlL]
  | [], _ + 1, _ => rfl
  | d :: l, k + 1, h => by
    rw [D.nlL, Bool.and_eq_true] at h
    rw [List.take_succ_cons, D.nlL, h.1, nlL_take k h.2]
    rfl
/-- a part of a slice of slices that stays -/
theorem op_slms {T e : TypeId} {sz by' n : Nat} {x : Operand} {lo hi : Option Operand} {L : List D} {l h : Int} (ho : o.op = .slice T x lo hi none) (hT : slE P T = some (e, sz, by')) (hx : Ev pc F x (.slm sz n L)) (hlo : Bd pc F lo 0 l) (hhi : Bd pc F hi n h)
    (hb : pc = true → 0 ≤ l ∧ l ≤ h ∧ h ≤ n) : DOp P pc o F M [] (.slm sz (h.toNat - l.toNat) ((L.drop (l.toNat * sz)).take ((h.toNat - l.toNat) * sz))) [] := by
  intro hp a s hok hops _
  obtain ⟨b1, b2, b3⟩ := hb hp
  have hr := ev_at hp hx (by simp [ho, Op.operands]) hops
  generalize hv : a.eval x = vx at hr
  cases hr with
  | @slm _ _ cap ad _ vs hnl hl hn hc ha hvl hel hL =>
    refine dg_val hok (run_slice ho hT hv (bd_at hp hlo (fun u e => by subst e; simp [ho, Op.operands]) hops) (bd_at hp hhi (fun u e => by subst e; simp [ho, Op.operands]) hops) b1 b2 b3 hn) ?_
    have hlen : ((L.drop (l.toNat * sz)).take ((h.toNat - l.toNat) * sz)).length = (h.toNat - l.toNat) * sz := by
      rw [List.length_take, List.length_drop, hl, ← Nat.mul_sub_right_distrib]
      exact Nat.min_eq_left (Nat.mul_le_mul_right _ (by omega))
    refine .slm (vs := (vs.drop (l.toNat * sz)).take ((h.toNat - l.toNat) * sz)) (nlL_take _ (nlL_drop _ hnl)) hlen (by omega) (by omega) (fun e => ?_) (by rw [List.length_take, List.length_drop, List.length_take, List.length_drop, hvl]) (fun j d v h1 h2 => ?_) ?_
    · split at e
      · omega
      · cases ad with
        | none => have := ha rfl; omega
        | some ad => cases e
    · rw [List.getElem?_take] at h1 h2
      split at h1
      · rename_i hj
        rw [if_pos hj] at h2
        rw [List.getElem?_drop] at h1 h2
        exact hel _ d v h1 h2
      · cases h1
    · rcases hL with rfl | ⟨b, q, rfl, hI, hcl⟩
      · left; simp
      · by_cases hz : cap = l.toNat
        · left
          have : h.toNat - l.toNat = 0 := by omega
          rw [this]; simp
        · right
          rw [if_neg hz]
          exact ⟨b, q + l.toNat * sz, by rw [Option.map_some, Addr.add_mid], hI, cellsAt_sub hcl _ _⟩
theorem flatM_drop {α β : Type} {en : α → List β} {sz : Nat} (hen : ∀ a, (en a).length = sz) : ∀ (l : List α) (k : Nat), (l.flatMap en).drop (k * sz) = (l.drop k).flatMap en
  | l, 0 => by simp
  | [], k + 1 => by simp
  | a :: l, k + 1 => by
    rw [List.flatMap_cons, List.drop_succ_cons, ← flatM_drop hen l k, Nat.succ_mul, Nat.add_comm (k * sz), ← List.drop_drop, List.drop_left' (hen a)]
theorem flatM_take {α β : Type} {en : α → List β} {sz : Nat} (hen : ∀ a, (en a).length = sz) : ∀ (l : List α) (k : Nat), (l.flatMap en).take (k * sz) = (l.take k).flatMap en
  | l, 0 => by simp
  | [], k + 1 => by simp
  | a :: l, k + 1 => by
    rw [List.flatMap_cons, List.take_succ_cons, List.flatMap_cons, ← flatM_take hen l k, Nat.succ_mul, Nat.add_comm (k * sz), List.take_add, List.take_left' (hen a), List.drop_left' (hen a)]
/-- .. from i to j -/
theorem op_slmmd {α : Type} {mk : α → List D} {r : List α} {T e : TypeId} {sz by' : Nat} {x : Operand} {lo hi : Option Operand} {l h : Int} {i j : Nat} (ho : o.op = .slice T x lo hi none) (hT : slE P T = some (e, sz, by')) (hx : Ev pc F x (.slm sz r.length (r.flatMap mk))) (hlo : Bd pc F lo 0 l) (hhi : Bd pc F hi r.length h)
    (hl : pc = true → l = (i : Int)) (hh : pc = true → h = (j : Int)) (hij : pc = true → i ≤ j ∧ j ≤ r.length) (hmk : ∀ a, (mk a).length = sz) : DOp P pc o F M [] (.slm sz ((r.drop i).take (j - i)).length (((r.drop i).take (j - i)).flatMap mk)) [] := fun hp => by
  have h1 := hij hp
  have := op_slms (P := P) (M := M) ho hT hx hlo hhi (fun hp => by have := hl hp; have := hh hp; omega) hp
  rw [hl hp, hh hp, Int.toNat_natCast, Int.toNat_natCast, flatM_drop hmk, flatM_take hmk] at this
  rw [show ((r.drop i).take (j - i)).length = j - i by rw [List.length_take, List.length_drop]; omega]
  exact this
theorem op_slmtk {α : Type} {mk : α → List D} {r : List α} {T e : TypeId} {sz by' : Nat} {x : Operand} {hi : Option Operand} {h : Int} {j : Nat} (ho : o.op = .slice T x none hi none) (hT : slE P T = some (e, sz, by')) (hx : Ev pc F x (.slm sz r.length (r.flatMap mk))) (hhi : Bd pc F hi r.length h)
    (hh : pc = true → h = (j : Int)) (hij : pc = true → j ≤ r.length) (hmk : ∀ a, (mk a).length = sz) : DOp P pc o F M [] (.slm sz (r.take j).length ((r.take j).flatMap mk)) [] :=
  op_slmmd (i := 0) ho hT hx (bd_none (z := 0)) hhi (fun _ => rfl) hh (fun hp => ⟨Nat.zero_le _, hij hp⟩) hmk
theorem flat1_at {α : Type} {mk : α → D} {l : List α} {j : Nat} (h : j < l.length) : (l.flatMap fun a => [mk a])[j]? = some (mk l[j]) := by
  have e : ∀ l : List α, (l.flatMap fun a => [mk a]) = l.map mk := fun l => by
    induction l with
    | nil => rfl
    | cons a l ih => rw [List.flatMap_cons, List.map_cons, ih]; rfl
  rw [e, List.getElem?_map, List.getElem?_eq_getElem h]; rfl
end
end Go.Proofs.YtmacjicebemgoaaGreat
namespace Go.Proofs.YtmacjicebemgoaaGreat
set_option linter.unusedVariables false
set_option linter.unusedSimpArgs false
open Go.ChangeShapes Go.WideShapes Go.ChangeAt Go.RowKit Go.Joins Go.Deep
/-- cells that read as data, side by side, at the start -/
def Opens (P : Program) (w : World) {α : Type} (t : TypeId) (mk : α → List D) (ok : α → Prop) : Prop :=
  ∀ (H : Type) (enc : TypeId × Value → H) (base : Nat) (spare : Nat → Bool) (held : Bool) (n : Nat) (cs : List Value) (x : DataW H × List MemPlace), DataW.trod enc P w base spare held n t cs = some x → ∃ a, ok a ∧ Reps (st0 w) (mk a) cs
section
variable {P : Program} {w : World}
theorem reps_app2 {s : St} {d1 d2 : List D} {v1 v2 : List Value} (h1 : Reps s d1 v1) (h2 : Reps s d2 v2) : Reps s (d1 ++ d2) (v1 ++ v2) := by
  refine ⟨by simp [h1.1, h2.1], fun j d v hd hv => ?_⟩
  by_cases hj : j < d1.length
  · rw [List.getElem?_append_left hj] at hd
    rw [List.getElem?_append_left (by rw [h1.1]; exact hj)] at hv
    exact h1.2 j d v hd hv
  · rw [List.getElem?_append_right (by omega)] at hd
    rw [List.getElem?_append_right (by rw [h1.1]; omega), h1.1] at hv
    exact h2.2 _ d v hd hv
/-- a type that holds no address -/
theorem opens_flat {α : Type} {t : TypeId} {ps : List Prim} (f : Nat) (en : α → List Value) (ok : α → Prop) (hP : ∀ cs, fitsP ps cs → ∃ a, ok a ∧ cs = en a) (hf : flatT P f t = some ps) : Opens P w t (fun a => (en a).map .val) ok := by
  intro H enc base spare held n cs x hx
  obtain ⟨a, hok, rfl⟩ := hP cs (flat_trod f _ _ _ _ _ hf hx)
  refine ⟨a, hok, by simp, fun j d v hd hv => ?_⟩
  rw [List.getElem?_map, hv] at hd
  obtain rfl := Option.some.inj hd
  exact .val v
/-- a slice whose elements hold no address -/
theorem opens_row {α : Type} {t e : TypeId} {ps : List Prim} (f : Nat) (en : α → List Value) (ok : α → Prop) (hP : ∀ cs, fitsP ps cs → ∃ a, ok a ∧ cs = en a) (ht : P.underlying t = some (.slice e)) (hf : flatT P f e = some ps) (hc : P.cellsOf e = ps.length) (hpos : 0 < ps.length)
    (hen : ∀ a, (en a).length = ps.length) : Opens P w t (fun l : List α => [.slf ps.length l.length (l.flatMap en)]) (fun l => ∀ a ∈ l, ok a) := by
  intro H enc base spare held n cs x hx
  have hone : ∃ a len cap, cs = [.slice a len cap] := by
    rcases open_slice ht hx with ⟨hcs, _⟩ | ⟨a, len', cap', _, _, _, _, hcs, _⟩
    · exact ⟨_, _, _, hcs⟩
    · exact ⟨_, _, _, hcs⟩
  obtain ⟨a, len, cap, rfl⟩ := hone
  obtain ⟨l, h1, h2, h3, h4, h5⟩ := open_row f en ok hP ht hf hc hpos (d := x.1) (p := x.2) (show DataW.Trod enc P w base spare held t (.slice a len cap) x.1 x.2 from ⟨n, hx⟩)
  exact ⟨l, h2, reps_cons (rep_row h1 h3 h4 h5 hen) reps_nil⟩
theorem reps_flat {α : Type} {s : St} {mk : α → List D} : ∀ (l : List α) (css : List (List Value)), css.length = l.length → (∀ (i : Nat) (h : i < l.length) (h2 : i < css.length), Reps s (mk l[i]) css[i]) → Reps s (l.flatMap mk) css.flatten
  | [], [], _, _ => reps_nil
  | a :: l, cs :: css, hl, h => by
    rw [List.flatMap_cons, List.flatten_cons]
    exact reps_app2 (h 0 (by simp) (by simp)) (reps_flat l css (by simpa using hl) fun i h1 h2 => h (i + 1) (by simpa using h1) (by simpa using h2))
  | [], _ :: _, h, _ => by simp at h
  | _ :: _, [], h, _ => by simp at h
theorem nlL_app : ∀ {a b : List D}, D.nlL a = true → D.nlL b = true → D.nlL (a ++ b) = true
  | [], _, _, h => h
  | d :: a, b, h, h' => by
    rw [D.nlL, Bool.and_eq_true] at h
    rw [List.cons_append, D.nlL, h.1, nlL_app h.2 h']
    rfl
theorem nlL_flat {α : Type} {mk : α → List D} (h : ∀ a, D.nlL (mk a) = true) : ∀ l : List α, D.nlL (l.flatMap mk) = true
  | [] => rfl
  | a :: l => by rw [List.flatMap_cons]; exact nlL_app (h a) (nlL_flat h l)
theorem flatM_len {α β : Type} {en : α → List β} {sz : Nat} (hen : ∀ a, (en a).length = sz) : ∀ l : List α, (l.flatMap en).length = l.length * sz
  | [] => by simp
  | a :: l => by rw [List.flatMap_cons, List.length_append, hen, flatM_len hen l, List.length_cons, Nat.succ_mul]; omega
/-- a slice of whatever opens -/
theorem opens_rows {α : Type} {t e : TypeId} {sz : Nat} {mk : α → List D} {ok : α → Prop} (he : Opens P w e mk ok) (ht : P.underlying t = some (.slice e)) (hc : P.cellsOf e = sz) (hpos : 0 < sz) (hmk : ∀ a, (mk a).length = sz) (hnl : ∀ a, D.nlL (mk a) = true) :
    Opens P w t (fun l : List α => [.slm sz l.length (l.flatMap mk)]) (fun l => ∀ a ∈ l, ok a) := by
  intro H enc base spare held n cs x hx
  rcases open_slice ht hx with ⟨hcs, _⟩ | ⟨a, len, cap, m, n', D', Pl, hcs, _, hl, hm, hmm, _, hel⟩
  · subst hcs
    exact ⟨[], by simp, reps_cons (.slm (vs := []) rfl (by simp) (Nat.le_refl _) (Nat.zero_le _) (fun _ => rfl) rfl (fun j d v hd => by simp at hd) (.inl rfl)) reps_nil⟩
  · subst hcs
    have hlm : len ≤ m := by rw [hmm]; split <;> omega
    rw [hc] at hel
    obtain ⟨l, hll, hp⟩ := list_of' len (fun i (c : α × List Value) => ok c.1 ∧ Reps (st0 w) (mk c.1) c.2 ∧ w.cells? base (a.add (i * sz)) sz = some c.2) (by
      intro i hi
      obtain ⟨cs, h1, h2⟩ := hel i (by omega)
      obtain ⟨c, hok, hr⟩ := he H enc base spare held _ cs _ h2
      exact ⟨(c, cs), hok, hr, h1⟩)
    refine ⟨l.map (·.1), fun c hcm => ?_, reps_cons ?_ reps_nil⟩
    · obtain ⟨q, hq, rfl⟩ := List.mem_map.1 hcm
      obtain ⟨i, hi, rfl⟩ := List.getElem_of_mem hq
      exact (hp i hi).1
    · have hreps : Reps (st0 w) ((l.map (·.1)).flatMap mk) (l.map (·.2)).flatten := reps_flat _ _ (by simp) fun i h1 h2 => by
        simp only [List.getElem_map]
        exact (hp i (by simpa using h1)).2.1
      have hlen : (l.map (·.1)).length = len := by simp [hll]
      have hflat : ((l.map (·.1)).flatMap mk).length = len * sz := by rw [flatM_len hmk, hlen]
      have hcslen : ∀ i (h : i < l.length), (l[i].2).length = sz := fun i h => ((World.cells?_some (hp i h).2.2).2.1)
      rw [hlen]
      refine .slm (vs := (l.map (·.2)).flatten) (nlL_flat hnl _) hflat hl hm (fun e => by cases e) hreps.1 hreps.2 ?_
      by_cases h0 : l = []
      · left; subst h0; rfl
      · right
        have hlp : 0 < l.length := List.length_pos_iff.2 h0
        obtain ⟨b, off, spot⟩ := a
        have hg := World.cells?_some (hp 0 hlp).2.2
        have hc0 := hg.2.2 0 hpos
        rw [List.getElem?_eq_getElem (by rw [hg.2.1]; exact hpos)] at hc0
        replace hc0 : ∃ v0, w.cell? (((⟨b, off, spot⟩ : Addr).add (0 * sz)).add 0) = some v0 := ⟨_, hc0⟩
        obtain ⟨v0, hc0⟩ := hc0
        have hs := World.cell?_spot hc0
        have hspot : spot = none := by simpa [Addr.add] using hs
        subst hspot
        have hpl : ∀ o k, (⟨b, o, none⟩ : Addr).add k = ⟨b, o + k, none⟩ := fun o k => by simp [Addr.add]
        rw [hpl, hpl] at hc0
        refine ⟨b, off, rfl, World.block_lt_of_cell? _ _ hc0, fun j u hj => ?_⟩
        show w.cell? ⟨b, off + j, none⟩ = some u
        have hfl : ∀ q : α × List Value, q ∈ l → q.2.length = sz := fun q hq => by
          obtain ⟨i, hi, rfl⟩ := List.getElem_of_mem hq
          exact hcslen i hi
        have key : ∀ (l' : List (α × List Value)), (∀ q ∈ l', q.2.length = sz) → ∀ j u, ((l'.map (·.2)).flatten)[j]? = some u → ∃ (i : Nat) (h : i < l'.length), j / sz = i ∧ (l'[i].2)[j % sz]? = some u := by
          intro l'
          induction l' with
          | nil => intro _ j u h; simp at h
          | cons q l' ih =>
            intro hq j u h
            have hq0 := hq q (List.mem_cons_self ..)
            rw [List.map_cons, List.flatten_cons] at h
            by_cases hj : j < sz
            · rw [List.getElem?_append_left (by omega)] at h
              exact ⟨0, by simp, Nat.div_eq_of_lt hj, by rw [Nat.mod_eq_of_lt hj]; exact h⟩
            · rw [List.getElem?_append_right (by omega), hq0] at h
              obtain ⟨i, hi, e1, e2⟩ := ih (fun q' hq' => hq q' (List.mem_cons_of_mem _ hq')) _ _ h
              refine ⟨i + 1, by simpa using hi, ?_, ?_⟩
              · rw [← e1, ← Nat.add_div_right _ hpos, Nat.sub_add_cancel (by omega)]
              · rw [Nat.mod_eq_sub_mod (by omega)]
                simpa using e2
        obtain ⟨i, hi, e1, e2⟩ := key l hfl j u hj
        have hr := Nat.mod_lt j hpos
        have h3 := (World.cells?_some (hp i hi).2.2).2.2 (j % sz) hr
        rw [hpl, hpl, e2] at h3
        have e : i * sz + j % sz = j := by rw [← e1, Nat.mul_comm]; exact Nat.div_add_mod j sz
        rw [Nat.add_assoc, e] at h3
        exact h3
end
/-- an argument that opens -/
theorem open_any {H : Type} {enc : TypeId × Value → H} {w : World} {base : Nat} {spare : Nat → Bool} {held : Bool} {α : Type} {t : TypeId} {mk : α → D} {ok : α → Prop} {v : Value} {d : DataW H} {p : List MemPlace} (ho : Opens Tryz.prog w t (fun a => [mk a]) ok) (hv : v.cells = #[v]) (h : DataW.Trod enc Tryz.prog w base spare held t v d p) :
    ∃ a, ok a ∧ Rep (st0 w) (mk a) v := by
  obtain ⟨fuel, hfu⟩ := h
  obtain ⟨a, hok, hr⟩ := ho H enc base spare held _ _ _ hfu
  rw [hv] at hr
  exact ⟨a, hok, hr.2 0 _ _ rfl rfl⟩
end Go.Proofs.YtmacjicebemgoaaGreat
namespace Go.Proofs.YtmacjicebemgoaaGreat
set_option linter.unusedVariables false
set_option linter.unusedSimpArgs false
open Go.RowKit
/-- a block of one's own is given up: it stays from now on, as it is left -/
theorem tr_give {s : St} (ho : Ok s) {j g : Nat} {k : Blk} {h : Value} (hM : s.M[j]? = some k) (hl : k.live = true) (hh : s.β[j]? = some h) (hbb : hb h = some g) (w' : World)
    (hkeep : ∀ b, b ≠ g → w'.heap[b]? = s.w.heap[b]?) (hsz : w'.heap.size = s.w.heap.size) (hos : w'.os = s.w.os) (htape : w'.tape = s.w.tape) (hout : w'.output = s.w.output) :
    Tr s ⟨s.β, fun b => s.I b ∨ b = g, s.M.set j .gone, w'⟩ := by
  have hnd : ∀ (i : Nat) h, s.β[i]? = some h → h ≠ .nilFunc → s.β[i]? = some h := fun _ _ h _ => h
  replace hbb : owns k h g := owns_of (ho.blk j k h hM hh) hbb
  have hlg : Live s g := live_of hM hl hh hbb
  have hg := ho.lt g hlg
  have imm : ∀ b, s.I b → w'.heap[b]? = s.w.heap[b]? := fun b hI => hkeep b fun e => by subst e; exact hg.2 hI
  have old : ∀ (i : Nat) k', (s.M.set j .gone)[i]? = some k' → k'.live = true → i ≠ j ∧ s.M[i]? = some k' := by
    intro i k' h1 h2
    by_cases e : i = j
    · subst e
      rw [List.getElem?_set_self (by have := (List.getElem?_eq_some_iff.1 hM).1; exact this)] at h1
      cases h1; cases h2
    · rw [List.getElem?_set_ne (Ne.symm e)] at h1
      exact ⟨e, h1⟩
  have ne : ∀ (i : Nat) k' h' b, i ≠ j → s.M[i]? = some k' → k'.live = true → s.β[i]? = some h' → owns k' h' b → b ≠ g := by
    intro i k' h' b e h1 h2 h3 h4 e2
    subst e2
    exact e (ho.inj i j k' k h' h b h1 h2 h3 h4 hM hl hh hbb)
  have lv : ∀ b, Live ⟨s.β, fun b => s.I b ∨ b = g, s.M.set j .gone, w'⟩ b → Live s b ∧ b ≠ g := by
    rintro b ⟨i, k', h', h1, h2, h3, h4⟩
    obtain ⟨e, a⟩ := old i k' h1 h2
    exact ⟨live_of a h2 h3 h4, ne i k' h' b e a h2 h3 h4⟩
  refine ⟨⟨by simp [ho.len], fun i k' h' h1 h2 => ?_, fun b hb => ?_, ?_, fun b hI => ?_⟩, hkeep_of hnd, fun _ h => .inl h, fun b h => ?_, fun b hb hn => hkeep b fun e => by subst e; exact hn hlg, fun b h => .inr (lv b h).1, hos, htape, hout, by simp [hsz]⟩
  · cases hk : k'.live with
    | false =>
      cases k' with
      | gone => trivial
      | hole =>
        by_cases e : i = j
        · subst e
          rw [List.getElem?_set_self (by have := (List.getElem?_eq_some_iff.1 hM).1; exact this)] at h1
          cases h1
        · rw [List.getElem?_set_ne (Ne.symm e)] at h1
          exact ho.blk i _ h' h1 h2
      | _ => cases hk
    | true =>
      obtain ⟨e, a⟩ := old i k' h1 hk
      exact BlkOk.mono (s := s) (s' := ⟨s.β, fun b => s.I b ∨ b = g, s.M.set j .gone, w'⟩) hnd (fun _ h => .inl h) imm (ho.blk i k' h' a h2) fun b hl' hb' => hkeep b (ne i k' h' b e a hl' h2 hb')
  · obtain ⟨h1, h2⟩ := lv b hb
    obtain ⟨h3, h4⟩ := ho.lt b h1
    exact ⟨by show b < w'.heap.size; omega, fun h => h.elim h4 h2⟩
  · intro i i2 k1 k2 h1 h2 b a1 a2 a3 a4 c1 c2 c3 c4
    obtain ⟨_, a1⟩ := old i k1 a1 a2
    obtain ⟨_, c1⟩ := old i2 k2 c1 c2
    exact ho.inj i i2 k1 k2 h1 h2 b a1 a2 a3 a4 c1 c2 c3 c4
  · show b < w'.heap.size
    rcases hI with h | h
    · have := ho.il b h; omega
    · omega
  · rcases h with h | h
    · exact .inl h
    · subst h; exact .inr (.inr hlg)
section
variable {P : Program} {pc : Bool} {o : Oper} {F : Fr} {M : List Blk} {T e : TypeId} {by' : Nat} {x y : Operand}
theorem DOp.cast {d d' : D} {fp : List Nat} {wr : List (Nat × Blk)} (h : DOp P pc o F M fp d wr) (e : d = d') : DOp P pc o F M fp d' wr := e ▸ h
theorem fill_congr {p q : Nat → Option (Nat × Nat)} : ∀ (l : List (Nat × Value)) (Z : Array Value), (∀ x ∈ l, p x.1 = q x.1) → Instr.fill p Z l = Instr.fill q Z l
  | [], _, _ => rfl
  | (i, v) :: r, Z, h => by
    have h1 : p i = q i := h (i, v) (List.mem_cons_self ..)
    unfold Instr.fill
    rw [h1]
    split
    · rfl
    · split
      · rfl
      · exact fill_congr r _ fun x hx => h x (List.mem_cons_of_mem _ hx)
end
end Go.Proofs.YtmacjicebemgoaaGreat
namespace Go.Proofs.YtmacjicebemgoaaGreat
set_option linter.unusedVariables false
set_option linter.unusedSimpArgs false
open Go.RowKit
section
variable {P : Program} {s0 : St} {n : Cx}
theorem inv_adoptx {F : Fr} {M : List Blk} {a : Act} {w : World} {t : Nat} (e : TypeId) (sz : Nat) (h : Inv s0 n F M a w) (ht : lk F t = some (.val (.slice none 0 0))) : Inv s0 n ((t, .arr M.length) :: F) (M ++ [.arx e sz 0 []]) a w := by
  obtain ⟨h0, s, rfl, rfl, h3, h4, h5, h6⟩ := h
  have t1 := step_hole h3.ok
  have hlen := h3.ok.len
  have hn : (s.M ++ [Blk.hole])[s.M.length]? = some .hole := by simp
  have t2 : Tr ⟨s.β ++ [Value.nilFunc], s.I, s.M ++ [Blk.hole], s.w⟩ ⟨(s.β ++ [Value.nilFunc]).set s.M.length (.slice none 0 0), s.I, (s.M ++ [Blk.hole]).set s.M.length (.arx e sz 0 []), s.w⟩ :=
    tr_new (s := ⟨s.β ++ [Value.nilFunc], s.I, s.M ++ [Blk.hole], s.w⟩) t1.ok (j := s.M.length) hn (.slice none 0 0) (.arx e sz 0 []) s.w (by simp) (fun b hb => by cases hb) (fun b _ => rfl) (fun b hb => by cases hb) (Nat.le_refl _) rfl rfl rfl ⟨[], World.ownsRow_nil s.w 0 e sz, rfl, fun j d v h => by simp at h⟩
  have tt := t1.trans t2
  refine ⟨h0, ⟨(s.β ++ [Value.nilFunc]).set s.M.length (.slice none 0 0), s.I, (s.M ++ [Blk.hole]).set s.M.length (.arx e sz 0 []), s.w⟩, by simp, rfl, h3.trans tt, fun x d hd => ?_, h5, h6.mono h3.ok tt⟩
  rw [lk_cons] at hd
  split at hd
  · rename_i e'
    subst e'
    obtain rfl := Option.some.inj hd
    have := (h4 t _ ht).val_eq
    rw [this]
    exact .arr (by simp [hlen])
  · exact (h4 x d hd).mono h3.ok tt
/-- a nil slice taken over as a row of its own that holds data -/
theorem dwp_adoptx {c : Code} {F : Fr} {M M' : List Blk} {K : Cont} (t : Nat) (e : TypeId) (sz : Nat) {m : Nat} (ht : lk F t = some (.val (.slice none 0 0))) (hm : M.length = m) (hM : M ++ [.arx e sz 0 []] = M') (h : dwp P s0 n c ((t, .arr m) :: F) M' K) : dwp P s0 n c F M K := by
  subst hm hM
  exact fun a w hi => h a w (inv_adoptx e sz hi ht)
theorem inv_give {F : Fr} {M : List Blk} {a : Act} {w : World} {t i : Nat} {e : TypeId} {sz m : Nat} {l : List D} (h : Inv s0 n F M a w) (ht : lk F t = some (.arr i)) (hM : M[i]? = some (.arx e sz m l)) (hnl : D.nlL l = true) : Inv s0 n ((t, .slm sz m l) :: F) (M.set i .gone) a w := by
  obtain ⟨h0, s, rfl, rfl, h3, h4, h5, h6⟩ := h
  have hr := h4 t _ ht
  generalize hv : slot a t = v at hr
  cases hr with
  | @arr _ ad n' c hβ =>
    obtain ⟨vs, hk, q3, q4⟩ := h3.ok.blk i _ _ hM hβ
    rcases hk.2 with ⟨e1, e2⟩ | ⟨g, cap, cur, e1, e2, e3', e4, e5, e6, e7⟩
    · cases e1; subst e2
      have hl0 : l = [] := List.eq_nil_of_length_eq_zero (by rw [← q3, hk.1, Nat.zero_mul])
      have tt : Tr s ⟨s.β, s.I, s.M.set i .gone, s.w⟩ := by
        have hnd : ∀ (i : Nat) h, s.β[i]? = some h → h ≠ .nilFunc → s.β[i]? = some h := fun _ _ h _ => h
        have old : ∀ (j : Nat) k, (s.M.set i .gone)[j]? = some k → k = .gone ∨ s.M[j]? = some k := fun j k hj => by
          by_cases e : i = j
          · subst e
            rw [List.getElem?_set_self (List.getElem?_eq_some_iff.1 hM).1] at hj
            exact .inl (Option.some.inj hj).symm
          · rw [List.getElem?_set_ne e] at hj; exact .inr hj
        have lv : ∀ b, Live ⟨s.β, s.I, s.M.set i .gone, s.w⟩ b → Live s b := by
          rintro b ⟨j, k, h, h1, h2, h3, h4⟩
          rcases old j k h1 with rfl | h1
          · cases h2
          · exact live_of h1 h2 h3 h4
        refine ⟨⟨by simp [h3.ok.len], fun j k h h1 h2 => ?_, fun b hb => h3.ok.lt b (lv b hb), ?_, h3.ok.il⟩, hkeep_of hnd, fun _ h => h, fun _ h => .inl h, fun _ _ _ => rfl, fun b h => .inr (lv b h), rfl, rfl, rfl, Nat.le_refl _⟩
        · rcases old j k h1 with rfl | h1
          · trivial
          · exact BlkOk.mono (s := s) (s' := ⟨s.β, s.I, s.M.set i .gone, s.w⟩) hnd (fun _ h => h) (fun _ _ => rfl) (h3.ok.blk j k h h1 h2) (fun _ _ _ => rfl)
        · intro j j2 k k2 x x2 b a1 a2 a3 a4 c1 c2 c3 c4
          rcases old j k a1 with rfl | a1
          · cases a2
          · rcases old j2 k2 c1 with rfl | c1
            · cases c2
            · exact h3.ok.inj j j2 k k2 x x2 b a1 a2 a3 a4 c1 c2 c3 c4
      refine ⟨h0, ⟨s.β, s.I, s.M.set i .gone, s.w⟩, rfl, rfl, h3.trans tt, fun x d hd => ?_, h5, h6.mono h3.ok tt⟩
      rw [lk_cons] at hd
      split at hd
      · rename_i e'
        subst e'
        obtain rfl := Option.some.inj hd
        rw [hv]
        subst hl0
        exact .slm (vs := []) rfl (by simp) (Nat.le_refl _) (Nat.zero_le _) (fun _ => rfl) rfl (fun j d v h => by simp at h) (.inl rfl)
      · exact (h4 x d hd).mono h3.ok tt
    · cases e1
      have tt := tr_give h3.ok hM rfl hβ rfl s.w (fun _ _ => rfl) rfl rfl rfl rfl
      refine ⟨h0, ⟨s.β, fun b => s.I b ∨ b = g, s.M.set i .gone, s.w⟩, rfl, rfl, h3.trans tt, fun x d hd => ?_, h5, h6.mono h3.ok tt⟩
      rw [lk_cons] at hd
      split at hd
      · rename_i e'
        subst e'
        obtain rfl := Option.some.inj hd
        rw [hv]
        refine .slm (vs := vs) hnl (by rw [← q3]; exact hk.1) e4 e5 (fun e => by cases e) q3 (fun j d v hj hv => (q4 j d v hj hv).mono h3.ok tt) (.inr ⟨g, 0, rfl, .inr rfl, ?_⟩)
        have hc := cellsAt_sub (cellsAt_block e3' 0) 0 (m * sz)
        show cellsAt s.w g 0 vs
        simpa [e7] using hc
      · exact (h4 x d hd).mono h3.ok tt
/-- a row of one's own that holds data without names is given up: it stays from now on -/
theorem dwp_give {c : Code} {F : Fr} {M M' : List Blk} {K : Cont} (t : Nat) {i : Nat} {e : TypeId} {sz m : Nat} {l : List D} (hnl : D.nlL l = true) (ht : lk F t = some (.arr i)) (hM : M[i]? = some (.arx e sz m l)) (hM' : M.set i .gone = M') (h : dwp P s0 n c ((t, .slm sz m l) :: F) M' K) : dwp P s0 n c F M K := by
  subst hM'
  exact fun a w hi => h a w (inv_give hi ht hM hnl)
end
section
variable {P : Program} {pc : Bool} {o : Oper} {F : Fr} {M : List Blk}
end
end Go.Proofs.YtmacjicebemgoaaGreat
namespace Go.Proofs.YtmacjicebemgoaaGreat
set_option linter.unusedVariables false
set_option linter.unusedSimpArgs false
open Go.RowKit
section
variable {P : Program} {s0 : St} {n : Cx}
theorem inv_reb {F : Fr} {M : List Blk} {a : Act} {w : World} {i : Nat} {k k' : Blk} (h : Inv s0 n F M a w) (hM : M[i]? = some k) (hl : k.live = k'.live) (hk : ∀ s h, BlkOk s h k → BlkOk s h k') (hf : k.nf = true := by rfl) (hf' : k'.nf = true := by rfl) : Inv s0 n F (M.set i k') a w := by
  obtain ⟨h0, s, rfl, rfl, h3, h4, h5, h6⟩ := h
  have hnd : ∀ (i : Nat) h, s.β[i]? = some h → h ≠ .nilFunc → s.β[i]? = some h := fun _ _ h _ => h
  have hlt := (List.getElem?_eq_some_iff.1 hM).1
  have old : ∀ (j : Nat) kk, (s.M.set i k')[j]? = some kk → (j = i ∧ kk = k') ∨ s.M[j]? = some kk := fun j kk hj => by
    by_cases e : i = j
    · subst e
      rw [List.getElem?_set_self hlt] at hj
      exact .inl ⟨rfl, (Option.some.inj hj).symm⟩
    · rw [List.getElem?_set_ne e] at hj; exact .inr hj
  have back : ∀ (j : Nat) kk, (s.M.set i k')[j]? = some kk → kk.live = true → ∃ k2, s.M[j]? = some k2 ∧ k2.live = true ∧ ∀ x b, owns kk x b → owns k2 x b := fun j kk hj hlv => by
    rcases old j kk hj with ⟨rfl, rfl⟩ | hj
    · exact ⟨k, hM, by rw [hl]; exact hlv, fun x b h => (owns_nf hf).2 ((owns_nf hf').1 h)⟩
    · exact ⟨kk, hj, hlv, fun _ _ h => h⟩
  have lv : ∀ b, Live ⟨s.β, s.I, s.M.set i k', s.w⟩ b → Live s b := by
    rintro b ⟨j, kk, x, h1, h2, h3, h4⟩
    obtain ⟨k2, g1, g2, g3⟩ := back j kk h1 h2
    exact live_of g1 g2 h3 (g3 _ _ h4)
  have mono : ∀ h kk, BlkOk s h kk → BlkOk ⟨s.β, s.I, s.M.set i k', s.w⟩ h kk := fun h kk hb => BlkOk.mono (s := s) (s' := ⟨s.β, s.I, s.M.set i k', s.w⟩) hnd (fun _ h => h) (fun _ _ => rfl) hb (fun _ _ _ => rfl)
  have tt : Tr s ⟨s.β, s.I, s.M.set i k', s.w⟩ := by
    refine ⟨⟨by simp [h3.ok.len], fun j kk h h1 h2 => ?_, fun b hb => h3.ok.lt b (lv b hb), ?_, h3.ok.il⟩, hkeep_of hnd, fun _ h => h, fun _ h => .inl h, fun _ _ _ => rfl, fun b h => .inr (lv b h), rfl, rfl, rfl, Nat.le_refl _⟩
    · rcases old j kk h1 with ⟨rfl, rfl⟩ | h1
      · exact mono _ _ (hk _ _ (h3.ok.blk _ _ h hM h2))
      · exact mono _ _ (h3.ok.blk j kk h h1 h2)
    · intro j j2 k1 k2 x x2 b a1 a2 a3 a4 c1 c2 c3 c4
      obtain ⟨q1, g1, g2, g5⟩ := back j k1 a1 a2
      obtain ⟨q2, g3, g4, g6⟩ := back j2 k2 c1 c2
      exact h3.ok.inj j j2 q1 q2 x x2 b g1 g2 a3 (g5 _ _ a4) g3 g4 c3 (g6 _ _ c4)
  exact ⟨h0, ⟨s.β, s.I, s.M.set i k', s.w⟩, rfl, rfl, h3.trans tt, fun x d hd => (h4 x d hd).mono h3.ok tt, h5, h6.mono h3.ok tt⟩
/-- a block is read anew -/
theorem dwp_reb {c : Code} {F : Fr} {M M' : List Blk} {K : Cont} (i : Nat) {k k' : Blk} (hk : ∀ s h, BlkOk s h k → BlkOk s h k') (hM : M[i]? = some k) (hl : k.live = k'.live) (hM' : M.set i k' = M') (h : dwp P s0 n c F M' K) (hf : k.nf = true := by rfl) (hf' : k'.nf = true := by rfl) : dwp P s0 n c F M K := by
  subst hM'
  exact fun a w hi => h a w (inv_reb hi hM hl hk hf hf')
theorem reb_mix {T : TypeId} {L : List Value} : ∀ s h, BlkOk s h (.flat T L) → BlkOk s h (.mix T (L.map D.val)) := fun s h hk => by
  obtain ⟨b, e1, e2⟩ := hk
  refine ⟨b, L, e1, e2, by simp, fun j d v h1 h2 => ?_⟩
  rw [List.getElem?_map, h2] at h1
  cases h1
  exact .val v
end
section
variable {P : Program} {pc : Bool} {o : Oper} {F : Fr} {M : List Blk}
/-- a struct with addresses, whole -/
theorem op_ldmw {T T' : TypeId} {x : Operand} {i k : Nat} {l : List D} (ho : o.op = .load T x) (hT : tyB P T = some (true, k)) (hx : Ev pc F x (.loc i 0)) (hM : M[i]? = some (.mix T' l)) (hl : l.length = k) : DOp P pc o F M [i] (.agg l) [] := by
  intro hp a s hok hops hfp
  have hr := ev_at hp hx (by simp [ho, Op.operands]) hops
  generalize hv : a.eval x = vx at hr
  cases hr with
  | @loc _ _ b h =>
    obtain ⟨b', vs, e1, e2, e3, e4⟩ := hok.blk i _ _ (by rw [hfp i (by simp)]; exact hM) h
    cases e1
    have hc : cellsAt s.w b 0 vs := cellsAt_block e2 0
    have hr := cellsAt_range hc 0 vs.length (R := vs) (by simp)
    exact dg_val hok (run_load_row ho hT hv (by simpa using hr) (by omega)) (.agg e3 e4)
theorem rv_mw {p : Tmp} {T T' : TypeId} {i k : Nat} {l : List D} (hT : tyB P T = some (true, k)) (h : lk F p = some (.loc i 0)) (hM : M[i]? = some (.mix T' l)) (hl : l.length = k) : RvD P (.cell p T) F M (.agg l) := fun s a ho hMs hF => by
  have hr := hF p _ h
  generalize hv : slot a p = v at hr
  cases hr with
  | @loc _ _ b hb =>
    obtain ⟨b', vs, e1, e2, e3, e4⟩ := ho.blk i _ _ (by rw [hMs]; exact hM) hb
    cases e1
    obtain ⟨dd, ii, h1, h2, h3, h4⟩ := tyB_spec hT
    refine ⟨.agg vs.toArray, ?_, .agg e3 e4⟩
    have hvx' : a.tmps.getD p undef = .pointer (some ⟨b, 0, none⟩) := hv
    simp only [rv, hvx']
    simp only [asAddr, Sem.run_bind, Sem.run_pure, Result.andThen_ok]
    exact run_loadVar_row s.w b T' T vs.toArray (0, 0) dd e2 h1 (by cases dd <;> simp_all [TypeDesc.isRow]) (by simp [h2, h4, hl, e3])
end
end Go.Proofs.YtmacjicebemgoaaGreat
namespace Go.Proofs.YtmacjicebemgoaaGreat
set_option linter.unusedVariables false
set_option linter.unusedSimpArgs false
open Go.RowKit
/-- the cells of data -/
def D.cs : D → List D
  | .agg l => l
  | .val v => v.cells.toList.map .val
  | d => [d]
/-- what has cells of its own -/
def D.c1 : D → Bool
  | .opt _ _ => false
  | .tup _ => false
  | .junk => false
  | .hnd _ => false
  | _ => true
/-- what stands in one cell -/
def D.oc2 : D → Bool
  | .slf _ _ _ => true
  | .slm _ _ _ => true
  | .arr _ => true
  | .farr _ _ => true
  | .floc _ _ _ => true
  | .fn _ _ _ => true
  | .val u => u.oneCell'
  | _ => false
theorem oc2_one {s : St} {d : D} {v : Value} (h : Rep s d v) (hd : d.oc2 = true) : v.oneCell' = true := by
  cases h with
  | val v => exact hd
  | slf => rfl
  | slm => rfl
  | arr => rfl
  | fn => rfl
  | farr => rfl
  | floc => rfl
  | _ => cases hd
theorem cs_rep {s : St} {d : D} {v : Value} (h : Rep s d v) (hd : d.c1 = true) : Reps s d.cs v.cells.toList := by
  have h0 := h
  cases h with
  | val v =>
    refine ⟨by simp [D.cs], fun j e u h1 h2 => ?_⟩
    simp only [D.cs, List.getElem?_map, h2, Option.map_some] at h1
    cases h1
    exact .val u
  | agg hl h => exact ⟨hl, h⟩
  | opt => cases hd
  | tup => cases hd
  | junk => cases hd
  | hnd => cases hd
  | _ =>
    refine ⟨rfl, fun j e u h1 h2 => ?_⟩
    cases j with
    | zero => simp [D.cs, Value.cells] at h1 h2; subst h1 h2; exact h0
    | succ j => simp [D.cs, Value.cells] at h1
def setD : List D → Nat → List D → List D
  | Z, _, [] => Z
  | Z, p, d :: r => setD (Z.set p d) (p + 1) r
def fillD (offs : List (Nat × Nat)) : List D → List (Nat × List D) → List D
  | Z, [] => Z
  | Z, (i, C) :: r => fillD offs (setD Z ((offs.getD i (0, 0)).1) C) r
def fillBD (offs : List (Nat × Nat)) (n : Nat) : List (Nat × List D) → Bool
  | [] => true
  | (i, C) :: r => (match offs[i]? with | some (o, s) => C.length == s && Nat.ble (o + s) n | none => false) && fillBD offs n r
theorem reps_set {s : St} {Z : List D} {vz : List Value} (h : Reps s Z vz) {d : D} {v : Value} (hd : Rep s d v) (p : Nat) : Reps s (Z.set p d) (vz.set p v) := by
  refine ⟨by simp [h.1], fun j e u h1 h2 => ?_⟩
  by_cases e1 : p = j
  · subst e1
    by_cases hp : p < Z.length
    · rw [List.getElem?_set_self hp] at h1
      rw [List.getElem?_set_self (by rw [h.1]; exact hp)] at h2
      cases h1; cases h2; exact hd
    · rw [List.getElem?_eq_none (by simp; omega)] at h1; cases h1
  · rw [List.getElem?_set_ne e1] at h1 h2
    exact h.2 j e u h1 h2
theorem reps_setD {s : St} : ∀ (C : List D) (vc : List Value) (Z : List D) (vz : List Value) (p : Nat), Reps s C vc → Reps s Z vz → Reps s (setD Z p C) (setL vz p vc)
  | [], [], Z, vz, p, _, hz => by rw [setL_nil]; exact hz
  | d :: C, v :: vc, Z, vz, p, hc, hz => by
    rw [setD, setL]
    exact reps_setD C vc _ _ _ ⟨by simpa using hc.1, fun j e u h1 h2 => hc.2 (j + 1) e u (by simpa using h1) (by simpa using h2)⟩ (reps_set hz (hc.2 0 d v rfl rfl) p)
  | [], v :: vc, _, _, _, hc, _ => by have := hc.1; simp at this
  | d :: C, [], _, _, _, hc, _ => by have := hc.1; simp at this
theorem reps_fill {s : St} (offs : List (Nat × Nat)) (n : Nat) : ∀ (is : List Nat) (Cs : List (List D)) (vs : List (List Value)) (Z : List D) (vz : List Value), (∀ (j : Nat) C v, Cs[j]? = some C → vs[j]? = some v → Reps s C v) → Cs.length = vs.length → Reps s Z vz → fillBD offs n (is.zip Cs) = true →
    Reps s (fillD offs Z (is.zip Cs)) (fillL offs vz (is.zip vs)) ∧ fillB offs n (is.zip vs) = true
  | [], Cs, vs, Z, vz, _, _, hz, _ => by simpa [fillD, fillL, fillB] using hz
  | i :: is, [], vs, Z, vz, _, hl, hz, _ => by
    have : vs = [] := by cases vs with | nil => rfl | cons => simp at hl
    subst this
    simpa [fillD, fillL, fillB] using hz
  | i :: is, C :: Cs, [], Z, vz, _, hl, _, _ => by simp at hl
  | i :: is, C :: Cs, v :: vs, Z, vz, hc, hl, hz, hb => by
    simp only [List.zip_cons_cons, fillBD, Bool.and_eq_true] at hb
    simp only [List.zip_cons_cons, fillD, fillL, fillB, Bool.and_eq_true]
    have h0 := hc 0 C v rfl rfl
    obtain ⟨r1, r2⟩ := reps_fill offs n is Cs vs _ _ (fun j C v h1 h2 => hc (j + 1) C v (by simpa using h1) (by simpa using h2)) (by simpa using hl) (reps_setD C v Z vz _ h0 hz) hb.2
    refine ⟨r1, ?_, r2⟩
    rw [h0.1]
    exact hb.1
theorem reps_vals {s : St} (L : List Value) : Reps s (L.map .val) L := by
  refine ⟨by simp, fun j e u h1 h2 => ?_⟩
  rw [List.getElem?_map, h2] at h1
  cases h1
  exact .val u
theorem reps_app3 {s : St} {d1 d2 : List D} {v1 v2 : List Value} (h1 : Reps s d1 v1) (h2 : Reps s d2 v2) : Reps s (d1 ++ d2) (v1 ++ v2) := by
  refine ⟨by simp [h1.1, h2.1], fun j d v hd hv => ?_⟩
  by_cases hj : j < d1.length
  · rw [List.getElem?_append_left hj] at hd
    rw [List.getElem?_append_left (by rw [h1.1]; exact hj)] at hv
    exact h1.2 j d v hd hv
  · rw [List.getElem?_append_right (by omega)] at hd
    rw [List.getElem?_append_right (by rw [h1.1]; omega), h1.1] at hv
    exact h2.2 _ d v hd hv
theorem reps_cs {s : St} : ∀ (ds : List D) (vs : List Value), Reps s ds vs → ds.all D.c1 = true → Reps s (ds.flatMap D.cs) (vs.flatMap fun v => v.cells.toList)
  | [], [], _, _ => ⟨rfl, fun j e u h1 h2 => by simp at h1⟩
  | d :: ds, v :: vs, h, hc => by
    rw [List.all_cons, Bool.and_eq_true] at hc
    rw [List.flatMap_cons, List.flatMap_cons]
    exact reps_app3 (cs_rep (h.2 0 d v rfl rfl) hc.1) (reps_cs ds vs ⟨by simpa using h.1, fun j e u h1 h2 => h.2 (j + 1) e u (by simpa using h1) (by simpa using h2)⟩ hc.2)
  | [], v :: vs, h, _ => by have := h.1; simp at this
  | d :: ds, [], h, _ => by have := h.1; simp at this
section
variable {P : Program} {pc : Bool} {o : Oper} {F : Fr} {M : List Blk}
theorem op_bldD {T : TypeId} {ps : List (Nat × Operand)} {ds R : List D} {offs : List (Nat × Nat)} {Z : List Value} (ho : o.op = .build T ps.toArray) (hT : fdL P T = some offs) (hZ : zrC P T = some Z) (hv : EvL pc F (ps.map (·.2)) ds) (hc : ds.all D.c1 = true)
    (hB : fillBD offs Z.length ((ps.map (·.1)).zip (ds.map D.cs)) = true) (hR : fillD offs (Z.map .val) ((ps.map (·.1)).zip (ds.map D.cs)) = R) : DOp P pc o F M [] (.agg R) [] := by
  intro hp a s hok hops _
  obtain ⟨r1, r2⟩ := evL_reps (a := a) (s := s) hp _ _ hv (fun x hx => hops x (by rw [ho]; simpa [Op.operands] using hx))
  have hf := reps_fill (s := s) offs Z.length (ps.map (·.1)) (ds.map D.cs) (((ps.map (·.2)).map a.eval).map fun v => v.cells.toList) (Z.map .val) Z (fun j C v h1 h2 => by
      rw [List.getElem?_map] at h1 h2
      simp only [Option.map_eq_some_iff] at h1 h2
      obtain ⟨d, h1, rfl⟩ := h1
      obtain ⟨u, h2, rfl⟩ := h2
      exact cs_rep (r2 j d u h1 h2) (List.all_eq_true.1 hc _ (List.mem_of_getElem? h1))) (by rw [List.length_map, List.length_map]; exact r1.symm) (reps_vals Z) hB
  rw [hR] at hf
  exact dg_val hok (run_build (P := P) (a := a) (w := s.w) ho hT hZ rfl hf.2 rfl) (.agg hf.1.1 hf.1.2)
/-- an array of listed parts -/
theorem op_bldaD {T : TypeId} {ps : List (Nat × Operand)} {ds R : List D} {q : Nat × Nat} {Z : List Value} (ho : o.op = .build T ps.toArray) (hT : arE P T = some q) (hZ : zrC P T = some Z) (hv : EvL pc F (ps.map (·.2)) ds) (hc : ds.all D.c1 = true) (hi : (ps.map (·.1)).all (fun i => Nat.blt i q.1) = true)
    (hB : fillBD ((List.range q.1).map fun i => (i * q.2, q.2)) Z.length ((ps.map (·.1)).zip (ds.map D.cs)) = true) (hR : fillD ((List.range q.1).map fun i => (i * q.2, q.2)) (Z.map .val) ((ps.map (·.1)).zip (ds.map D.cs)) = R) : DOp P pc o F M [] (.agg R) [] := by
  intro hp a s hok hops _
  obtain ⟨r1, r2⟩ := evL_reps (a := a) (s := s) hp _ _ hv (fun x hx => hops x (by rw [ho]; simpa [Op.operands] using hx))
  obtain ⟨i, z, e1, e2, e3⟩ := zrC_spec hZ
  obtain ⟨el, i', g1, g2, g3⟩ := arE_spec (n := q.1) (sz := q.2) hT
  have hf := reps_fill (s := s) ((List.range q.1).map fun i => (i * q.2, q.2)) Z.length (ps.map (·.1)) (ds.map D.cs) (((ps.map (·.2)).map a.eval).map fun v => v.cells.toList) (Z.map .val) Z (fun j C v h1 h2 => by
      rw [List.getElem?_map] at h1 h2
      simp only [Option.map_eq_some_iff] at h1 h2
      obtain ⟨d, h1, rfl⟩ := h1
      obtain ⟨u, h2, rfl⟩ := h2
      exact cs_rep (r2 j d u h1 h2) (List.all_eq_true.1 hc _ (List.mem_of_getElem? h1))) (by rw [List.length_map, List.length_map]; exact r1.symm) (reps_vals Z) hB
  rw [hR] at hf
  obtain ⟨vs, hvs⟩ : ∃ vs, vs = (ps.map (·.2)).map a.eval := ⟨_, rfl⟩
  rw [← hvs] at hf
  obtain ⟨W, hW⟩ : ∃ W, fillL ((List.range q.1).map fun i => (i * q.2, q.2)) Z ((ps.map (·.1)).zip (vs.map fun v => v.cells.toList)) = W := ⟨_, rfl⟩
  rw [hW] at hf
  refine dg_val (v := .agg W.toArray) hok ?_ (.agg hf.1.1 hf.1.2)
  have hparts : (ps.toArray.map fun (i, x) => (i, a.eval x)).toList = (ps.map (·.1)).zip vs := by
    rw [hvs]
    simp only [List.map_toArray]
    clear hv hB hR hvs ho hi hf hW r1 r2
    induction ps with
    | nil => rfl
    | cons p ps ih => simp only [List.map_cons, List.zip_cons_cons]; rw [← ih]
  have hz : ((ps.map (·.1)).zip vs).map (fun p => (p.1, p.2.cells.toList)) = (ps.map (·.1)).zip (vs.map fun v => v.cells.toList) := by
    rw [List.zip_map_right]
    rfl
  have hf2 := fill_struct (offs := (List.range q.1).map fun i => (i * q.2, q.2)) ((ps.map (·.1)).zip vs) z.cells (by rw [hz, ← Array.length_toList, e3]; exact hf.2)
  rw [hz, e3, hW] at hf2
  have hcg : Instr.fill (fun i => some (i * i'.size, i'.size)) z.cells ((ps.map (·.1)).zip vs) = some W.toArray := by
    rw [← hf2]
    refine fill_congr _ _ fun x hx => ?_
    have hm : x.1 ∈ ps.map (·.1) := (List.of_mem_zip (show (x.1, x.2) ∈ _ from hx)).1
    have := Nat.blt_eq.mp (List.all_eq_true.1 hi _ hm)
    rw [g3]
    simp [this]
  unfold execOp
  simp only [ho]
  refine run_v ?_
  have hz0 : (zeroValue T).run P s.w = .ok z s.w := by simp [zeroValue, typeInfo, e1, e2]
  simp only [Instr.build, Sem.run_bind, hz0, run_underlying g1, Result.andThen_ok, sizeOf, typeInfo, hparts]
  simp [g2, hcg]
/-- a slice of structs of data, that stays as it is made -/
theorem op_bsr {T e : TypeId} {n sz by' : Nat} {ps : List (Nat × Operand)} {ds R : List D} {Z : List Value} (ho : o.op = .buildSlice T n ps.toArray) (hT : slE P T = some (e, sz, by')) (hZ : zrC P e = some Z) (hi : ps.map (·.1) = List.range' 0 n) (hv : EvL pc F (ps.map (·.2)) ds) (hc : ds.all D.c1 = true) (hs : ds.all (fun d => d.cs.length == sz) = true)
    (hR : ds.flatMap D.cs = R) (hnl : D.nlL R = true) (hl : R.length = n * sz) (hn : n ≤ 16777216) (hn2 : n * sz ≤ 16777216) : DOp P pc o F M [] (.slm sz n R) [] := by
  intro hp a s hok hops _
  have hr := evL_reps (a := a) (s := s) hp _ _ hv (fun x hx => hops x (by rw [ho]; simpa [Op.operands] using hx))
  obtain ⟨vs, hvs⟩ : ∃ vs, vs = (ps.map (·.2)).map a.eval := ⟨_, rfl⟩
  rw [← hvs] at hr
  have hcs := reps_cs ds vs hr hc
  rw [hR] at hcs
  have hcell : ∀ v ∈ vs, v.cells.size = sz := fun v hv' => by
    obtain ⟨j, hj, rfl⟩ := List.getElem_of_mem hv'
    have hj2 : j < ds.length := by have := hr.1; omega
    have h1 := (cs_rep (hr.2 j _ _ (List.getElem?_eq_getElem hj2) (List.getElem?_eq_getElem hj)) (List.all_eq_true.1 hc _ (List.getElem_mem hj2))).1
    have h2 := List.all_eq_true.1 hs _ (List.getElem_mem hj2)
    simp only [beq_iff_eq] at h2
    rw [h2] at h1
    simpa using h1
  have hrun := run_buildSlice (P := P) (w := s.w) ho hT hZ hi hvs.symm hcell hn2
  have ht := step_imm hok (.cells (vs.flatMap fun v => v.cells.toList).toArray e)
  refine dg_step (s' := ⟨s.β, fun b => s.I b ∨ b = s.w.heap.size, s.M, _⟩) hrun ht rfl (.slm hnl hl (Nat.le_refl _) (by unfold maxLen; omega) (fun e => by cases e) hcs.1 (fun j d v h1 h2 => (hcs.2 j d v h1 h2).mono hok ht) (.inr ⟨_, 0, rfl, .inr rfl, ?_⟩))
  simpa using cellsAt_block (heap_alloc_new s.w _) 0
/-- an element of a slice of structs -/
theorem op_ixmd {T e : TypeId} {x y : Operand} {k : IntKind} {z : Int} {n sz by' : Nat} {ds R : List D} (j : Nat) (hpos : 0 < sz) (ho : o.op = .indexAddr T x y) (hT : slE P T = some (e, sz, by')) (hx : Ev pc F x (.slm sz n ds)) (hy : Ev pc F y (.val (.int k z))) (hz : pc = true → z = (j : Int)) (hj : pc = true → j < n) (hR : (ds.drop (j * sz)).take sz = R) : DOp P pc o F M [] (.dpm R) [] := by
  intro hp a s hok hops _
  have hr := ev_at hp hx (by simp [ho, Op.operands]) hops
  have h2 := (ev_at hp hy (by simp [ho, Op.operands]) hops).val_eq
  have hj := hj hp
  rw [hz hp] at h2
  generalize hv : a.eval x = vx at hr
  cases hr with
  | @slm _ _ cap ad _ vs hnl hl hn hc ha hvl h hm =>
    rcases hm with hm | ⟨b, q, rfl, hI, hcl⟩
    · rw [hm] at hl
      have : 0 < n * sz := Nat.mul_pos (by omega) hpos
      simp at hl
      omega
    · have hrun := run_index_sl (P := P) (w := s.w) ho hT hv h2 (by omega) (by omega)
      rw [Addr.add_mid, Int.toNat_natCast] at hrun
      subst hR
      refine dg_val hok hrun (.dpm (vs := (vs.drop (j * sz)).take sz) (nlL_take _ (nlL_drop _ hnl)) hI (cellsAt_sub hcl _ _) (by rw [List.length_take, List.length_drop, List.length_take, List.length_drop, hvl]) (fun i d' v h1 h2 => ?_))
      rw [List.getElem?_take] at h1 h2
      split at h1
      · rename_i hi
        rw [if_pos hi] at h2
        rw [List.getElem?_drop] at h1 h2
        exact h _ d' v h1 h2
      · cases h1
theorem op_ixmr {α : Type} {mk : α → List D} {l : List α} {T e : TypeId} {x y : Operand} {k : IntKind} {z : Int} {sz by' : Nat} (j : Nat) (hpos : 0 < sz) (ho : o.op = .indexAddr T x y) (hT : slE P T = some (e, sz, by')) (hx : Ev pc F x (.slm sz l.length (l.flatMap mk))) (hy : Ev pc F y (.val (.int k z))) (hz : pc = true → z = (j : Int)) (hj : j < l.length) (hmk : ∀ a, (mk a).length = sz) : DOp P pc o F M [] (.dpm (mk l[j])) [] :=
  op_ixmd j hpos ho hT hx hy hz (fun _ => hj) (by rw [flatM_drop hmk, List.drop_eq_getElem_cons hj, List.flatMap_cons, List.take_left' (hmk _)])
/-- a struct, whole, in memory that stays -/
theorem op_lddr {T : TypeId} {x : Operand} {k : Nat} {ld R : List D} (ho : o.op = .load T x) (hT : tyB P T = some (true, k)) (hx : Ev pc F x (.dpm ld)) (hR : ld.take k = R) (hl : R.length = k) : DOp P pc o F M [] (.agg R) [] := by
  intro hp a s hok hops hfp
  have hr := ev_at hp hx (by simp [ho, Op.operands]) hops
  generalize hv : a.eval x = vx at hr
  cases hr with
  | @dpm b q _ vs hnl hI hc hvl h =>
    subst hR
    have hr := cellsAt_range hc 0 k (R := vs.take k) (by simp)
    have hlv : (vs.take k).length = k := by rw [List.length_take] at hl ⊢; omega
    refine dg_val hok (run_load_row ho hT hv (by simpa using hr) hlv) (.agg (by rw [hlv, hl]) (fun j d v h1 h2 => ?_))
    rw [List.getElem?_take] at h1 h2
    split at h1
    · rename_i hi
      rw [if_pos hi] at h2
      exact h j d v h1 h2
    · cases h1
/-- append onto a row of one's own that holds structs of data -/
theorem op_appr {T e : TypeId} {by' sz n m i j : Nat} {x y : Operand} {l l2 : List D} {Z : List Value} (ho : o.op = .call { callee := .builtin .append, args := #[x, y], argTypes := #[T, T] }) (hT : slE P T = some (e, sz, by')) (hZ : zrC P e = some Z) (hZl : Z.length = sz)
    (hx : Ev pc F x (.arr i)) (hy : Ev pc F y (.slm sz m l2)) (hM : M[i]? = some (.arx e sz n l)) (hj : M[j]? = some .hole) (h1 : l2.all D.oc2 = true) (hbd : pc = true → (n + m) * by' ≤ 140737488355328 ∧ n + m ≤ 140737488355328) :
    DOp P pc o F M [i, j] (.arr j) [(i, .gone), (j, .arx e sz (n + m) (l ++ l2))] := by
  intro hp a s hok hops hfp
  obtain ⟨e1, ti, e2, e3, e4⟩ := slE_spec hT
  obtain ⟨ti', z, q1, q2, q3⟩ := zrC_spec hZ
  rw [e2] at q1
  obtain rfl := Option.some.inj q1
  obtain ⟨b1, b2⟩ := hbd hp
  have hM' : s.M[i]? = some (.arx e sz n l) := by rw [hfp i (by simp)]; exact hM
  have hj' : s.M[j]? = some .hole := by rw [hfp j (by simp)]; exact hj
  have hij : i ≠ j := fun h => by subst h; rw [hM'] at hj'; cases hj'
  have hjl : j < s.β.length := by rw [hok.len]; exact (List.getElem?_eq_some_iff.1 hj').1
  have hrx := ev_at hp hx (by simp [ho, Op.operands, Call.operands]) hops
  have hry := ev_at hp hy (by simp [ho, Op.operands, Call.operands]) hops
  generalize hv : a.eval x = vx at hrx
  generalize hvy : a.eval y = vy at hry
  cases hry with
  | @slm _ _ cap2 a2 _ vs2 hnl2 hl2 hn2 hc2 ha2 hvl2 hel2 hm2 =>
  have hso : SrcOk s (.slice a2 m cap2) m vs2 := by
    refine ⟨a2, cap2, rfl, ?_⟩
    cases a2 with
    | none =>
      have := ha2 rfl
      exact .inl ⟨rfl, by omega, this, List.eq_nil_of_length_eq_zero (by rw [hvl2, hl2, show m = 0 by omega, Nat.zero_mul])⟩
    | some ad =>
      refine .inr ⟨ad, rfl, fun k u hk => ?_⟩
      rcases hm2 with e | ⟨b, q, e, hI, hcl⟩
      · rw [e] at hvl2
        rw [List.eq_nil_of_length_eq_zero hvl2] at hk
        simp at hk
      · cases e
        rw [Addr.add_mid]
        exact hcl k u hk
  have hone : ∀ u ∈ vs2, u.oneCell' = true := fun u hu => by
    obtain ⟨k, hk, rfl⟩ := List.getElem_of_mem hu
    have hk2 : k < l2.length := by omega
    exact oc2_one (hel2 k _ _ (List.getElem?_eq_getElem hk2) (List.getElem?_eq_getElem hk)) (List.all_eq_true.1 h1 _ (List.getElem_mem hk2))
  cases hrx with
  | @arr _ ad n' c hβ =>
    obtain ⟨vs, hk, hvl, hel⟩ := hok.blk i _ _ hM' hβ
    obtain ⟨h', w', r1, r2, r3, r4⟩ := run_append_D (P := P) (ty := o.type) (m := m) e1 e2 e3 e4 q2 (by rw [← hZl, ← q3]; simp) hk (by rw [hvl2]; exact hl2) hso hone (by unfold maxLen; omega) b1
    have hs' : (h' = .slice none 0 0) ∨ ∃ a n c, h' = .slice (some a) n c := by
      rcases r2.2 with ⟨q, _⟩ | ⟨g, cap, cur, q, _⟩
      · exact .inl q
      · exact .inr ⟨_, _, _, q⟩
    have hs0 : (Value.slice ad n' c = .slice none 0 0) ∨ ∃ a n k, Value.slice ad n' c = .slice (some a) n k := by
      rcases hk.2 with ⟨q, _⟩ | ⟨g, cap, cur, q, _⟩
      · exact .inl q
      · exact .inr ⟨_, _, _, q⟩
    have o1 := hb_own hs'
    have o0 := hb_own hs0
    have hblk : s.w.heap.size ≤ w'.heap.size := r3.size
    have hβj : s.β[j]? = some .nilFunc := by
      have q : s.β[j]? = some s.β[j] := List.getElem?_eq_getElem hjl
      have : s.β[j] = .nilFunc := hok.blk j .hole _ hj' q
      rw [q, this]
    have from_ : ∀ b, hb h' = some b → s.w.heap.size ≤ b ∨ (hb (Value.slice ad n' c) = some b) := by
      intro b hbb
      rw [o1] at hbb
      rcases r4 b hbb with h | h
      · exact .inr (by rw [o0]; exact h)
      · exact .inl h
    have hnd' : ∀ (k : Nat) h, s.β[k]? = some h → h ≠ .nilFunc → (s.β.set j h')[k]? = some h := fun k h hk' hne => by
      by_cases e : j = k
      · subst e; rw [hβj] at hk'; exact absurd (Option.some.inj hk').symm hne
      · rw [List.getElem?_set_ne e]; exact hk'
    have imm' : ∀ b, s.I b → w'.heap[b]? = s.w.heap[b]? := fun b hI => r3.block b (hok.il b hI) fun h => by
      rw [← o0] at h
      exact (hok.lt b (live_of hM' rfl hβ h.symm)).2 hI
    have hblkx : BlkOk ⟨s.β.set j h', s.I, (s.M.set i .gone).set j (.arx e sz (n + m) (l ++ l2)), w'⟩ h' (.arx e sz (n + m) (l ++ l2)) := by
      refine ⟨vs ++ vs2, r2, by simp [hvl, hvl2], fun k d v hk1 hk2 => ?_⟩
      by_cases hlt : k < l.length
      · rw [List.getElem?_append_left hlt] at hk1
        rw [List.getElem?_append_left (by omega)] at hk2
        exact Rep.mono' (s' := ⟨s.β.set j h', s.I, (s.M.set i .gone).set j (.arx e sz (n + m) (l ++ l2)), w'⟩) hnd' (fun _ h => h) imm' (hel k d v hk1 hk2)
      · rw [List.getElem?_append_right (by omega)] at hk1 hk2
        rw [hvl] at hk2
        exact Rep.mono' (s' := ⟨s.β.set j h', s.I, (s.M.set i .gone).set j (.arx e sz (n + m) (l ++ l2)), w'⟩) hnd' (fun _ h => h) imm' (hel2 _ d v hk1 hk2)
    have ht : Tr s ⟨s.β.set j h', s.I, (s.M.set i .gone).set j (.arx e sz (n + m) (l ++ l2)), w'⟩ := by
      refine step_set hok j (s.M.set i .gone) h' _ w' (by simp) (fun k kb hkb => ?_) (by rw [← hok.len]; exact hjl) (.inl hβj) (by rcases hs' with rfl | ⟨_, _, _, rfl⟩ <;> simp) hblkx (fun b hbb k kb hh hne q1 q2 q3 q4 => ?_) (fun b hbb => (from_ b hbb).imp id fun h => live_of hM' rfl hβ h) (fun b hbb => ?_) (fun b => hb (Value.slice ad n' c) = some b) (fun b hdr => ⟨live_of hM' rfl hβ hdr, fun k kb hh hne q1 q2 q3 q4 => ?_⟩) (fun b hlt hne hnd => ?_) r3.os r3.tape r3.output hblk
      · by_cases hki : i = k
        · subst hki
          have hlt : i < s.M.length := (List.getElem?_eq_some_iff.1 hM').1
          rw [List.getElem?_set_self hlt] at hkb
          exact .inr (Option.some.inj hkb).symm
        · rw [List.getElem?_set_ne hki] at hkb; exact .inl hkb
      · have hki : i ≠ k := fun h => by
          subst h
          have hlt : i < s.M.length := (List.getElem?_eq_some_iff.1 hM').1
          rw [List.getElem?_set_self hlt] at q1
          cases q1; cases q2
        rw [List.getElem?_set_ne hki] at q1
        rcases from_ b hbb with h | h
        · exact absurd (hok.lt b (live_of q1 q2 q3 q4)).1 (Nat.not_lt.2 h)
        · exact hki (hok.inj i k _ kb _ hh b hM' rfl hβ h q1 q2 q3 q4)
      · replace hbb : hb h' = some b := hbb
        rw [o1] at hbb
        exact (r2.lt b hbb).2
      · have hki : i ≠ k := fun h => by
          subst h
          have hlt : i < s.M.length := (List.getElem?_eq_some_iff.1 hM').1
          rw [List.getElem?_set_self hlt] at q1
          cases q1; cases q2
        rw [List.getElem?_set_ne hki] at q1
        exact hki (hok.inj i k _ kb _ hh b hM' rfl hβ hdr q1 q2 q3 q4)
      · exact r3.block b hlt fun h => hnd (by rw [o0]; exact h.symm)
    refine dg_step (s' := ⟨s.β.set j h', s.I, (s.M.set i .gone).set j (.arx e sz (n + m) (l ++ l2)), w'⟩) (run_builtin ho (fun cs => by rfl) (by simpa [hv, hvy] using r1)) ht rfl ?_
    rcases hs' with rfl | ⟨_, _, _, rfl⟩
    · exact .arr (by simp [hjl])
    · exact .arr (by simp [hjl])
end
section
variable {P : Program} {s0 : St} {n : Cx}
end
mutual
/-- data that names no block is the same everywhere -/
theorem vw_nl (σ : List Nat) (V : Nat → Bool) (M : List Blk) : ∀ d : D, d.nl = true → vw σ V M d = some d
  | .val v, _ => rfl
  | .loc i o, h => by cases h
  | .arr i, h => by cases h
  | .aloc i o, h => by cases h
  | .own i sz o n, h => by cases h
  | .dpf L, _ => rfl
  | .slf sz n L, _ => rfl
  | .slc sz n L, _ => rfl
  | .tup l, h => by rw [vw, vwL_nl σ V M l (by simpa [D.nl] using h)]; rfl
  | .agg l, h => by rw [vw, vwL_nl σ V M l (by simpa [D.nl] using h)]; rfl
  | .dpm l, _ => rfl
  | .slm sz n l, _ => rfl
  | .fn f a b, h => by
    rw [D.nl, Bool.and_eq_true] at h
    rw [vw, vwL_nl σ V M a h.1, vwL_nl σ V M b h.2]
  | .ifc t d, h => by rw [vw, vw_nl σ V M d (by simpa [D.nl] using h)]; rfl
  | .opt b d, h => by rw [vw, vw_nl σ V M d (by simpa [D.nl] using h)]; rfl
  | .hnd i, h => by cases h
  | .yld i, h => by cases h
  | .junk, _ => rfl
theorem vwL_nl (σ : List Nat) (V : Nat → Bool) (M : List Blk) : ∀ l : List D, D.nlL l = true → vwL σ V M l = some l
  | [], _ => rfl
  | d :: l, h => by
    rw [D.nlL, Bool.and_eq_true] at h
    rw [vwL, vw_nl σ V M d h.1, vwL_nl σ V M l h.2]
end
theorem arxr_fits {σ : List Nat} {V : Nat → Bool} {M : List Blk} {T : TypeId} {sz n n' : Nat} {l l' : List D} (hn : n = n') (h : l = l') (hv : D.nlL l' = true) : (vwL σ V M l).map (Blk.arx T sz n) = some (Blk.arx T sz n' l') := by
  subst hn h
  rw [vwL_nl σ V M l hv]
  rfl
section
variable {P : Program} {pc : Bool} {o : Oper} {F : Fr} {M : List Blk} {T : TypeId} {x y : Operand} {n : Nat} {k : IntKind} {z : Int} {j : Nat}
/-- an array whose elements have one cell -/
def arW (P : Program) (T : TypeId) : Option Nat := match P.underlying T with
  | some (.array n e) => match tyB P e with
    | some (false, 1) => some n
    | _ => none
  | _ => none
theorem arW_spec (h : arW P T = some n) : ∃ e, P.underlying T = some (.array n e) ∧ tyB P e = some (false, 1) := by
  unfold arW at h
  split at h
  · rename_i m e hu
    split at h
    · rename_i hs; cases h; exact ⟨e, hu, hs⟩
    · cases h
  · cases h
theorem op_ixw {ds : List D} {d : D} (j : Nat) (ho : o.op = .index T x y) (hT : arW P T = some n) (hx : Ev pc F x (.agg ds)) (hy : Ev pc F y (.val (.int k z))) (hz : pc = true → z = (j : Int)) (hj : j < n) (hd : ds[j]? = some d) : DOp P pc o F M [] d [] := by
  intro hp a s hok hops _
  have hr := ev_at hp hx (by simp [ho, Op.operands]) hops
  have e2 := (ev_at hp hy (by simp [ho, Op.operands]) hops).val_eq
  rw [hz hp] at e2
  obtain ⟨e, hu, he⟩ := arW_spec hT
  obtain ⟨dd, i, h1, h2, h3, h4⟩ := tyB_spec he
  generalize hv : a.eval x = vx at hr
  cases hr with
  | @agg _ vs hvl hel =>
    have hjl : j < vs.length := by rw [hvl]; exact (List.getElem?_eq_some_iff.1 hd).1
    refine dg_val (v := vs[j]) hok ?_ (hel j _ _ hd (List.getElem?_eq_getElem hjl))
    unfold execOp
    simp only [ho, hv, e2]
    refine run_v ?_
    have hagg : (isAgg e).run P s.w = .ok false s.w := by
      unfold isAgg
      rw [Sem.run_bind, run_underlying h1]
      cases dd <;> first | rfl | cases h3
    have hsz : (sizeOf e).run P s.w = .ok 1 s.w := by simp [sizeOf, typeInfo, h2, h4]
    have hb : (0 : Int) ≤ (j : Int) ∧ (j : Int) < (n : Int) := by omega
    unfold Instr.index
    simp only [Sem.run_bind, asIntOf, Sem.run_pure, Result.andThen_ok, run_underlying hu, hb, and_self, if_true, hsz, part, hagg, Int.toNat_natCast, Nat.mul_one]
    simp [hjl]
end
end Go.Proofs.YtmacjicebemgoaaGreat
namespace Go.Proofs.YtmacjicebemgoaaGreat
set_option linter.unusedVariables false
set_option linter.unusedSimpArgs false
open Go.ChangeShapes Go.WideShapes Go.ChangeAt Go.RowKit Go.Joins Go.Deep
/-- fields that read as data, from cell o on -/
def OpensF (P : Program) (w : World) {α : Type} (fs : List Field) (o tot : Nat) (mk : α → List D) (ok : α → Prop) : Prop :=
  ∀ (H : Type) (enc : TypeId × Value → H) (base : Nat) (spare : Nat → Bool) (held : Bool) (n : Nat) (cs : List Value), cs.length = tot → (∀ f, f ∈ fs → ∃ x, DataW.trod enc P w base spare held n f.type ((cs.drop f.offset).take (P.cellsOf f.type)) = some x) → ∃ a, ok a ∧ Reps (st0 w) (mk a) (cs.drop o)
section
variable {P : Program} {w : World}
theorem opensF_nil {tot : Nat} : OpensF P w ([] : List Field) tot tot (fun _ : Unit => []) (fun _ => True) := fun H enc base spare held n cs hl _ =>
  ⟨(), trivial, by rw [List.drop_eq_nil_of_le (by omega)]; exact ⟨rfl, fun j d v h => by simp at h⟩⟩
theorem opensF_cons {α β : Type} {f : Field} {fs : List Field} {o k tot : Nat} {mk : α → List D} {mk' : β → List D} {ok : α → Prop} {ok' : β → Prop} (ho : f.offset = o) (hk : P.cellsOf f.type = k) (h : Opens P w f.type mk ok) (h' : OpensF P w fs (o + k) tot mk' ok') :
    OpensF P w (f :: fs) o tot (fun a : α × β => mk a.1 ++ mk' a.2) (fun a => ok a.1 ∧ ok' a.2) := by
  intro H enc base spare held n cs hl hall
  obtain ⟨x, hx⟩ := hall f (List.mem_cons_self ..)
  rw [ho, hk] at hx
  obtain ⟨a, h1, h2⟩ := h H enc base spare held n _ x hx
  obtain ⟨b, h3, h4⟩ := h' H enc base spare held n cs hl fun g hg => hall g (List.mem_cons_of_mem _ hg)
  refine ⟨(a, b), ⟨h1, h3⟩, ?_⟩
  have e : cs.drop o = (cs.drop o).take k ++ cs.drop (o + k) := by rw [← List.drop_drop, List.take_append_drop]
  rw [e]
  exact reps_app2 h2 h4
theorem opens_struct {α : Type} {t : TypeId} {fs : Array Field} {tot : Nat} {mk : α → List D} {ok : α → Prop} (hu : P.underlying t = some (.struct fs)) (ht : P.cellsOf t = tot) (h : OpensF P w fs.toList 0 tot mk ok) : Opens P w t mk ok := by
  intro H enc base spare held n cs x hx
  obtain ⟨xs, m, _, _, hl, hlen, hf⟩ := DataW.trod_struct hu hx
  obtain ⟨a, h1, h2⟩ := h H enc base spare held m cs (by rw [hl, ht]) fun f hfm => by
    obtain ⟨i, hi, rfl⟩ := List.getElem_of_mem hfm
    have hi' : i < fs.size := by simpa using hi
    have h3 := hf i fs[i] (Array.getElem?_eq_getElem hi')
    rw [List.getElem?_eq_getElem (by omega)] at h3
    exact ⟨_, by simpa using h3⟩
  exact ⟨a, h1, by simpa using h2⟩
theorem opens_map {α β : Type} {t : TypeId} {mk : α → List D} {ok : α → Prop} {mk' : β → List D} {ok' : β → Prop} (g : α → β) (h : Opens P w t mk ok) (hm : ∀ a, mk a = mk' (g a)) (ho : ∀ a, ok a → ok' (g a)) : Opens P w t mk' ok' := by
  intro H enc base spare held n cs x hx
  obtain ⟨a, h1, h2⟩ := h H enc base spare held n cs x hx
  exact ⟨g a, ho a h1, by rw [← hm]; exact h2⟩
end
set_option maxRecDepth 100000
end Go.Proofs.YtmacjicebemgoaaGreat
namespace Go.Proofs.YtmacjicebemgoaaGreat
set_option linter.unusedVariables false
set_option linter.unusedSimpArgs false
open Go.RowKit
/-- all behind the one that panics stand behind it, all ahead of it ahead -/
def drawOkP (n : Nat) (lf : List Oper) (m : Nat) (fps : List (List Nat × List Nat)) : Bool :=
  let bs := befL lf []
  fps.length == m && Nat.blt m lf.length && ((List.range lf.length).all fun j => match lf[j]? with
    | some oj => oj.after.all (fun e => !Region.binds .any e || Nat.blt e.on j) && (Nat.ble j m || (bs.getD j 0).testBit m)
    | none => false) && ((List.range m).all fun i => (bs.getD m 0).testBit i) && (List.range m).all fun j =>
    match lf[j]?, fps[j]? with
    | some oj, some fj => dstB n oj.dst && noDef oj.op && fj.2.all (fun x => fj.1.contains x) && (List.range j).all fun i =>
      match lf[i]?, fps[i]? with
      | some oi, some fi => pairOk lf.toArray (bs.getD j 0) i oi oj fi fj
      | _, _ => false
    | _, _ => false
/-- **A region that draws its order, and panics.** -/
theorem dwp_drawP {P : Program} {s0 : St} {n : Cx} {id : Nat} {lf : List Oper} {op : Oper} {F : Fr} {M : List Blk} {K : Cont} (m : Nat) (fps : List (List Nat × List Nat)) (hm : P.follows .mixedOrders = true) (hB : drawOkP n.n lf m fps = true) (hopn : lf[m]? = some op) (hndm : noDef op.op = true)
    (h : Lex P lf.toArray (lf.take m) fps F M (fun F1 M1 => ∃ fp d wr, op.guard = none ∧ DOpP P true op F1 M1 fp d wr ∧ K (.panic d) F1 (upd M1 wr))) :
    dwp P s0 n (.region id lf.toArray true) F M K := by
  intro a w hi
  refine wpIn_region_any hm ?_
  simp only [drawOkP, Bool.and_eq_true, beq_iff_eq, List.all_eq_true, List.mem_range] at hB
  obtain ⟨⟨⟨⟨hlen0, hml⟩, hedge⟩, hpre0⟩, hB⟩ := hB
  have hml := Nat.blt_eq.mp hml
  obtain ⟨l, hl⟩ : ∃ l, l = lf.take m := ⟨_, rfl⟩
  have hllen : l.length = m := by rw [hl, List.length_take]; omega
  rw [← hl] at h
  have hlen : fps.length = l.length := by omega
  have htk : ∀ i, i < l.length → l[i]? = lf[i]? := fun i hi => by rw [hl, List.getElem?_take, if_pos (by omega)]
  have hon : ∀ (j : Nat) o, lf[j]? = some o → ∀ e ∈ o.after.toList, Region.binds .any e = true → e.on < j := by
    intro j o ho e he hb
    have h1 := hedge j (List.getElem?_eq_some_iff.1 ho).1
    rw [ho] at h1
    simp only [Bool.and_eq_true] at h1
    have := Array.all_eq_true_iff_forall_mem.1 h1.1 e (by simpa using he)
    rw [hb] at this
    exact Nat.blt_eq.mp (by simpa using this)
  have hbeh : ∀ i, l.length < i → i < lf.length → ahead lf l.length i = true := by
    intro i h1 h2
    have h3 := hedge i h2
    rw [List.getElem?_eq_getElem h2] at h3
    simp only [Bool.and_eq_true, Bool.or_eq_true] at h3
    rcases h3.2 with h4 | h4
    · have := Nat.ble_eq.mp h4; omega
    · rw [hllen]; exact h4
  have hpre : ∀ j, j < l.length → ahead lf j l.length = true := fun j hj => by rw [hllen]; exact hpre0 j (by omega)
  subst hllen
  obtain ⟨E, e1, e2, e3⟩ := lex_recs l fps F M hlen h
  have at_ : ∀ k, k < l.length → ∃ o f, l[k]? = some o ∧ fps[k]? = some f := fun k hk => ⟨l[k], fps[k], List.getElem?_eq_getElem hk, List.getElem?_eq_getElem (by omega)⟩
  have hone : ∀ (j : Nat) o f, l[j]? = some o → fps[j]? = some f → (∀ e ∈ o.after.toList, Region.binds .any e = true → e.on < j) ∧ dstB n.n o.dst = true ∧ noDef o.op = true ∧ (∀ x ∈ f.2, x ∈ f.1) ∧ ∀ (i : Nat) oi fi, i < j → l[i]? = some oi → fps[i]? = some fi → ahead lf i j = true ∨ (meet oi.dst.toList (namesOf lf.toArray o) = false ∧ meet (namesOf lf.toArray oi) o.dst.toList = false ∧ meet fi.2 f.1 = false ∧ meet fi.1 f.2 = false) := by
    intro j o f ho hf
    have hj : j < l.length := (List.getElem?_eq_some_iff.1 ho).1
    have h1 := hB j hj
    have ho2 := ho
    rw [htk j hj] at ho2
    rw [ho2, hf] at h1
    simp only [Bool.and_eq_true, List.all_eq_true, List.mem_range] at h1
    obtain ⟨⟨⟨h2, hnd⟩, h3⟩, h4⟩ := h1
    refine ⟨hon j o ho2, h2, hnd, fun x hx => by simpa using h3 x hx, fun i oi fi hij hoi hfi => ?_⟩
    have h5 := h4 i hij
    rw [← htk i (by omega), hoi, hfi] at h5
    simp only [pairOk, Bool.or_eq_true, Bool.not_eq_true', Bool.or_eq_false_iff] at h5
    rcases h5 with h5 | h5
    · exact .inl h5
    · exact .inr ⟨h5.1.1.1, h5.1.1.2, h5.1.2, h5.2⟩
  have meet_no : ∀ {x : List Nat} {y : List Nat} {t : Nat}, meet x y = false → t ∈ x → t ∈ y → False := by
    intro x y t hm hx hy
    simp only [meet, List.any_eq_false] at hm
    exact hm t hx (by simpa using hy)
  -- the state when some have been done
  have main : ∀ (f : Nat) (listed : Array Bool) (b : Act) (s : St), Ok s0 → listed.size = lf.length → (∀ k, l.length ≤ k → listed.getD k false = false) → unl listed lf.length = f → Tr s0 s →
      (∀ t d, lkS l E F (fun k => listed.getD k false) t l.length = some d → Rep s d (slot b t)) → s.M.length = M.length → (∀ i, i < M.length → s.M[i]? = memS E M (fun k => listed.getD k false) i l.length) →
      b.tmps.size = n.n → DfOk s0 s n.mks n.U b.defers → (∀ j i, listed.getD j false = true → j < l.length → ahead lf i j = true → listed.getD i false = true) →
      wpAnyIn (wd (n.ρ s0)) 0 P .any lf.toArray (PostK s0 n K) f listed b s.w := by
    intro f
    induction f with
    | zero =>
      intro listed b s h0 hs hbig hu ht hF hMl hM hn hd _
      have hall := unl_zero _ hu
      have h1 := hall l.length (by omega)
      rw [hbig l.length (Nat.le_refl _)] at h1
      cases h1
    | succ f ih =>
      intro listed b s h0 hs hbig hu ht hF hMl hM hn hd hcl
      refine ⟨fun hnone => ?_, fun i hi => ?_⟩
      · exfalso
        obtain ⟨i, h1, h2, h3⟩ := unl_some lf.length (listed := listed) (by omega)
        obtain ⟨o, ho⟩ : ∃ o, lf[i]? = some o := ⟨lf[i], List.getElem?_eq_getElem h1⟩
        have g1 := hon i o ho
        have : i ∈ Region.ready .any lf.toArray listed := mem_ready.2 ⟨by rw [getD_tf hs h1]; exact h2, o, by simpa using ho, fun e he hb => h3 _ (g1 e (by simpa using he) hb)⟩
        rw [hnone] at this
        cases this
      · obtain ⟨hun, o, ho, hall⟩ := mem_ready.1 hi
        have hof : lf[i]? = some o := by simpa using ho
        have hilf : i < lf.length := (List.getElem?_eq_some_iff.1 hof).1
        rw [getD_tf hs hilf] at hun
        have done0 : ∀ j, ahead lf j i = true → listed.getD j false = true := by
          intro j hj
          obtain ⟨e, he, hb, hcase⟩ := ahead_step hof hj
          have h1 := hall e (by simpa using he) hb
          rcases hcase with rfl | ⟨h2, h3⟩
          · exact h1
          · refine hcl e.on j h1 ?_ h3
            refine Classical.byContradiction fun hno => ?_
            rw [hbig e.on (by omega)] at h1
            cases h1
        by_cases hgt : l.length < i
        · exfalso
          have h1 := done0 l.length (hbeh i hgt hilf)
          rw [hbig l.length (Nat.le_refl _)] at h1
          cases h1
        by_cases him : i = l.length
        · subst him
          have hall2 : ∀ j, j < l.length → listed.getD j false = true := fun j hj => done0 j (hpre j hj)
          rw [hof] at hopn
          obtain rfl := Option.some.inj hopn
          obtain ⟨fp, d, wr, q1, q2, q3⟩ := e2
          have hFk : FOk s (Fup l E F l.length) b := fun t d hd' => by
            rw [fup_lk] at hd'
            refine hF t d ?_
            rw [← hd']
            exact lkS_congr _ fun j o hj _ _ => hall2 j hj
          have hMk : s.M = Mup E M l.length := by
            refine List.ext_getElem? fun i => ?_
            by_cases hi : i < M.length
            · rw [hM i hi, mup_at i hi]
              exact memS_congr _ fun j r hj _ _ => hall2 j hj
            · rw [List.getElem?_eq_none (by omega), List.getElem?_eq_none (by rw [Mup_len]; omega)]
          unfold wpOpIn
          rw [ho]
          simp only
          have hw : Region.wanted o (yielded lf.toArray b.tmps) = true := by unfold Region.wanted; rw [q1]
          rw [if_pos hw]
          refine dgives_inP hndm (q2 rfl b s ht.ok (fun x _ d hd => ev_rep hFk hd) (fun i _ => by rw [hMk])) fun s' v ht' ⟨w1, w2⟩ => ?_
          exact ⟨Fup l E F l.length, upd (Mup E M l.length) wr, d, ⟨h0, s', v, w1.trans (by rw [hMk]), rfl, ht.trans ht', hFk.mono ht.ok ht', hn, hd.mono ht.ok ht', rfl, w2⟩, q3⟩
        have hil : i < l.length := by omega
        have ho' : l[i]? = some o := by rw [hl, List.getElem?_take, if_pos (by omega)]; exact hof
        obtain ⟨fi, hfi⟩ : ∃ fi, fps[i]? = some fi := ⟨fps[i], List.getElem?_eq_getElem (by omega)⟩
        obtain ⟨pc, d, r, hr, hrd, hg, hop, hwi, hgw⟩ := e3 i o fi ho' hfi
        obtain ⟨g1, g2, hnd, g3, g4⟩ := hone i o fi ho' hfi
        have done := done0
        have undone : ∀ j, j < l.length → ahead lf i j = true → listed.getD j false = false := by
          intro j hj h1
          cases e : listed.getD j false with
          | false => rfl
          | true => rw [hcl j i e hj h1] at hun; cases hun
        have tset : ∀ t, t ∈ namesOf lf.toArray o → lkS l E F (fun k => listed.getD k false) t l.length = lkS l E F (fun _ => true) t i := by
          intro t ht
          rw [lkS_cut i l.length (by omega) fun j oj h1 h2 hj hjd => ?_]
          · refine lkS_congr i fun j oj hj hoj hjd => ?_
            obtain ⟨fj, hfj⟩ : ∃ fj, fps[j]? = some fj := ⟨fps[j], List.getElem?_eq_getElem (by omega)⟩
            rcases g4 j oj fj hj hoj hfj with h1 | h1
            · exact done j h1
            · exact (meet_no h1.1 (by simp [hjd]) ht).elim
          · by_cases e : j = i
            · subst e; exact hun
            · obtain ⟨fj, hfj⟩ : ∃ fj, fps[j]? = some fj := ⟨fps[j], List.getElem?_eq_getElem (by omega)⟩
              rcases (hone j oj fj hj hfj).2.2.2.2 i o fi (by omega) ho' hfi with h3 | h3
              · exact undone j h2 h3
              · exact (meet_no h3.2.1 ht (by simp [hjd])).elim
        have mset : ∀ x, x ∈ fi.1 → memS E M (fun k => listed.getD k false) x l.length = memS E M (fun _ => true) x i := by
          intro x hx
          have wmem : ∀ (j : Nat) rj fj, E[j]? = some rj → fps[j]? = some fj → j < l.length → (wrAt rj.wr x).isSome = true → x ∈ fj.2 := by
            intro j rj fj hrj hfj hj hw
            obtain ⟨oj, _, hoj, _⟩ := at_ j hj
            obtain ⟨_, _, r', hr', _, _, _, hw', _⟩ := e3 j oj fj hoj hfj
            rw [hrj] at hr'
            obtain rfl := Option.some.inj hr'
            rw [← hw']
            refine Classical.byContradiction fun hno => ?_
            rw [wrAt_none _ _ hno] at hw
            cases hw
          rw [memS_cut i l.length (by omega) fun j rj h1 h2 hrj hw => ?_]
          · refine memS_congr i fun j rj hj hrj hw => ?_
            obtain ⟨oj, fj, hoj, hfj⟩ := at_ j (by omega)
            rcases g4 j oj fj hj hoj hfj with h1 | h1
            · exact done j h1
            · exact (meet_no h1.2.2.1 (wmem j rj fj hrj hfj (by omega) hw) hx).elim
          · by_cases e : j = i
            · subst e; exact hun
            · obtain ⟨oj, fj, hoj, hfj⟩ := at_ j (by omega)
              rcases (hone j oj fj hoj hfj).2.2.2.2 i o fi (by omega) ho' hfi with h3 | h3
              · exact undone j h2 h3
              · exact (meet_no h3.2.2.2 hx (wmem j rj fj hrj hfj h2 hw)).elim
        have hslot : ∀ t d, t ∈ o.looksAt lf.toArray → lk (Fup l E F i) t = some d → Rep s d (slot b t) := by
          intro t d' ht hd'
          refine hF t d' ?_
          rw [tset t (List.mem_append_left _ ht), ← fup_lk]
          exact hd'
        have next : ∀ (s' : St) (v : Value), Tr s s' → s'.M = upd s.M r.wr → Rep s' r.d v → wpAnyIn (wd (n.ρ s0)) 0 P .any lf.toArray (PostK s0 n K) f (listed.setIfInBounds i true) (b.put o.dst v) s'.w := by
          intro s' v ht' hM' hrep
          have hset : ∀ k, (listed.setIfInBounds i true).getD k false = if i = k then true else listed.getD k false := fun k => getD_set _ _ _ (by rw [hs]; exact hilf)
          refine ih _ _ s' h0 (by simp [hs]) (fun k hk => by rw [hset, if_neg (by omega)]; exact hbig k hk) ?_ (ht.trans ht') ?_ (by rw [hM', upd_len, hMl]) ?_ (by rw [put_size]; exact hn) (by rw [put_def]; exact hd.mono ht.ok ht') ?_
          · have := unl_set (by rw [hs]; exact hilf) hun lf.length
            rw [if_pos hilf] at this
            omega
          · intro t d' hd'
            by_cases htd : o.dst = some t
            · have e : lkS l E F (fun k => (listed.setIfInBounds i true).getD k false) t l.length = some r.d := by
                rw [lkS_cut (i + 1) l.length (by omega) fun j oj h1 h2 hj hjd => ?_]
                · unfold lkS
                  rw [ho', hr]
                  simp only
                  rw [if_pos ⟨by rw [hset, if_pos rfl], htd⟩]
                · rw [hset, if_neg (by omega)]
                  obtain ⟨fj, hfj⟩ : ∃ fj, fps[j]? = some fj := ⟨fps[j], List.getElem?_eq_getElem (by omega)⟩
                  rcases (hone j oj fj hj hfj).2.2.2.2 i o fi (by omega) ho' hfi with h3 | h3
                  · exact undone j h2 h3
                  · exact (meet_no (t := t) h3.2.1 (List.mem_append_right _ (by simp [htd])) (by simp [hjd])).elim
              rw [e] at hd'
              obtain rfl := Option.some.inj hd'
              have hsz : t < b.tmps.size := by
                rw [htd] at g2
                rw [hn]
                exact Nat.blt_eq.mp g2
              rw [htd, slot_put, if_pos ⟨rfl, hsz⟩]
              exact hrep
            · have e : slot (b.put o.dst v) t = slot b t := by
                cases hod : o.dst with
                | none => rfl
                | some x => rw [slot_put, if_neg (fun q => htd (by rw [hod, q.1]))]
              rw [e]
              refine (hF t d' ?_).mono ht.ok ht'
              rw [← hd']
              refine lkS_congr _ fun j oj hj hoj hjd => ?_
              rw [hset]
              by_cases ej : i = j
              · subst ej
                rw [ho'] at hoj
                obtain rfl := Option.some.inj hoj
                exact absurd hjd htd
              · rw [if_neg ej]
          · intro x hx
            rw [hM', upd_get _ _ _ (by omega), hM x hx]
            cases hw : wrAt r.wr x with
            | none =>
              rw [Option.none_or]
              refine memS_congr _ fun j rj hj hrj hwj => ?_
              rw [hset]
              by_cases ej : i = j
              · subst ej
                rw [hr] at hrj
                obtain rfl := Option.some.inj hrj
                rw [hw] at hwj; cases hwj
              · rw [if_neg ej]
            | some k =>
              rw [Option.some_or]
              have hxw : x ∈ fi.2 := by
                rw [← hwi]
                refine Classical.byContradiction fun hno => ?_
                rw [wrAt_none _ _ hno] at hw
                cases hw
              rw [memS_cut (i + 1) l.length (by omega) fun j rj h1 h2 hrj hwj => ?_]
              · unfold memS
                rw [hr]
                simp only
                rw [if_pos (by rw [hset, if_pos rfl]), hw, Option.some_or]
              · rw [hset, if_neg (by omega)]
                obtain ⟨oj, fj, hoj, hfj⟩ := at_ j (by omega)
                rcases (hone j oj fj hoj hfj).2.2.2.2 i o fi (by omega) ho' hfi with h3 | h3
                · exact undone j h2 h3
                · refine (meet_no h3.2.2.2 (g3 x hxw) ?_).elim
                  obtain ⟨_, _, r', hr', _, _, _, hw', _⟩ := e3 j oj fj hoj hfj
                  rw [hrj] at hr'
                  obtain rfl := Option.some.inj hr'
                  rw [← hw']
                  refine Classical.byContradiction fun hno => ?_
                  rw [wrAt_none _ _ hno] at hwj
                  cases hwj
          · intro j k hj hjl hk
            rw [hset] at hj ⊢
            by_cases e : i = k
            · rw [if_pos e]
            · rw [if_neg e]
              by_cases ej : i = j
              · subst ej; exact done k hk
              · rw [if_neg ej] at hj
                exact hcl j k hj hjl hk
        unfold wpOpIn
        rw [ho]
        simp only
        rw [gd_wanted hg hslot]
        cases pc with
        | true =>
          rw [if_pos rfl]
          refine dgives_in hnd (hop rfl b s ht.ok (fun x hx d' hd' => ?_) (fun x hx => ?_)) fun s' v ht' ⟨q1, q2⟩ => next s' v ht' q1 ?_
          · cases x with
            | tmp t => exact hslot t d' (List.mem_append_left _ (List.mem_filterMap.2 ⟨.tmp t, by simpa using hx, rfl⟩)) hd'
            | const v => obtain rfl := Option.some.inj hd'; exact .val v
            | func g => obtain rfl := Option.some.inj hd'; exact Rep.fn (vs := []) (us := []) rfl rfl (fun j d v h => by simp at h) (fun j d v h => by simp at h)
            | global g => obtain rfl := Option.some.inj hd'; exact .val _
          · by_cases hxl : x < M.length
            · rw [hM x hxl, mup_at x hxl, mset x hx]
            · rw [List.getElem?_eq_none (by omega), List.getElem?_eq_none (by rw [Mup_len]; omega)]
          · rw [hrd]
            unfold gdd
            split
            · exact q2
            · exact .opt (fun _ => q2) (fun h => by cases h)
        | false =>
          rw [if_neg (by simp)]
          have hgs : o.guard.isSome = true := by
            unfold Gd at hg
            cases e : o.guard with
            | none => rw [e] at hg; cases hg
            | some x => rfl
          refine ⟨fun _ _ => trivial, next s undef (Tr.refl ht.ok) (by rw [hgw rfl]; rfl) ?_⟩
          rw [hrd]
          unfold gdd
          split
          · rename_i e; rw [e] at hgs; cases hgs
          · exact .opt (fun h => by cases h) (fun _ => rfl)
  obtain ⟨h0, s, h1, h2, h3, h4, h5, h6⟩ := hi
  subst h1 h2
  have hst := step_same h3.ok { s.w with drawn := s.w.drawn + 1 } rfl rfl rfl rfl
  have hno : ∀ k, (Array.replicate lf.toArray.size false).getD k false = false := fun k => by
    simp only [Array.getD_eq_getD_getElem?, Array.getElem?_replicate]
    split <;> rfl
  have := main lf.length (Array.replicate lf.toArray.size false) a ⟨s.β, s.I, s.M, { s.w with drawn := s.w.drawn + 1 }⟩ h0 (by simp) (fun k _ => hno k) (by
      have := unl_start lf.toArray.size lf.length (by simp)
      exact this) (h3.trans hst) (fun t d hd => ?_) rfl (fun i hi => ?_) h5 (h6.mono h3.ok hst) (fun j i hj => by rw [hno] at hj; cases hj)
  · simpa using this
  · rw [lkS_cut 0 l.length (by omega) fun j o _ _ _ _ => hno j] at hd
    exact (h4 t d hd).mono h3.ok hst
  · rw [memS_cut 0 l.length (by omega) fun j r _ _ _ _ => hno j]
    rfl
end Go.Proofs.YtmacjicebemgoaaGreat
namespace Go.Proofs.YtmacjicebemgoaaGreat
set_option linter.unusedVariables false
set_option linter.unusedSimpArgs false
open Go.RowKit
section
variable {P : Program} {pc : Bool} {o : Oper} {F : Fr} {M : List Blk}
/-- a part of a struct's variable, all of whose cells are plain -/
theorem op_ldmv {T T' : TypeId} {x : Operand} {i p k : Nat} {l : List D} {R : List Value} (ho : o.op = .load T x) (hT : tyB P T = some (true, k)) (hx : Ev pc F x (.loc i p)) (hM : M[i]? = some (.mix T' l)) (hR : (l.drop p).take k = R.map .val) (hl : R.length = k) : DOp P pc o F M [i] (.val (.agg R.toArray)) [] := by
  intro hp a s hok hops hfp
  have hr := ev_at hp hx (by simp [ho, Op.operands]) hops
  generalize hv : a.eval x = vx at hr
  cases hr with
  | @loc _ _ b h =>
    obtain ⟨b', vs, e1, e2, e3, e4⟩ := hok.blk i _ _ (by rw [hfp i (by simp)]; exact hM) h
    cases e1
    have hvs : (vs.drop p).take k = R := by
      have hlen : ((vs.drop p).take k).length = R.length := by
        have h1 := congrArg List.length hR
        rw [List.length_take, List.length_drop, List.length_map] at h1
        rw [List.length_take, List.length_drop, e3, h1]
      refine List.ext_getElem hlen fun j h1 h2 => ?_
      have h3 : ((l.drop p).take k)[j]? = some (.val R[j]) := by rw [hR, List.getElem?_map, List.getElem?_eq_getElem h2]; rfl
      have hjk : j < k := by omega
      rw [List.getElem?_take, if_pos hjk, List.getElem?_drop] at h3
      have h5 : vs[p + j]? = some ((vs.drop p).take k)[j] := by
        have := List.getElem?_eq_getElem h1
        rw [List.getElem?_take, if_pos hjk, List.getElem?_drop] at this
        exact this
      exact (e4 _ _ _ h3 h5).val_eq
    have hc : cellsAt s.w b 0 vs := cellsAt_block e2 0
    have hr := cellsAt_range hc p k hvs
    rw [Nat.zero_add] at hr
    exact dg_val hok (run_load_row ho hT hv hr hl) (.val _)
end
theorem vwL_cons' {σ : List Nat} {V : Nat → Bool} {M : List Blk} {d d' : D} {l l' : List D} (h1 : vw σ V M d = some d') (h2 : vwL σ V M l = some l') : vwL σ V M (d :: l) = some (d' :: l') := by rw [vwL, h1, h2]
end Go.Proofs.YtmacjicebemgoaaGreat
namespace Go.Proofs.YtmacjicebemgoaaGreat
set_option linter.unusedVariables false
set_option linter.unusedSimpArgs false
open Go.RowKit
def Mem.blk : Mem → Blk
  | .gone => .gone
  | .flat T L => .flat T L
  | .arr T sz n L => .arr T sz n L
theorem mem_blk {s : St} {h : Value} {B : Mem} (hk : BlkOk s h B.blk) : MemOk s.w h B := by cases B <;> exact hk
theorem blk_live (B : Mem) : B.blk.live = B.live := by cases B <;> rfl
theorem blk_owns {B : Mem} {h : Value} {b : Nat} : owns B.blk h b ↔ hb h = some b := by cases B <;> exact Iff.rfl
/-- a block joins a family -/
theorem tr_abs {s : St} (ho : Ok s) {i j : Nat} {Bs : List Mem} {B : Mem} {hs : List Value} {h : Value} (hi : s.M[i]? = some (.fam Bs)) (hj : s.M[j]? = some B.blk) (hl : B.live = true) (hβi : s.β[i]? = some (.tuple hs.toArray)) (hβj : s.β[j]? = some h) :
    Tr s ⟨s.β.set i (.tuple (hs ++ [h]).toArray), s.I, (s.M.set j .gone).set i (.fam (Bs ++ [B])), s.w⟩ := by
  have hne : i ≠ j := fun e => by subst e; rw [hi] at hj; cases B <;> cases hj
  have hil := (List.getElem?_eq_some_iff.1 hi).1
  have hjl := (List.getElem?_eq_some_iff.1 hj).1
  have hf := fam_at (k := 0) ho hi hβi
  have hlen := hf.len
  have hm : MemOk s.w h B := mem_blk (ho.blk j _ h hj hβj)
  have other : ∀ b, owns (.fam (Bs ++ [B])) (.tuple (hs ++ [h]).toArray) b → owns (.fam Bs) (.tuple hs.toArray) b ∨ hb h = some b := by
    rintro b ⟨hs', k, B', u, e1, e2, e3, e4, e5⟩
    have e1 : hs ++ [h] = hs' := by simpa using e1
    subst e1
    by_cases hk : k < Bs.length
    · rw [List.getElem?_append_left hk] at e2
      rw [List.getElem?_append_left (by omega)] at e4
      exact .inl ⟨hs, k, B', u, rfl, e2, e3, e4, e5⟩
    · rw [List.getElem?_append_right (by omega)] at e2 e4
      have hk0 : k - hs.length = 0 := by have := (List.getElem?_eq_some_iff.1 e4).1; simp at this; omega
      rw [hk0] at e4
      simp at e4
      subst e4
      exact .inr e5
  have lvi : ∀ b, owns (.fam Bs) (.tuple hs.toArray) b → Live s b := fun b hb => live_of hi rfl hβi hb
  have lvj : ∀ b, hb h = some b → Live s b := fun b hb => live_of hj (by rw [blk_live]; exact hl) hβj (blk_owns.2 hb)
  have ne : ∀ (k : Nat) kb, (s.M.set j .gone)[k]? = some kb → kb.live = true → j ≠ k ∧ s.M[k]? = some kb := fun k kb hkb hlv => by
    by_cases hk : j = k
    · subst hk
      rw [List.getElem?_set_self hjl] at hkb
      cases hkb; cases hlv
    · rw [List.getElem?_set_ne hk] at hkb; exact ⟨hk, hkb⟩
  refine step_set ho i (s.M.set j .gone) _ _ s.w (by simp) (fun k kb hkb => ?_) hil (.inr (.inr ⟨hs, hs ++ [h], hβi, rfl, fun k u hu => ?_⟩)) (by simp) ⟨_, rfl, ?_⟩ (fun b hb k kb hh hne' q1 q2 q3 q4 => ?_) (fun b hb => .inr ((other b hb).elim (lvi b) (lvj b))) (fun b hb => (ho.lt b ((other b hb).elim (lvi b) (lvj b))).1) (fun _ => False) (fun _ h => h.elim) (fun _ _ _ _ => rfl) rfl rfl rfl (Nat.le_refl _)
  · by_cases hk : j = k
    · subst hk
      rw [List.getElem?_set_self hjl] at hkb
      exact .inr (Option.some.inj hkb).symm
    · rw [List.getElem?_set_ne hk] at hkb; exact .inl hkb
  · rw [List.getElem?_append_left (List.getElem?_eq_some_iff.1 hu).1]; exact hu
  · have split : ∀ (k : Nat) B' u, (Bs ++ [B])[k]? = some B' → (hs ++ [h])[k]? = some u → (Bs[k]? = some B' ∧ hs[k]? = some u) ∨ (k = Bs.length ∧ B' = B ∧ u = h) := by
      intro k B' u e2 e4
      by_cases hk : k < Bs.length
      · rw [List.getElem?_append_left hk] at e2
        rw [List.getElem?_append_left (by omega)] at e4
        exact .inl ⟨e2, e4⟩
      · rw [List.getElem?_append_right (by omega)] at e2 e4
        have hk0 : k - Bs.length = 0 := by have := (List.getElem?_eq_some_iff.1 e2).1; simp at this; omega
        rw [show k - hs.length = 0 by omega] at e4
        rw [hk0] at e2
        simp at e2 e4
        exact .inr ⟨by omega, e2.symm, e4.symm⟩
    refine ⟨by simp [hlen], fun k B' u e2 e4 => ?_, fun k k' B1 B2 u1 u2 b e1 l1 e2 e3 f1 l2 f2 f3 => ?_⟩
    · rcases split k B' u e2 e4 with ⟨a, c⟩ | ⟨_, rfl, rfl⟩
      · exact hf.ok k B' u a c
      · exact hm
    · rcases split k B1 u1 e1 e2 with ⟨a, c⟩ | ⟨rfl, rfl, rfl⟩ <;> rcases split k' B2 u2 f1 f2 with ⟨a', c'⟩ | ⟨rfl, rfl, rfl⟩
      · exact hf.inj k k' B1 B2 u1 u2 b a l1 c e3 a' l2 c' f3
      · exact absurd (ho.inj i j _ _ _ _ b hi rfl hβi ⟨hs, k, B1, u1, rfl, a, l1, c, e3⟩ hj (by rw [blk_live]; exact hl) hβj (blk_owns.2 f3)) hne
      · exact absurd (ho.inj i j _ _ _ _ b hi rfl hβi ⟨hs, k', B2, u2, rfl, a', l2, c', f3⟩ hj (by rw [blk_live]; exact hl) hβj (blk_owns.2 e3)) hne
      · rfl
  · obtain ⟨hjk, q1⟩ := ne k kb q1 q2
    rcases other b hb with h1 | h1
    · exact hne' (ho.inj i k _ kb _ hh b hi rfl hβi h1 q1 q2 q3 q4).symm
    · exact hjk (ho.inj j k _ kb _ hh b hj (by rw [blk_live]; exact hl) hβj (blk_owns.2 h1) q1 q2 q3 q4)
/-- an empty family -/
theorem tr_fam {s : St} (ho : Ok s) {j : Nat} (hj : s.M[j]? = some .hole) : Tr s ⟨s.β.set j (.tuple #[]), s.I, s.M.set j (.fam []), s.w⟩ := by
  have hjl : j < s.M.length := (List.getElem?_eq_some_iff.1 hj).1
  have hβ : s.β[j]? = some .nilFunc := by
    have hjb : j < s.β.length := by rw [ho.len]; exact hjl
    have e : s.β[j]? = some s.β[j] := List.getElem?_eq_getElem hjb
    have : s.β[j] = .nilFunc := ho.blk j .hole _ hj e
    rw [e, this]
  have no : ∀ b, ¬ owns (.fam []) (.tuple #[]) b := by
    rintro b ⟨hs, k, B, u, e1, e2, _⟩
    simp at e2
  exact step_set ho j s.M (.tuple #[]) (.fam []) s.w rfl (fun i k h => .inl h) hjl (.inl hβ) (by simp) ⟨[], rfl, rfl, fun k B u h => by simp at h, fun k k' B B' u u' b h => by simp at h⟩ (fun b hb => (no b hb).elim) (fun b hb => (no b hb).elim) (fun b hb => (no b hb).elim) (fun _ => False) (fun _ h => h.elim) (fun _ _ _ _ => rfl) rfl rfl rfl (Nat.le_refl _)
section
variable {P : Program} {s0 : St} {n : Cx}
theorem inv_fam {F : Fr} {M : List Blk} {a : Act} {w : World} {j : Nat} (h : Inv s0 n F M a w) (hj : M[j]? = some .hole) : Inv s0 n F (M.set j (.fam [])) a w := by
  obtain ⟨h0, s, rfl, rfl, h3, h4, h5, h6⟩ := h
  have tt := tr_fam h3.ok hj
  exact ⟨h0, ⟨s.β.set j (.tuple #[]), s.I, s.M.set j (.fam []), s.w⟩, rfl, rfl, h3.trans tt, fun x d hd => (h4 x d hd).mono h3.ok tt, h5, h6.mono h3.ok tt⟩
/-- an empty family is laid -/
theorem dwp_fam {c : Code} {F : Fr} {M M' : List Blk} {K : Cont} (j : Nat) (hj : M[j]? = some .hole) (hM' : M.set j (.fam []) = M') (h : dwp P s0 n c F M' K) : dwp P s0 n c F M K := by
  subst hM'
  exact fun a w hi => h a w (inv_fam hi hj)
end
end Go.Proofs.YtmacjicebemgoaaGreat
namespace Go.Proofs.YtmacjicebemgoaaGreat
set_option linter.unusedVariables false
set_option linter.unusedSimpArgs false
open Go.RowKit
section
variable {P : Program} {pc : Bool} {o : Oper} {F : Fr} {M : List Blk}
/-- a struct with addresses, out of a longer block -/
theorem op_ldmp {T T' : TypeId} {x : Operand} {i p k : Nat} {l R : List D} (ho : o.op = .load T x) (hT : tyB P T = some (true, k)) (hx : Ev pc F x (.loc i p)) (hM : M[i]? = some (.mix T' l)) (hR : (l.drop p).take k = R) (hl : R.length = k) : DOp P pc o F M [i] (.agg R) [] := by
  intro hp a s hok hops hfp
  have hr := ev_at hp hx (by simp [ho, Op.operands]) hops
  generalize hv : a.eval x = vx at hr
  cases hr with
  | @loc _ _ b h =>
    obtain ⟨b', vs, e1, e2, e3, e4⟩ := hok.blk i _ _ (by rw [hfp i (by simp)]; exact hM) h
    cases e1
    have hlen : ((vs.drop p).take k).length = R.length := by
      rw [← hR, List.length_take, List.length_drop, List.length_take, List.length_drop, e3]
    have hc : cellsAt s.w b 0 vs := cellsAt_block e2 0
    have hr := cellsAt_range hc p k rfl
    rw [Nat.zero_add] at hr
    refine dg_val hok (run_load_row ho hT hv hr (by omega)) (.agg hlen fun j d v h1 h2 => ?_)
    rw [← hR] at h1
    rcases Nat.lt_or_ge j k with hjk | hjk
    · rw [List.getElem?_take, if_pos hjk, List.getElem?_drop] at h1 h2
      exact e4 _ _ _ h1 h2
    · rw [List.getElem?_take, if_neg (by omega)] at h1
      cases h1
end
/-- a block is forgotten -/
theorem tr_gone {s : St} (ho : Ok s) (i : Nat) : Tr s ⟨s.β, s.I, s.M.set i .gone, s.w⟩ := by
  have hnd : ∀ (i : Nat) h, s.β[i]? = some h → h ≠ .nilFunc → s.β[i]? = some h := fun _ _ h _ => h
  have old : ∀ (j : Nat) k, (s.M.set i .gone)[j]? = some k → k = .gone ∨ s.M[j]? = some k := fun j k hj => by
    by_cases e : i = j
    · subst e
      by_cases hl : i < s.M.length
      · rw [List.getElem?_set_self hl] at hj
        exact .inl (Option.some.inj hj).symm
      · rw [List.getElem?_eq_none (by simp; omega)] at hj; cases hj
    · rw [List.getElem?_set_ne e] at hj; exact .inr hj
  have lv : ∀ b, Live ⟨s.β, s.I, s.M.set i .gone, s.w⟩ b → Live s b := by
    rintro b ⟨j, k, h, h1, h2, h3, h4⟩
    rcases old j k h1 with rfl | h1
    · cases h2
    · exact live_of h1 h2 h3 h4
  refine ⟨⟨by simp [ho.len], fun j k h h1 h2 => ?_, fun b hb => ho.lt b (lv b hb), ?_, ho.il⟩, hkeep_of hnd, fun _ h => h, fun _ h => .inl h, fun _ _ _ => rfl, fun b h => .inr (lv b h), rfl, rfl, rfl, Nat.le_refl _⟩
  · rcases old j k h1 with rfl | h1
    · trivial
    · exact BlkOk.mono (s := s) (s' := ⟨s.β, s.I, s.M.set i .gone, s.w⟩) hnd (fun _ h => h) (fun _ _ => rfl) (ho.blk j k h h1 h2) (fun _ _ _ => rfl)
  · intro j j2 k k2 x x2 b a1 a2 a3 a4 c1 c2 c3 c4
    rcases old j k a1 with rfl | a1
    · cases a2
    · rcases old j2 k2 c1 with rfl | c1
      · cases c2
      · exact ho.inj j j2 k k2 x x2 b a1 a2 a3 a4 c1 c2 c3 c4
/-- a row of one's own is given up: it stays from now on -/
theorem tr_giveA {s : St} (ho : Ok s) {j sz n : Nat} {T : TypeId} {L : List Value} {v : Value} (hM : s.M[j]? = some (.arr T sz n L)) (hr : Rep s (.arr j) v) : ∃ I' : Nat → Prop, Tr s ⟨s.β, I', s.M.set j .gone, s.w⟩ ∧ Rep ⟨s.β, I', s.M.set j .gone, s.w⟩ (.slf sz n L) v := by
  cases hr with
  | @arr _ ad n' c hβ =>
    have hk : s.w.ownsRow 0 T sz _ n L := ho.blk j _ _ hM hβ
    rcases hk.2 with ⟨e1, e2⟩ | ⟨g, cap, cur, e1, e2, e3, e4, e5, e6, e7⟩
    · cases e1; subst e2
      exact ⟨s.I, tr_gone ho j, .slf hk.1 (Nat.le_refl _) (Nat.zero_le _) (fun _ => rfl) (.inl (List.eq_nil_of_length_eq_zero (by simpa using hk.1)))⟩
    · cases e1
      refine ⟨fun b => s.I b ∨ b = g, tr_give ho hM rfl hβ rfl s.w (fun _ _ => rfl) rfl rfl rfl rfl, .slf hk.1 e4 e5 (fun e => by cases e) (.inr ⟨g, 0, rfl, .inr rfl, ?_⟩)⟩
      have hc := cellsAt_sub (cellsAt_block e3 0) 0 (n * sz)
      show cellsAt s.w g 0 L
      simpa [e7] using hc
theorem DGives.map {P : Program} {s : St} {post post' : St → Value → Prop} {r : Result Next} (h : DGives P s post r) (f : ∀ s' v, Ok s' → post s' v → ∃ s'', s''.w = s'.w ∧ Tr s' s'' ∧ post' s'' v) : DGives P s post' r := by
  have key : ∀ {w' : World} {v : Value}, (∃ s', s'.w = w' ∧ Tr s s' ∧ post s' v) → ∃ s', s'.w = w' ∧ Tr s s' ∧ post' s' v := by
    rintro w' v ⟨s', rfl, a2, a3⟩
    obtain ⟨s'', b1, b2, b3⟩ := f s' v a2.ok a3
    exact ⟨s'', b1, a2.trans b2, b3⟩
  cases r with
  | halt x w' => exact h
  | ok nx w' =>
    cases nx with
    | value v => exact key h
    | skip => exact key h
    | enter g args =>
      refine ⟨h.1, h.2.mono ?_⟩
      rintro e w'' ⟨s', v, b1, b2, b3, b4⟩
      obtain ⟨s'', c1, c2, c3⟩ := key ⟨s', b2, b3, b4⟩
      exact ⟨s'', v, b1, c1, c2, c3⟩
    | round l f tmps asg body =>
      refine ⟨h.1, h.2.mono ?_⟩
      rintro e w'' ⟨s', v, b1, b2, b3, b4⟩
      obtain ⟨s'', c1, c2, c3⟩ := key ⟨s', b2, b3, b4⟩
      exact ⟨s'', v, b1, c1, c2, c3⟩
    | _ => exact h
theorem upd_app : ∀ (a b : List (Nat × Blk)) (M : List Blk), upd M (a ++ b) = upd (upd M a) b
  | [], _, _ => rfl
  | (i, k) :: a, b, M => by rw [List.cons_append, upd, upd, upd_app a b]
/-- what an operation makes is given up at once: it stays -/
theorem DOp.giveA {P : Program} {pc : Bool} {o : Oper} {F : Fr} {M : List Blk} {fp : List Nat} {j sz n : Nat} {T : TypeId} {L : List Value} (wr : List (Nat × Blk)) (h : DOp P pc o F M fp (.arr j) (wr ++ [(j, .arr T sz n L)])) (hj : M[j]? = some .hole) (hf : fp.contains j = true) : DOp P pc o F M fp (.slf sz n L) (wr ++ [(j, .gone)]) := by
  intro hp a s hok hops hfp
  refine (h hp a s hok hops hfp).map fun s' v ho' ⟨e1, e2⟩ => ?_
  have hjl : j < s.M.length := by
    have h1 := hfp j (by simpa using hf)
    rw [hj] at h1
    exact (List.getElem?_eq_some_iff.1 h1).1
  have hM : s'.M[j]? = some (.arr T sz n L) := by
    rw [e1, upd_app]
    show ((upd s.M wr).set j _)[j]? = _
    rw [List.getElem?_set_self (by rw [upd_len]; exact hjl)]
  obtain ⟨I', t1, r1⟩ := tr_giveA ho' hM e2
  refine ⟨⟨s'.β, I', s'.M.set j .gone, s'.w⟩, rfl, t1, ?_, r1⟩
  show s'.M.set j .gone = _
  rw [e1, upd_app, upd_app]
  show ((upd s.M wr).set j _).set j .gone = (upd s.M wr).set j .gone
  rw [List.set_set]
theorem DOp.giveA2 {P : Program} {pc : Bool} {o : Oper} {F : Fr} {M : List Blk} {fp : List Nat} {i j sz n : Nat} {T : TypeId} {L : List Value} (h : DOp P pc o F M fp (.arr j) [(i, .gone), (j, .arr T sz n L)]) (hj : M[j]? = some .hole) (hf : fp.contains j = true) : DOp P pc o F M fp (.slf sz n L) [(i, .gone), (j, .gone)] := DOp.giveA [(i, .gone)] h hj hf
section
variable {P : Program} {s0 : St} {n : Cx}
theorem inv_giveA {F : Fr} {M : List Blk} {a : Act} {w : World} {t i : Nat} {e : TypeId} {sz m : Nat} {L : List Value} (h : Inv s0 n F M a w) (ht : lk F t = some (.arr i)) (hM : M[i]? = some (.arr e sz m L)) : Inv s0 n ((t, .slf sz m L) :: F) (M.set i .gone) a w := by
  obtain ⟨h0, s, rfl, rfl, h3, h4, h5, h6⟩ := h
  obtain ⟨I', tt, r1⟩ := tr_giveA h3.ok hM (h4 t _ ht)
  refine ⟨h0, ⟨s.β, I', s.M.set i .gone, s.w⟩, rfl, rfl, h3.trans tt, fun x d hd => ?_, h5, h6.mono h3.ok tt⟩
  rw [lk_cons] at hd
  split at hd
  · rename_i e'
    subst e'
    obtain rfl := Option.some.inj hd
    exact r1
  · exact (h4 x d hd).mono h3.ok tt
theorem dwp_giveA {c : Code} {F : Fr} {M M' : List Blk} {K : Cont} (t : Nat) {i : Nat} {e : TypeId} {sz m : Nat} {L : List Value} (ht : lk F t = some (.arr i)) (hM : M[i]? = some (.arr e sz m L)) (hM' : M.set i .gone = M') (h : dwp P s0 n c ((t, .slf sz m L) :: F) M' K) : dwp P s0 n c F M K := by
  subst hM'
  exact fun a w hi => h a w (inv_giveA hi ht hM)
end
/-- a row of a family is taken out of it again -/
theorem tr_rel {s : St} (ho : Ok s) {i j k : Nat} {Bs : List Mem} {B : Mem} {hs : List Value} {u : Value} (hi : s.M[i]? = some (.fam Bs)) (hj : s.M[j]? = some .hole) (hB : Bs[k]? = some B) (hl : B.live = true) (hβi : s.β[i]? = some (.tuple hs.toArray)) (hu : hs[k]? = some u) :
    Tr s ⟨s.β.set j u, s.I, (s.M.set i (.fam (Bs.set k .gone))).set j B.blk, s.w⟩ := by
  have hne : i ≠ j := fun e => by subst e; rw [hi] at hj; cases hj
  have hil := (List.getElem?_eq_some_iff.1 hi).1
  have hjl := (List.getElem?_eq_some_iff.1 hj).1
  have hkl := (List.getElem?_eq_some_iff.1 hB).1
  have hf := fam_at (k := 0) ho hi hβi
  have hβj : s.β[j]? = some .nilFunc := by
    have hjb : j < s.β.length := by rw [ho.len]; exact hjl
    have e : s.β[j]? = some s.β[j] := List.getElem?_eq_getElem hjb
    have : s.β[j] = .nilFunc := ho.blk j .hole _ hj e
    rw [e, this]
  have hnd : ∀ (x : Nat) h, s.β[x]? = some h → h ≠ .nilFunc → (s.β.set j u)[x]? = some h := fun x h hx hn => by
    by_cases e : j = x
    · subst e; rw [hβj] at hx; exact absurd (Option.some.inj hx).symm hn
    · rw [List.getElem?_set_ne e]; exact hx
  have oldM : ∀ (x : Nat) kk, ((s.M.set i (.fam (Bs.set k .gone))).set j B.blk)[x]? = some kk → (x = j ∧ kk = B.blk) ∨ (x = i ∧ kk = .fam (Bs.set k .gone)) ∨ (x ≠ j ∧ x ≠ i ∧ s.M[x]? = some kk) := fun x kk h => by
    by_cases e : j = x
    · subst e
      rw [List.getElem?_set_self (by simpa using hjl)] at h
      exact .inl ⟨rfl, (Option.some.inj h).symm⟩
    · rw [List.getElem?_set_ne e] at h
      by_cases e2 : i = x
      · subst e2
        rw [List.getElem?_set_self hil] at h
        exact .inr (.inl ⟨rfl, (Option.some.inj h).symm⟩)
      · rw [List.getElem?_set_ne e2] at h
        exact .inr (.inr ⟨Ne.symm e, Ne.symm e2, h⟩)
  have oldβ : ∀ (x : Nat) hh, (s.β.set j u)[x]? = some hh → (x = j ∧ hh = u) ∨ (x ≠ j ∧ s.β[x]? = some hh) := fun x hh h => by
    by_cases e : j = x
    · subst e
      rw [List.getElem?_set_self (by rw [ho.len]; exact hjl)] at h
      exact .inl ⟨rfl, (Option.some.inj h).symm⟩
    · rw [List.getElem?_set_ne e] at h
      exact .inr ⟨Ne.symm e, h⟩
  have cls : ∀ (x : Nat) kk hh b, ((s.M.set i (.fam (Bs.set k .gone))).set j B.blk)[x]? = some kk → kk.live = true → (s.β.set j u)[x]? = some hh → owns kk hh b →
      (x = j ∧ hb u = some b) ∨ (x = i ∧ ∃ (k' : Nat) (B' : Mem) (u' : Value), k' ≠ k ∧ Bs[k']? = some B' ∧ B'.live = true ∧ hs[k']? = some u' ∧ hb u' = some b) ∨ (x ≠ j ∧ x ≠ i ∧ s.M[x]? = some kk ∧ s.β[x]? = some hh) := by
    intro x kk hh b a1 a2 a3 a4
    rcases oldM x kk a1 with ⟨rfl, rfl⟩ | ⟨rfl, rfl⟩ | ⟨n1, n2, a1⟩
    · rcases oldβ _ hh a3 with ⟨_, rfl⟩ | ⟨n, _⟩
      · exact .inl ⟨rfl, blk_owns.1 a4⟩
      · exact absurd rfl n
    · rcases oldβ _ hh a3 with ⟨e, _⟩ | ⟨_, a3⟩
      · exact absurd e hne
      · rw [hβi] at a3
        obtain rfl := Option.some.inj a3
        obtain ⟨hs', k', B', u', e1, e2, e3, e4, e5⟩ := a4
        have e1 : hs = hs' := by simpa using e1
        subst e1
        by_cases e : k = k'
        · subst e
          rw [List.getElem?_set_self hkl] at e2
          obtain rfl := Option.some.inj e2
          cases e3
        · rw [List.getElem?_set_ne e] at e2
          exact .inr (.inl ⟨rfl, k', B', u', Ne.symm e, e2, e3, e4, e5⟩)
    · rcases oldβ _ hh a3 with ⟨e, _⟩ | ⟨_, a3⟩
      · exact absurd e n1
      · exact .inr (.inr ⟨n1, n2, a1, a3⟩)
  have fo : ∀ (k' : Nat) (B' : Mem) (u' : Value) (b : Nat), Bs[k']? = some B' → B'.live = true → hs[k']? = some u' → hb u' = some b → owns (.fam Bs) (.tuple hs.toArray) b := fun k' B' u' b e2 e3 e4 e5 => ⟨hs, k', B', u', rfl, e2, e3, e4, e5⟩
  have lv : ∀ b, Live ⟨s.β.set j u, s.I, (s.M.set i (.fam (Bs.set k .gone))).set j B.blk, s.w⟩ b → Live s b := by
    rintro b ⟨x, kk, hh, a1, a2, a3, a4⟩
    rcases cls x kk hh b a1 a2 a3 a4 with ⟨_, e⟩ | ⟨_, k', B', u', _, e2, e3, e4, e5⟩ | ⟨_, _, a1, a3⟩
    · exact live_of hi rfl hβi (fo k B u b hB hl hu e)
    · exact live_of hi rfl hβi (fo k' B' u' b e2 e3 e4 e5)
    · exact live_of a1 a2 a3 a4
  refine ⟨⟨by simp [ho.len], fun x kk hh h1 h2 => ?_, fun b hb => ho.lt b (lv b hb), ?_, ho.il⟩, hkeep_of hnd, fun _ h => h, fun _ h => .inl h, fun _ _ _ => rfl, fun b h => .inr (lv b h), rfl, rfl, rfl, Nat.le_refl _⟩
  · rcases oldM x kk h1 with ⟨rfl, rfl⟩ | ⟨rfl, rfl⟩ | ⟨n1, n2, h1⟩
    · rcases oldβ _ hh h2 with ⟨_, rfl⟩ | ⟨n, _⟩
      · have hm := hf.ok k B hh hB hu
        cases B <;> exact hm
      · exact absurd rfl n
    · rcases oldβ _ hh h2 with ⟨e, _⟩ | ⟨_, h2⟩
      · exact absurd e hne
      · rw [hβi] at h2
        obtain rfl := Option.some.inj h2
        refine ⟨hs, rfl, ⟨by rw [List.length_set]; exact hf.len, fun k' B' u' e2 e4 => ?_, fun k1 k2 B1 B2 u1 u2 b e1 l1 e2 e3 f1 l2 f2 f3 => ?_⟩⟩
        · by_cases e : k = k'
          · subst e
            rw [List.getElem?_set_self hkl] at e2
            obtain rfl := Option.some.inj e2
            trivial
          · rw [List.getElem?_set_ne e] at e2
            exact hf.ok k' B' u' e2 e4
        · have un : ∀ (q : Nat) Q, (Bs.set k .gone)[q]? = some Q → Q.live = true → Bs[q]? = some Q := fun q Q g1 g2 => by
            by_cases e : k = q
            · subst e
              rw [List.getElem?_set_self hkl] at g1
              obtain rfl := Option.some.inj g1
              cases g2
            · rw [List.getElem?_set_ne e] at g1; exact g1
          exact hf.inj k1 k2 B1 B2 u1 u2 b (un k1 B1 e1 l1) l1 e2 e3 (un k2 B2 f1 l2) l2 f2 f3
    · rcases oldβ _ hh h2 with ⟨e, _⟩ | ⟨_, h2⟩
      · exact absurd e n1
      · exact BlkOk.mono (s := s) (s' := ⟨s.β.set j u, s.I, (s.M.set i (.fam (Bs.set k .gone))).set j B.blk, s.w⟩) hnd (fun _ h => h) (fun _ _ => rfl) (ho.blk x kk hh h1 h2) (fun _ _ _ => rfl)
  · intro x x2 kk kk2 y y2 b a1 a2 a3 a4 c1 c2 c3 c4
    rcases cls x kk y b a1 a2 a3 a4 with ⟨ex, e⟩ | ⟨ex, k', B', u', n', e2, e3, e4, e5⟩ | ⟨m1, m2, a1, a3⟩ <;> rcases cls x2 kk2 y2 b c1 c2 c3 c4 with ⟨fx, f⟩ | ⟨fx, k2, B2, u2, n2, f2, f3, f4, f5⟩ | ⟨p1, p2, c1, c3⟩
    · exact ex.trans fx.symm
    · exact absurd (hf.inj k k2 B B2 u u2 b hB hl hu e f2 f3 f4 f5).symm n2
    · exact absurd (ho.inj i x2 _ kk2 _ y2 b hi rfl hβi (fo k B u b hB hl hu e) c1 c2 c3 c4).symm p2
    · exact absurd (hf.inj k k' B B' u u' b hB hl hu f e2 e3 e4 e5).symm n'
    · exact ex.trans fx.symm
    · exact absurd (ho.inj i x2 _ kk2 _ y2 b hi rfl hβi (fo k' B' u' b e2 e3 e4 e5) c1 c2 c3 c4).symm p2
    · exact absurd (ho.inj i x _ kk _ y b hi rfl hβi (fo k B u b hB hl hu f) a1 a2 a3 a4).symm m2
    · exact absurd (ho.inj i x _ kk _ y b hi rfl hβi (fo k2 B2 u2 b f2 f3 f4 f5) a1 a2 a3 a4).symm m2
    · exact ho.inj x x2 kk kk2 y y2 b a1 a2 a3 a4 c1 c2 c3 c4
section
variable {P : Program} {s0 : St} {n : Cx}
theorem inv_rel {F : Fr} {M : List Blk} {a : Act} {w : World} {t i j k : Nat} {e : TypeId} {sz m : Nat} {L : List Value} {Bs : List Mem} (h : Inv s0 n F M a w) (ht : lk F t = some (.farr i k)) (hi : M[i]? = some (.fam Bs)) (hB : Bs[k]? = some (.arr e sz m L)) (hj : M[j]? = some .hole) : Inv s0 n ((t, .arr j) :: F) ((M.set i (.fam (Bs.set k .gone))).set j (.arr e sz m L)) a w := by
  obtain ⟨h0, s, rfl, rfl, h3, h4, h5, h6⟩ := h
  have hlen := h3.ok.len
  have hil := (List.getElem?_eq_some_iff.1 hi).1
  have hjl := (List.getElem?_eq_some_iff.1 hj).1
  obtain ⟨x, hx⟩ : ∃ x, s.β[i]? = some x := ⟨_, List.getElem?_eq_getElem (by omega)⟩
  obtain ⟨hs, rfl, hfo⟩ := h3.ok.blk i _ x hi hx
  have hkl := (List.getElem?_eq_some_iff.1 hB).1
  obtain ⟨u, hu⟩ : ∃ u, hs[k]? = some u := ⟨_, List.getElem?_eq_getElem (by rw [hfo.len]; exact hkl)⟩
  have tt := tr_rel (B := .arr e sz m L) h3.ok hi hj hB rfl hx hu
  refine ⟨h0, ⟨s.β.set j u, s.I, (s.M.set i (.fam (Bs.set k .gone))).set j (.arr e sz m L), s.w⟩, rfl, rfl, h3.trans tt, fun z d hd => ?_, h5, h6.mono h3.ok tt⟩
  rw [lk_cons] at hd
  split at hd
  · rename_i e'
    subst e'
    obtain rfl := Option.some.inj hd
    have hr := h4 t _ ht
    show Rep _ _ (slot a t)
    generalize hv : slot a t = v at hr
    cases hr with
    | @farr _ _ ad n' c hs' g1 g2 =>
      rw [hx] at g1
      have e1 : hs = hs' := by simpa using g1
      subst e1
      rw [hu] at g2
      obtain rfl := Option.some.inj g2
      exact .arr (by show (s.β.set j _)[j]? = _; rw [List.getElem?_set_self (by rw [hlen]; exact hjl)])
  · exact (h4 z d hd).mono h3.ok tt
/-- a slot takes its row out of a family -/
theorem dwp_rel {c : Code} {F : Fr} {M M' : List Blk} {K : Cont} (t i : Nat) {j k : Nat} {e : TypeId} {sz m : Nat} {L : List Value} {Bs : List Mem} (ht : lk F t = some (.farr i k)) (hi : M[i]? = some (.fam Bs)) (hB : Bs[k]? = some (.arr e sz m L)) (hj : M[j]? = some .hole) (hM' : (M.set i (.fam (Bs.set k .gone))).set j (.arr e sz m L) = M') (h : dwp P s0 n c ((t, .arr j) :: F) M' K) : dwp P s0 n c F M K := by
  subst hM'
  exact fun a w hh => h a w (inv_rel hh ht hi hB hj)
end
end Go.Proofs.YtmacjicebemgoaaGreat
namespace Go.Proofs.YtmacjicebemgoaaGreat
set_option linter.unusedVariables false
set_option linter.unusedSimpArgs false
open Go.RowKit
section
variable {P : Program} {s0 : St} {n : Cx}
theorem inv_adoptc {F : Fr} {M : List Blk} {a : Act} {w : World} {i q : Nat} {T : TypeId} {l : List D} (e : TypeId) (sz : Nat) (h : Inv s0 n F M a w) (hi : M[i]? = some (.mix T l)) (hq : l[q]? = some (.val (.slice none 0 0))) : Inv s0 n F ((M ++ [Blk.arx e sz 0 []]).set i (.mix T (l.set q (.arr M.length)))) a w := by
  obtain ⟨h0, s, rfl, rfl, h3, h4, h5, h6⟩ := h
  have t1 := step_hole h3.ok
  have hlen := h3.ok.len
  have hn : (s.M ++ [Blk.hole])[s.M.length]? = some .hole := by simp
  have t2 : Tr ⟨s.β ++ [Value.nilFunc], s.I, s.M ++ [Blk.hole], s.w⟩ ⟨(s.β ++ [Value.nilFunc]).set s.M.length (.slice none 0 0), s.I, (s.M ++ [Blk.hole]).set s.M.length (.arx e sz 0 []), s.w⟩ :=
    tr_new (s := ⟨s.β ++ [Value.nilFunc], s.I, s.M ++ [Blk.hole], s.w⟩) t1.ok (j := s.M.length) hn (.slice none 0 0) (.arx e sz 0 []) s.w (by simp) (fun b hb => by cases hb) (fun b _ => rfl) (fun b hb => by cases hb) (Nat.le_refl _) rfl rfl rfl ⟨[], World.ownsRow_nil s.w 0 e sz, rfl, fun j d v h => by simp at h⟩
  have tt := t1.trans t2
  have hil : i < s.M.length := (List.getElem?_eq_some_iff.1 hi).1
  have eM : (s.M ++ [Blk.hole]).set s.M.length (.arx e sz 0 []) = s.M ++ [.arx e sz 0 []] := by simp
  rw [eM] at tt
  generalize hS : (⟨(s.β ++ [Value.nilFunc]).set s.M.length (.slice none 0 0), s.I, s.M ++ [.arx e sz 0 []], s.w⟩ : St) = S at tt
  have hSM : S.M = s.M ++ [.arx e sz 0 []] := by rw [← hS]
  have hSw : S.w = s.w := by rw [← hS]
  have hMi : S.M[i]? = some (.mix T l) := by rw [hSM, List.getElem?_append_left hil]; exact hi
  have hβlen : s.M.length < S.β.length := by rw [← hS]; simp [hlen]
  have hβn : S.β[s.M.length]? = some (.slice none 0 0) := by rw [← hS]; simp [hlen]
  obtain ⟨hd, hβi⟩ : ∃ hd, S.β[i]? = some hd := ⟨_, List.getElem?_eq_getElem (by omega)⟩
  obtain ⟨b, vs, rfl, hb, hl, hr⟩ := tt.ok.blk i _ _ hMi hβi
  have hβe : S.β.set i (.pointer (some ⟨b, 0, none⟩)) = S.β := by
    refine List.ext_getElem? fun k => ?_
    by_cases hk : i = k
    · subst hk; rw [List.getElem?_set_self (by omega), hβi]
    · rw [List.getElem?_set_ne hk]
  have t3 : Tr S ⟨S.β.set i (.pointer (some ⟨b, 0, none⟩)), S.I, S.M.set i (.mix T (l.set q (.arr s.M.length))), S.w⟩ := by
    have hlv : Live S b := live_of hMi rfl hβi rfl
    refine step_set tt.ok i S.M (.pointer (some ⟨b, 0, none⟩)) (.mix T (l.set q (.arr s.M.length))) S.w rfl (fun _ _ h => .inl h) (List.getElem?_eq_some_iff.1 hMi).1 (.inr (.inl hβi)) (by simp) ?_ (fun c hc j k h hne h1 h2 h3 h4 => ?_) (fun c hc => by cases hc; exact .inr hlv) (fun c hc => by cases hc; exact (tt.ok.lt b hlv).1) (fun _ => False) (fun _ h => h.elim) (fun _ _ _ _ => rfl) rfl rfl rfl (Nat.le_refl _)
    · refine ⟨b, vs, rfl, hb, by rw [List.length_set]; exact hl, fun j d v h1 h2 => ?_⟩
      have up : ∀ {d : D} {v : Value}, Rep S d v → Rep ⟨S.β.set i (.pointer (some ⟨b, 0, none⟩)), S.I, S.M.set i (.mix T (l.set q (.arr s.M.length))), S.w⟩ d v := fun h =>
        Rep.monoK (s := S) (s' := ⟨S.β.set i (.pointer (some ⟨b, 0, none⟩)), S.I, S.M.set i (.mix T (l.set q (.arr s.M.length))), S.w⟩) (by show hkeep S.β (S.β.set i _); rw [hβe]; exact hkeep.refl _) (fun _ h => h) (fun _ _ => rfl) h
      by_cases e : q = j
      · subst e
        rw [List.getElem?_set_self (List.getElem?_eq_some_iff.1 hq).1] at h1
        obtain rfl := Option.some.inj h1
        have hv := (hr q _ v hq h2).val_eq
        subst hv
        exact .arr (by show (S.β.set i _)[_]? = _; rw [hβe]; exact hβn)
      · rw [List.getElem?_set_ne e] at h1
        exact up (hr j d v h1 h2)
    · cases hc
      exact hne (tt.ok.inj j i k _ h _ b h1 h2 h3 h4 hMi rfl hβi rfl)
  have ttt := tt.trans t3
  refine ⟨h0, ⟨S.β.set i (.pointer (some ⟨b, 0, none⟩)), S.I, S.M.set i (.mix T (l.set q (.arr s.M.length))), S.w⟩, by simp only [hSM], hSw, h3.trans ttt, fun x d hd => (h4 x d hd).mono h3.ok ttt, h5, h6.mono h3.ok ttt⟩
theorem dwp_adoptc {c : Code} {F : Fr} {M M' : List Blk} {K : Cont} {T : TypeId} {l l' : List D} (i q : Nat) (e : TypeId) (sz : Nat) {m : Nat} (hi : M[i]? = some (.mix T l)) (hq : l[q]? = some (.val (.slice none 0 0))) (hm : M.length = m) (hl : l.set q (.arr m) = l') (hM : (M ++ [Blk.arx e sz 0 []]).set i (.mix T l') = M') (h : dwp P s0 n c F M' K) : dwp P s0 n c F M K := by
  subst hm hl hM
  exact fun a w hv => h a w (inv_adoptc e sz hv hi hq)
end
/-- what is known of a result's value, told otherwise -/
theorem DFun.wk {P : Program} {f : FuncId} {args : List D} {d d' : D} {Min Mout : List Blk} (h : DFun P f args Min d Mout) (hd : ∀ s v, Rep s d v → Rep s d' v) : DFun P f args Min d' Mout := by
  refine ⟨h.1, fun s vs hok hM hr => (h.2 s vs hok hM hr).mono ?_⟩
  rintro e w' ⟨s', rfl, ht, hor⟩
  rcases hor with ⟨d0, v, rfl, hrep, rfl, hMo⟩ | ⟨d0, v, _, _, hf⟩
  · exact ⟨s', rfl, ht, .inl ⟨d', v, rfl, hd s' v hrep, rfl, hMo⟩⟩
  · exact hf.elim
end Go.Proofs.YtmacjicebemgoaaGreat
namespace Go.Proofs.YtmacjicebemgoaaGreat
set_option linter.unusedVariables false
set_option linter.unusedSimpArgs false
open Go.RowKit
/-- what reads as d reads as d', too -/
def Wk (d d' : D) : Prop := ∀ s v, Rep s d v → Rep s d' v
def WkL (l l' : List D) : Prop := l.length = l'.length ∧ ∀ (j : Nat) d d', l[j]? = some d → l'[j]? = some d' → Wk d d'
theorem Wk.refl (d : D) : Wk d d := fun _ _ h => h
theorem Wk.of_eq {d d' : D} (h : d = d') : Wk d d' := h ▸ Wk.refl d
theorem WkL.nil : WkL [] [] := ⟨rfl, fun j d d' h => by simp at h⟩
theorem WkL.cons {d d' : D} {l l' : List D} (h : Wk d d') (hl : WkL l l') : WkL (d :: l) (d' :: l') := by
  refine ⟨by simp [hl.1], fun j e e' h1 h2 => ?_⟩
  cases j with
  | zero => simp at h1 h2; subst h1 h2; exact h
  | succ j => exact hl.2 j e e' (by simpa using h1) (by simpa using h2)
theorem WkL.refl (l : List D) : WkL l l := ⟨rfl, fun j d d' h1 h2 => by rw [h1] at h2; cases h2; exact Wk.refl d⟩
theorem WkL.rep {s : St} {l l' : List D} {vs : List Value} (h : WkL l l') (hr : ∀ (j : Nat) d v, l[j]? = some d → vs[j]? = some v → Rep s d v) : ∀ (j : Nat) d v, l'[j]? = some d → vs[j]? = some v → Rep s d v := fun j d v h1 h2 => by
  have hj : j < l.length := by rw [h.1]; exact (List.getElem?_eq_some_iff.1 h1).1
  exact h.2 j l[j] d (List.getElem?_eq_getElem hj) h1 s v (hr j _ v (List.getElem?_eq_getElem hj) h2)
theorem Wk.tup {l l' : List D} (h : WkL l l') : Wk (.tup l) (.tup l') := fun s v hr => by
  cases hr with
  | tup hl hr => exact .tup (hl.trans h.1) (h.rep hr)
theorem Wk.agg {l l' : List D} (h : WkL l l') : Wk (.agg l) (.agg l') := fun s v hr => by
  cases hr with
  | agg hl hr => exact .agg (hl.trans h.1) (h.rep hr)
theorem Wk.slm0 (sz : Nat) : Wk (.val (.slice none 0 0)) (.slm sz 0 []) := fun s v hr => by
  cases hr with
  | val => exact .slm (vs := []) rfl (by simp) (Nat.le_refl _) (Nat.zero_le _) (fun _ => rfl) rfl (fun j d v h => by simp at h) (.inl rfl)
theorem Wk.slf0 (sz : Nat) : Wk (.val (.slice none 0 0)) (.slf sz 0 []) := fun s v hr => by
  cases hr with
  | val => exact .slf (by simp) (Nat.le_refl _) (Nat.zero_le _) (fun _ => rfl) (.inl rfl)
theorem Wk.vagg (l : List Value) : Wk (.val (.agg l.toArray)) (.agg (l.map D.val)) := fun s v hr => by
  cases hr with
  | val =>
    refine .agg (by simp) fun j d v h1 h2 => ?_
    rw [List.getElem?_map, h2] at h1
    cases h1
    exact .val v
theorem Wk.trans {d d' d'' : D} (h : Wk d d') (k : Wk d' d'') : Wk d d'' := fun s v hr => k s v (h s v hr)
/-- .. of what an operation hands back -/
theorem DOp.wk {P : Program} {pc : Bool} {o : Oper} {F : Fr} {M : List Blk} {fp : List Nat} {d d' : D} {wr : List (Nat × Blk)} (h : DOp P pc o F M fp d wr) (hw : Wk d d') : DOp P pc o F M fp d' wr := by
  intro hp a s hok hops hfp
  exact (h hp a s hok hops hfp).map fun s' v ho' ⟨e1, e2⟩ => ⟨s', rfl, Tr.refl ho', e1, hw s' v e2⟩
/-- .. of an operand -/
theorem evwk {pc : Bool} {F : Fr} {x : Operand} {d d' : D} (h : Ev pc F x d) (hw : Wk d d') : Ev pc F x d' := by
  obtain ⟨d0, e1, e2⟩ := h
  exact ⟨d0, e1, fun s v hp hr => hw _ _ (e2 s v hp hr)⟩
section
variable {P : Program} {s0 : St} {n : Cx}
/-- .. of what a slot holds -/
theorem dwp_wk {c : Code} {F : Fr} {M : List Blk} {K : Cont} {d d' : D} (t : Nat) (ht : lk F t = some d) (hw : Wk d d') (h : dwp P s0 n c ((t, d') :: F) M K) : dwp P s0 n c F M K := by
  intro a w hi
  refine h a w ?_
  obtain ⟨h0, s, h1, h2, h3, h4, h5, h6⟩ := hi
  refine ⟨h0, s, h1, h2, h3, fun x e he => ?_, h5, h6⟩
  rw [lk_cons] at he
  split at he
  · rename_i e'
    subst e'
    obtain rfl := Option.some.inj he
    exact hw s _ (h4 t _ ht)
  · exact h4 x e he
end
section
variable {P : Program} {pc : Bool} {o : Oper} {F : Fr} {M : List Blk} {T : TypeId} {x : Operand}
end
end Go.Proofs.YtmacjicebemgoaaGreat
namespace Go.Proofs.YtmacjicebemgoaaGreat
set_option linter.unusedVariables false
set_option linter.unusedSimpArgs false
open Go.RowKit
section
variable {P : Program} {pc : Bool} {o : Oper} {F : Fr} {M : List Blk} {T : TypeId} {x y : Operand} {k : IntKind} {z : Int} {n : Nat}
/-- an array of single cells, at a place -/
theorem op_ixu {L : List Value} {v : Value} (j : Nat) (ho : o.op = .index T x y) (hT : arW P T = some n) (hx : Ev pc F x (.val (.agg L.toArray))) (hy : Ev pc F y (.val (.int k z))) (hz : pc = true → z = (j : Int)) (hj : j < n) (hd : L[j]? = some v) : DOp P pc o F M [] (.val v) [] :=
  op_ixw (ds := L.map D.val) j ho hT (evwk hx (Wk.vagg L)) hy hz hj (by rw [List.getElem?_map, hd]; rfl)
end
/-- behind a guard that does not hold nothing is done -/
theorem dop_never {P : Program} {o : Oper} {F : Fr} {M : List Blk} {d : D} : DOp P false o F M [] d [] := fun h => by cases h
/-- behind a guard that is known to hold -/
theorem walk_k {P : Program} {s0 : St} {n : Cx} {ops : Array Oper} {o : Oper} {rest : List Oper} {F : Fr} {M M' : List Blk} {K : Cont} {fp : List Nat} {d : D} {t : Nat} {wr : List (Nat × Blk)} (hg : Gd ops o F true) (hng : o.guard.isSome = true) (hd : o.dst = some t) (ht : Nat.blt t n.n = true) (h : DOp P true o F M fp d wr) (hM : upd M wr = M')
    (hk : Walk P s0 n ops rest ((t, .opt true d) :: F) M' K) (hnd : noDef o.op = true := by rfl) : Walk P s0 n ops (o :: rest) F M K := by
  subst hM
  have hb : dstB n.n o.dst = true := by rw [hd]; exact ht
  have hk : Walk P s0 n ops rest (putF o.dst (.opt true d) F) (upd M wr) K := by rw [hd]; exact hk
  intro a w hi
  obtain ⟨h0, s, h1, h2, h3, h4, h5, h6⟩ := hi
  subst h1 h2
  show if Region.wanted o (yielded ops a.tmps) then _ else _
  rw [gd_wanted hg (fun t d _ hd => h4 t d hd)]
  rw [if_pos rfl]
  refine dgives_in hnd (h rfl a s h3.ok (fun x _ d hd => ev_rep h4 hd) (fun _ _ => rfl)) fun s' v ht ⟨e1, e2⟩ => ?_
  exact hk _ _ ⟨h0, s', e1, rfl, h3.trans ht, (h4.mono h3.ok ht).putF h5 hb (.opt (fun _ => e2) (fun h => by cases h)), by rw [put_size]; exact h5, by rw [put_def]; exact h6.mono h3.ok ht⟩
end Go.Proofs.YtmacjicebemgoaaGreat
namespace Go.Proofs.YtmacjicebemgoaaGreat
set_option linter.unusedVariables false
set_option linter.unusedSimpArgs false
open Go.RowKit
theorem DGives.of_tr {P : Program} {s s1 : St} {post : St → Value → Prop} {r : Result Next} (t : Tr s s1) (hw : s1.w = s.w) (h : DGives P s1 post r) : DGives P s post r := by
  have key : ∀ {w' : World} {v : Value}, (∃ s', s'.w = w' ∧ Tr s1 s' ∧ post s' v) → ∃ s', s'.w = w' ∧ Tr s s' ∧ post s' v := by
    rintro w' v ⟨s', rfl, a2, a3⟩
    exact ⟨s', rfl, t.trans a2, a3⟩
  cases r with
  | halt x w => exact h.elim
  | ok x w =>
    cases x with
    | value v => exact key h
    | skip => exact key h
    | enter f args =>
      obtain ⟨h1, h2⟩ := h
      refine ⟨h1.trans hw, ?_⟩
      rw [← hw]
      refine h2.mono ?_
      rintro e w'' ⟨s', v, e1, e2, e3, e4⟩
      exact ⟨s', v, e1, e2, t.trans e3, e4⟩
    | round l f tmps asg body =>
      obtain ⟨h1, h2⟩ := h
      refine ⟨h1.trans hw, ?_⟩
      rw [← hw]
      refine RoundIn.mono h2 ?_
      rintro e w'' ⟨s', v, e1, e2, e3, e4⟩
      exact ⟨s', v, e1, e2, t.trans e3, e4⟩
    | _ => exact h.elim
section
variable {P : Program} {pc : Bool} {o : Oper} {F : Fr} {M : List Blk}
/-- a row of a family, appended to: the row that comes is a new member -/
theorem op_appF {T e : TypeId} {sz by' n m f j1 j2 k t t2 : Nat} {Bs : List Mem} {L L2 Z : List Value} (ho : o.op = .call { callee := .builtin .append, args := #[.tmp t, .tmp t2], argTypes := #[T, T] }) (ht : (t == t2) = false) (hT : slE P T = some (e, sz, by')) (hZ : zrC P e = some Z) (hZl : Z.length = sz)
    (hx : Ev pc F (.tmp t) (.farr f k)) (hy : Ev pc F (.tmp t2) (.slf sz m L2)) (hM : M[f]? = some (.fam Bs)) (hB : Bs[k]? = some (.arr e sz n L)) (hj1 : M[j1]? = some .hole) (hj2 : M[j2]? = some .hole) (hne : (j1 == j2) = false) (h1 : pc = true → L2.all (·.oneCell') = true) (hbd : pc = true → (n + m) * by' ≤ 140737488355328 ∧ n + m ≤ 140737488355328) :
    DOp P pc o F M [f, j1, j2] (.farr f Bs.length) [(f, .fam (Bs.set k .gone ++ [.arr e sz (n + m) (L ++ L2)])), (j1, .gone), (j2, .gone)] := by
  intro hp a s hok hops hfp
  have ht : t ≠ t2 := by simpa using ht
  have hne : j1 ≠ j2 := by simpa using hne
  have hmem : o.op.operands = #[.tmp t, .tmp t2] := by rw [ho]; rfl
  have rx := ev_at hp hx (by rw [hmem]; simp) hops
  have ry := ev_at hp hy (by rw [hmem]; simp) hops
  have hM' : s.M[f]? = some (.fam Bs) := by rw [hfp f (by simp)]; exact hM
  have g1 : s.M[j1]? = some .hole := by rw [hfp j1 (by simp)]; exact hj1
  have g2 : s.M[j2]? = some .hole := by rw [hfp j2 (by simp)]; exact hj2
  have hf1 : f ≠ j1 := fun e => by subst e; rw [hM'] at g1; cases g1
  have hf2 : f ≠ j2 := fun e => by subst e; rw [hM'] at g2; cases g2
  have hfl := (List.getElem?_eq_some_iff.1 hM').1
  have hl1 := (List.getElem?_eq_some_iff.1 g1).1
  have hl2 := (List.getElem?_eq_some_iff.1 g2).1
  generalize hvx : a.eval (.tmp t) = vx at rx
  cases rx with
  | @farr _ _ ad n' c hs q1 q2 =>
    have tt := tr_rel (B := .arr e sz n L) hok hM' g1 hB rfl q1 q2
    obtain ⟨s1, e1⟩ : ∃ s1 : St, s1 = ⟨s.β.set j1 (.slice ad n' c), s.I, (s.M.set f (.fam (Bs.set k .gone))).set j1 (.arr e sz n L), s.w⟩ := ⟨_, rfl⟩
    have tt : Tr s s1 := by rw [e1]; exact tt
    have hM1 : s1.M = (s.M.set f (.fam (Bs.set k .gone))).set j1 (.arr e sz n L) := by rw [e1]
    have hw1 : s1.w = s.w := by rw [e1]
    have hβ1 : s1.β[j1]? = some (.slice ad n' c) := by rw [e1]; show (s.β.set j1 _)[j1]? = _; rw [List.getElem?_set_self (by rw [hok.len]; exact hl1)]
    have m1 : s1.M[j1]? = some (.arr e sz n L) := by rw [hM1, List.getElem?_set_self (by simpa using hl1)]
    have m2 : s1.M[j2]? = some .hole := by rw [hM1, List.getElem?_set_ne hne, List.getElem?_set_ne hf2]; exact g2
    have m3 : s1.M[f]? = some (.fam (Bs.set k .gone)) := by rw [hM1, List.getElem?_set_ne (Ne.symm hf1), List.getElem?_set_self hfl]
    have ra : Rep s1 (.arr j1) (a.eval (.tmp t)) := by rw [hvx]; exact .arr hβ1
    have hl : ∀ x ∈ o.op.operands, ∀ d, ev [(t, D.arr j1), (t2, .slf sz m L2)] x = some d → Rep s1 d (a.eval x) := by
      intro x hx' d hd
      rw [hmem] at hx'
      simp at hx'
      rcases hx' with rfl | rfl
      · simp only [ev, lk, Nat.beq_refl, cond_true] at hd
        cases hd
        exact ra
      · have hb : Nat.beq t t2 = false := by
          cases hbb : Nat.beq t t2
          · rfl
          · exact absurd (Nat.eq_of_beq_eq_true hbb) ht
        simp only [ev, lk, hb, Nat.beq_refl, cond_true, cond_false] at hd
        cases hd
        exact ry.mono hok tt
    have hb : Nat.beq t t2 = false := by
      cases hbb : Nat.beq t t2
      · rfl
      · exact absurd (Nat.eq_of_beq_eq_true hbb) ht
    have hD := op_app (P := P) (pc := true) (F := [(t, D.arr j1), (t2, .slf sz m L2)]) (M := s1.M) (i := j1) (j := j2) (d := .slf sz m L2) (fp := []) ho hT hZ hZl (ev1 (by simp only [ev, lk, Nat.beq_refl, cond_true])) (ev1 (by simp only [ev, lk, hb, Nat.beq_refl, cond_true, cond_false])) src_slf m1 m2 (fun _ => h1 hp) (fun _ => hbd hp) rfl a s1 tt.ok hl (fun _ _ => rfl)
    rw [hw1] at hD
    refine (DGives.of_tr tt hw1 hD).map fun s' v ho' ⟨u1, u2⟩ => ?_
    have hs'M : s'.M = (s1.M.set j1 .gone).set j2 (.arr e sz (n + m) (L ++ L2)) := u1
    have k2 : s'.M[j2]? = some (.arr e sz (n + m) (L ++ L2)) := by rw [hs'M, List.getElem?_set_self (by rw [List.length_set, hM1]; simpa using hl2)]
    have k3 : s'.M[f]? = some (.fam (Bs.set k .gone)) := by rw [hs'M, List.getElem?_set_ne (Ne.symm hf2), List.getElem?_set_ne (Ne.symm hf1)]; exact m3
    have hlen' := ho'.len
    have kf := (List.getElem?_eq_some_iff.1 k3).1
    have kj := (List.getElem?_eq_some_iff.1 k2).1
    obtain ⟨x, hx2⟩ : ∃ x, s'.β[f]? = some x := ⟨_, List.getElem?_eq_getElem (by omega)⟩
    obtain ⟨y, hy2⟩ : ∃ y, s'.β[j2]? = some y := ⟨_, List.getElem?_eq_getElem (by omega)⟩
    obtain ⟨hs2, rfl, hfo⟩ := ho'.blk f _ x k3 hx2
    have t3 := tr_abs (B := .arr e sz (n + m) (L ++ L2)) ho' k3 k2 rfl hx2 hy2
    refine ⟨⟨s'.β.set f (.tuple (hs2 ++ [y]).toArray), s'.I, (s'.M.set j2 .gone).set f (.fam (Bs.set k .gone ++ [.arr e sz (n + m) (L ++ L2)])), s'.w⟩, rfl, t3, ?_, ?_⟩
    · show (s'.M.set j2 .gone).set f _ = ((s.M.set f _).set j1 .gone).set j2 .gone
      rw [hs'M, hM1]
      apply List.ext_getElem?
      intro i
      simp only [List.getElem?_set, List.length_set]
      by_cases a1 : f = i
      · subst a1
        simp [hf1.symm, hf2.symm, hfl]
      · by_cases a2 : j1 = i
        · subst a2
          simp [a1, hne.symm, hl1]
        · by_cases a3 : j2 = i
          · subst a3
            simp [a1, a2, hl2]
          · simp [a1, a2, a3]
    · cases u2 with
      | @arr _ ad' n'' c' hβ =>
        rw [hy2] at hβ
        obtain rfl := Option.some.inj hβ
        refine .farr (hs := hs2 ++ [.slice ad' n'' c']) (by show (s'.β.set f _)[f]? = _; rw [List.getElem?_set_self (by omega)]) ?_
        have : hs2.length = Bs.length := by rw [hfo.len]; simp
        rw [List.getElem?_append_right (by omega), show Bs.length - hs2.length = 0 by omega]
        rfl
end
section
variable {P : Program} {s0 : St} {n : Cx}
/-- a row of one's own that a variable's cell names joins a family -/
theorem inv_absc {F : Fr} {M : List Blk} {a : Act} {w : World} {p q j f : Nat} {T e : TypeId} {l : List D} {sz m : Nat} {L : List Value} {Bs : List Mem} (h : Inv s0 n F M a w) (hM : M[p]? = some (.mix T l)) (hq : l[q]? = some (.arr j)) (hj : M[j]? = some (.arr e sz m L)) (hf : M[f]? = some (.fam Bs)) : Inv s0 n F (((M.set j .gone).set f (.fam (Bs ++ [.arr e sz m L]))).set p (.mix T (l.set q (.farr f Bs.length)))) a w := by
  obtain ⟨h0, s, rfl, rfl, h3, h4, h5, h6⟩ := h
  have hlen := h3.ok.len
  have hfl := (List.getElem?_eq_some_iff.1 hf).1
  have hjl := (List.getElem?_eq_some_iff.1 hj).1
  have hpl := (List.getElem?_eq_some_iff.1 hM).1
  have hpj : p ≠ j := fun e => by subst e; rw [hM] at hj; cases hj
  have hpf : p ≠ f := fun e => by subst e; rw [hM] at hf; cases hf
  obtain ⟨x, hx⟩ : ∃ x, s.β[f]? = some x := ⟨_, List.getElem?_eq_getElem (by omega)⟩
  obtain ⟨y, hy⟩ : ∃ y, s.β[j]? = some y := ⟨_, List.getElem?_eq_getElem (by omega)⟩
  obtain ⟨z, hz⟩ : ∃ z, s.β[p]? = some z := ⟨_, List.getElem?_eq_getElem (by omega)⟩
  obtain ⟨hs, rfl, hfo⟩ := h3.ok.blk f _ x hf hx
  have tt := tr_abs (B := .arr e sz m L) h3.ok hf hj rfl hx hy
  obtain ⟨s1, e1⟩ : ∃ s1 : St, s1 = ⟨s.β.set f (.tuple (hs ++ [y]).toArray), s.I, (s.M.set j .gone).set f (.fam (Bs ++ [.arr e sz m L])), s.w⟩ := ⟨_, rfl⟩
  have tt : Tr s s1 := by rw [e1]; exact tt
  have hM1 : s1.M = (s.M.set j .gone).set f (.fam (Bs ++ [.arr e sz m L])) := by rw [e1]
  have hw1 : s1.w = s.w := by rw [e1]
  have hp1 : s1.M[p]? = some (.mix T l) := by rw [hM1, List.getElem?_set_ne (Ne.symm hpf), List.getElem?_set_ne (Ne.symm hpj)]; exact hM
  have hz1 : s1.β[p]? = some z := by rw [e1]; show (s.β.set f _)[p]? = _; rw [List.getElem?_set_ne (Ne.symm hpf)]; exact hz
  have hpl1 : p < s1.M.length := (List.getElem?_eq_some_iff.1 hp1).1
  have hset : s1.β.set p z = s1.β := by
    have h1 : p < s1.β.length := by rw [tt.ok.len]; exact hpl1
    have h2 : s1.β[p] = z := by
      have := List.getElem?_eq_getElem h1
      rw [hz1] at this
      exact (Option.some.inj this).symm
    rw [← h2]
    exact List.set_getElem_self ..
  obtain ⟨b, vs, k1, k2, k3, k4⟩ := tt.ok.blk p _ z hp1 hz1
  have hql := (List.getElem?_eq_some_iff.1 hq).1
  have t2 : Tr s1 ⟨s1.β, s1.I, s1.M.set p (.mix T (l.set q (.farr f Bs.length))), s1.w⟩ := by
    have hst := step_set tt.ok p s1.M z (.mix T (l.set q (.farr f Bs.length))) s1.w rfl (fun i k h => .inl h) hpl1 (.inr (.inl hz1)) (by rw [k1]; simp) ?_ (fun b' hb' j' kj hj' hne h1 h2 h3' h4' => ?_) (fun b' hb' => .inr (live_of hp1 rfl hz1 hb')) (fun b' hb' => (tt.ok.lt b' (live_of hp1 rfl hz1 hb')).1) (fun _ => False) (fun _ h => h.elim) (fun b' hlt hne _ => rfl) rfl rfl rfl (Nat.le_refl _)
    · rw [hset] at hst
      exact hst
    · refine ⟨b, vs, k1, k2, by simp [k3], fun j' d v g1 g2 => ?_⟩
      rw [hset]
      have lift : ∀ {d v}, Rep s1 d v → Rep ⟨s1.β, s1.I, s1.M.set p (.mix T (l.set q (.farr f Bs.length))), s1.w⟩ d v := fun hr =>
        Rep.mono' (s := s1) (s' := ⟨s1.β, s1.I, s1.M.set p (.mix T (l.set q (.farr f Bs.length))), s1.w⟩) (fun _ _ h _ => h) (fun _ h => h) (fun _ _ => rfl) hr
      by_cases e : q = j'
      · subst e
        rw [List.getElem?_set_self hql] at g1
        cases g1
        refine lift ?_
        have hr := k4 q _ v hq g2
        have hy1 : s1.β[j]? = some y := by
          have hjf : f ≠ j := fun e => by subst e; rw [hf] at hj; cases hj
          rw [e1]; show (s.β.set f _)[j]? = _; rw [List.getElem?_set_ne hjf]; exact hy
        cases hr with
        | @arr _ ad n' c hβ =>
          rw [hy1] at hβ
          obtain rfl := Option.some.inj hβ
          refine .farr (hs := hs ++ [.slice ad n' c]) (by rw [e1]; show (s.β.set f _)[f]? = _; rw [List.getElem?_set_self (by omega)]) ?_
          rw [List.getElem?_append_right (by rw [hfo.len]; exact Nat.le_refl _), hfo.len, Nat.sub_self]
          rfl
      · rw [List.getElem?_set_ne e] at g1
        exact lift (k4 j' d v g1 g2)
    · exact hne (tt.ok.inj j' p kj _ hj' _ b' h1 h2 h3' h4' hp1 rfl hz1 hb')
  refine ⟨h0, ⟨s1.β, s1.I, s1.M.set p (.mix T (l.set q (.farr f Bs.length))), s1.w⟩, by rw [hM1], hw1, (h3.trans tt).trans t2, fun x d hd => ((h4 x d hd).mono h3.ok tt).mono tt.ok t2, h5, (h6.mono h3.ok tt).mono tt.ok t2⟩
theorem dwp_absc {c : Code} {F : Fr} {M M' : List Blk} {K : Cont} (p q f : Nat) {j : Nat} {T e : TypeId} {l : List D} {sz m : Nat} {L : List Value} {Bs : List Mem} (hM : M[p]? = some (.mix T l)) (hq : l[q]? = some (.arr j)) (hj : M[j]? = some (.arr e sz m L)) (hf : M[f]? = some (.fam Bs)) (hM' : ((M.set j .gone).set f (.fam (Bs ++ [.arr e sz m L]))).set p (.mix T (l.set q (.farr f Bs.length))) = M') (h : dwp P s0 n c F M' K) : dwp P s0 n c F M K := by
  subst hM'
  exact fun a w hh => h a w (inv_absc hh hM hq hj hf)
end
section
variable {P : Program} {pc : Bool} {o : Oper} {F : Fr} {M : List Blk} {T : TypeId} {x y : Operand} {k : IntKind} {z : Int} {n sz : Nat}
/-- an array of structs that is a value with addresses, at a place -/
theorem op_ixwr {ds : List D} (j : Nat) (ho : o.op = .index T x y) (hT : arV P T = some (n, sz)) (hx : Ev pc F x (.agg ds)) (hy : Ev pc F y (.val (.int k z))) (hz : pc = true → z = (j : Int)) (hj : pc = true → j < n) (hl : j * sz + sz ≤ ds.length) : DOp P pc o F M [] (.agg ((ds.drop (j * sz)).take sz)) [] := by
  intro hp a s hok hops _
  have hr := ev_at hp hx (by simp [ho, Op.operands]) hops
  have e2 := (ev_at hp hy (by simp [ho, Op.operands]) hops).val_eq
  rw [hz hp] at e2
  obtain ⟨e, hu, he⟩ := arV_spec hT
  obtain ⟨dd, i, h1, h2, h3, h4⟩ := tyB_spec he
  have hj := hj hp
  generalize hv : a.eval x = vx at hr
  cases hr with
  | @agg _ vs hvl hel =>
    refine dg_val (v := .agg ((vs.drop (j * sz)).take sz).toArray) hok ?_ (.agg (by simp [hvl]) fun j' d v g1 g2 => ?_)
    · unfold execOp
      simp only [ho, hv, e2]
      refine run_v ?_
      have hagg : (isAgg e).run P s.w = .ok true s.w := by
        unfold isAgg
        rw [Sem.run_bind, run_underlying h1]
        cases dd <;> first | rfl | cases h3
      have hsz : (sizeOf e).run P s.w = .ok sz s.w := by simp [sizeOf, typeInfo, h2, h4]
      have hb : (0 : Int) ≤ (j : Int) ∧ (j : Int) < (n : Int) := by omega
      unfold Instr.index
      simp only [Sem.run_bind, asIntOf, Sem.run_pure, Result.andThen_ok, run_underlying hu, hb, and_self, if_true, hsz, part, hagg, Int.toNat_natCast]
      simp only [List.extract_toArray, List.extract_eq_take_drop, Nat.add_sub_cancel_left]
    · have hj' : j' < sz := by
        have := (List.getElem?_eq_some_iff.1 g1).1
        rw [List.length_take] at this
        omega
      rw [List.getElem?_take_of_lt hj', List.getElem?_drop] at g1 g2
      exact hel _ _ _ g1 g2
end
/-- plain cells, told as a plain struct -/
theorem Wk.aggv (l : List Value) : Wk (.agg (l.map D.val)) (.val (.agg l.toArray)) := fun s v hr => by
  cases hr with
  | @agg _ vs hl h =>
    have : vs = l := by
      apply List.ext_getElem
      · simpa using hl
      · intro j h1 h2
        exact (h j (.val l[j]) vs[j] (by rw [List.getElem?_map, List.getElem?_eq_getElem h2]; rfl) (List.getElem?_eq_getElem h1)).val_eq
    subst this
    exact .val _
/-- a plain struct behind a pointer into memory that stays -/
theorem op_lddv {P : Program} {pc : Bool} {o : Oper} {F : Fr} {M : List Blk} {T : TypeId} {x : Operand} {k : Nat} {l : List D} (L : List Value) (ho : o.op = .load T x) (hT : tyB P T = some (true, k)) (hx : Ev pc F x (.dpm l)) (hL : l.take k = L.map D.val) (hk : L.length = k) : DOp P pc o F M [] (.val (.agg L.toArray)) [] :=
  (op_lddr (R := L.map D.val) ho hT hx hL (by simpa using hk)).wk (Wk.aggv L)
end Go.Proofs.YtmacjicebemgoaaGreat
namespace Go.Proofs.YtmacjicebemgoaaGreat
set_option linter.unusedVariables false
set_option linter.unusedSimpArgs false
open Go.RowKit
theorem mixed : Tryz.prog.follows .mixedOrders = true := by kernel_rfl
structure I3 where
  t : Int
  s : Int
  q : Int
deriving DecidableEq
def idc (i : I3) : List Value := [.int .u64 i.t, .int .i64 i.s, .int .u64 i.q]
def isNum (n : Int) : Bool := decide (1 ≤ n) && decide (n ≤ 4611686018427387904)
def isSt (n : Int) : Bool := decide (1 ≤ n) && decide (n ≤ 8)
def mayR (i : I3) : Bool := isNum i.t && (isSt i.s && isNum i.q)
def errOr (b : Bool) (n : Int) : Int := match b with | true => 0 | false => n
def lessR (a b : I3) : Bool := if a.t ≠ b.t then decide (a.t < b.t) else if a.s ≠ b.s then decide (a.s < b.s) else decide (a.q < b.q)
def cmpI (x y : Int) : Int := if x < y then -1 else if y < x then 1 else 0
def orL : List Int → Int
  | [] => 0
  | a :: l => if a ≠ 0 then a else orL l
theorem orL_drop {l : List Int} {k : Nat} (h : k < l.length) : orL (l.drop k) = if l[k] ≠ 0 then l[k] else orL (l.drop (k + 1)) := by
  rw [List.drop_eq_getElem_cons h, orL]
def eqI (a b : I3) : Bool := (a.t == b.t) && ((a.s == b.s) && ((a.q == b.q) && true))
theorem eqI_iff {a b : I3} : eqI a b = true ↔ a = b := by
  obtain ⟨t, s, q⟩ := a
  obtain ⟨t', s', q'⟩ := b
  simp [eqI]
def cmpR (a b : I3) : Int := if eqI a b then 0 else orL [cmpI a.t b.t, cmpI a.s b.s, cmpI a.q b.q]
def lessC (a b : I3) : Bool := decide (cmpR a b < 0)
theorem lessC_R (a b : I3) : lessC a b = lessR a b := by
  obtain ⟨t, s, q⟩ := a
  obtain ⟨t', s', q'⟩ := b
  unfold lessC lessR cmpR
  simp only [eqI, orL, cmpI]
  by_cases h1 : t = t' <;> by_cases h2 : s = s' <;> by_cases h3 : q = q' <;> simp_all <;> (repeat' split) <;> simp_all <;> omega
def inI (n : Int) : List Value := [.int .i64 n]
structure C4 where
  r : Int
  g : Int
  b : Int
  a : Int
deriving DecidableEq
def c4 (c : C4) : List Value := [.int .u8 c.r, .int .u8 c.g, .int .u8 c.b, .int .u8 c.a]
def zC4 : C4 := ⟨0, 0, 0, 0⟩
def zI3 : I3 := ⟨0, 0, 0⟩
def eqC (u v : C4) : Bool := (u.r == v.r) && ((u.g == v.g) && ((u.b == v.b) && ((u.a == v.a) && true)))
theorem eqC_iff {u v : C4} : eqC u v = decide (u = v) := by
  obtain ⟨r, g, b, a⟩ := u
  obtain ⟨r', g', b', a'⟩ := v
  rw [Bool.eq_iff_iff]
  simp [eqC]
/-- an operation -/
structure OpM where
  id : I3
  kd : Int
  x : Int
  y : Int
  x2 : Int
  y2 : Int
  sz : Int
  co : C4
  sw : Int
  sh : Int
  px : List C4
  tg : I3
deriving DecidableEq
def iD (n : Int) : D := .val (.int .i64 n)
abbrev pxD (l : List C4) : D := .slf 4 l.length (l.flatMap c4)
def opD (o : OpM) : List D := [.val (.int .u64 o.id.t), .val (.int .i64 o.id.s), .val (.int .u64 o.id.q), .val (.int .i64 o.kd), .val (.int .i64 o.x), .val (.int .i64 o.y), .val (.int .i64 o.x2), .val (.int .i64 o.y2), .val (.int .i64 o.sz),
  .val (.int .u8 o.co.r), .val (.int .u8 o.co.g), .val (.int .u8 o.co.b), .val (.int .u8 o.co.a), .val (.int .i64 o.sw), .val (.int .i64 o.sh), pxD o.px, .val (.int .u64 o.tg.t), .val (.int .i64 o.tg.s), .val (.int .u64 o.tg.q)]
def drB (n : Int) : Bool := decide (-64 ≤ n) && decide (n ≤ 127)
def siD (n : Int) : Bool := decide (1 ≤ n) && decide (n ≤ 8)
def stB (w h : Int) (l : List C4) : Bool := siD w && siD h && decide ((l.length : Int) = w * h)
def mostK (k : Int) : Int := if k = 5 then 1020 else if k = 1 ∨ k = 2 then 15 else 0
def opB (o : OpM) : Bool :=
  (decide (1 ≤ o.kd) && decide (o.kd ≤ 8)) && mayR o.id
  && (if o.kd ≤ 6 then drB o.x && drB o.y else decide (o.x = 0) && decide (o.y = 0))
  && (if o.kd ≤ 4 then drB o.x2 && drB o.y2 else decide (o.x2 = 0) && decide (o.y2 = 0))
  && (if o.kd = 1 ∨ o.kd = 2 ∨ o.kd = 5 then decide (0 ≤ o.sz) && decide (o.sz ≤ mostK o.kd) else decide (o.sz = 0))
  && (decide (o.kd ≤ 5) || decide (o.co = zC4))
  && (if o.kd = 6 then stB o.sw o.sh o.px else decide (o.sw = 0) && decide (o.sh = 0) && decide (o.px = []))
  && (if 7 ≤ o.kd then mayR o.tg && lessR o.tg o.id else decide (o.tg = zI3))
/-- numbers of sites, by their numbers -/
abbrev Vec := Nat → Nat
def c9 (v : Vec) : List Value := [.int .u64 (v 0), .int .u64 (v 1), .int .u64 (v 2), .int .u64 (v 3), .int .u64 (v 4), .int .u64 (v 5), .int .u64 (v 6), .int .u64 (v 7), .int .u64 (v 8)]
def upV {α : Type} (v : Nat → α) (j : Nat) (x : α) : Nat → α := fun i => if i = j then x else v i
theorem lt9 {P : Nat → Prop} (h0 : P 0) (h1 : P 1) (h2 : P 2) (h3 : P 3) (h4 : P 4) (h5 : P 5) (h6 : P 6) (h7 : P 7) (h8 : P 8) : ∀ j, j < 9 → P j
  | 0, _ => h0 | 1, _ => h1 | 2, _ => h2 | 3, _ => h3 | 4, _ => h4 | 5, _ => h5 | 6, _ => h6 | 7, _ => h7 | 8, _ => h8
  | n + 9, h => absurd h (by omega)
theorem c9_at (v : Vec) : ∀ j, j < 9 → (c9 v)[j]? = some (.int .u64 (v j)) := lt9 rfl rfl rfl rfl rfl rfl rfl rfl rfl
def z9 : Vec := fun _ => 0
/-- a pledge -/
structure Pl where
  inn : Bool
  fl : Nat
  fs : Nat
  has : Vec
/-- a frontier -/
structure FrM where
  fo : Nat
  bv : Vec
  pr : Nat
  st : Nat → Pl
def FrM.sw (f : FrM) (j : Nat) (p : Pl) : FrM := { f with st := upV f.st j p }
def eqV (v w : Vec) : Bool := (List.range 9).all fun i => v i == w i
theorem all9 {P : Nat → Bool} : (List.range 9).all P = true ↔ ∀ i, i < 9 → P i = true := by
  simp
abbrev LAST : Nat := 4611686018427387904
def vB (v : Vec) : Bool := decide (v 0 = 0) && (List.range 9).all fun i => decide (v i ≤ LAST)
theorem vB_iff {v : Vec} : vB v = true ↔ v 0 = 0 ∧ ∀ i, i < 9 → v i ≤ LAST := by
  unfold vB
  rw [Bool.and_eq_true, all9]
  simp
def flL (n : Nat) (l : List Pl) : Nat := l.foldl (fun m q => max m q.fl) n
def vOne (v : Vec) (i : Nat) : Prop := v i ≤ 4611686018427387904 ∧ (i = 0 → v i = 0)
theorem vB_all {v : Vec} : vB v = true ↔ ∀ i, i < 9 → vOne v i := by
  rw [vB_iff]
  constructor
  · intro h i hi
    exact ⟨h.2 i hi, fun e => by rw [e]; exact h.1⟩
  · intro h
    exact ⟨(h 0 (by omega)).2 rfl, fun i hi => (h i hi).1⟩
theorem vB_no {v : Vec} {i : Nat} (hi : i < 9) (h : ¬ vOne v i) : vB v = false := by
  rw [← Bool.not_eq_true, vB_all]
  exact fun e => h (e i hi)
theorem vOne_step {v : Vec} {k : Nat} (h : ∀ i, i < k → vOne v i) (hk : vOne v k) : ∀ i, i < k + 1 → vOne v i := fun i hi => by
  by_cases e : i = k
  · rw [e]; exact hk
  · exact h i (by omega)
theorem vB_eq0 {v : Vec} (h : ∀ i, i < 9 → v i = 0) : vB v = true := vB_all.2 fun i hi => ⟨by rw [h i hi]; omega, fun _ => h i hi⟩
theorem c9_atp {v : Vec} {p j : Nat} (hp : p = j) (hj : j < 9) : (c9 v)[p]? = some (.int .u64 (v j)) := by rw [hp]; exact c9_at v j hj
def eqn (a b : Nat) : Bool := (a : Int) == (b : Int)
theorem eqn_eq (a b : Nat) : eqn a b = (a == b) := by
  unfold eqn
  rw [Bool.eq_iff_iff]
  simp
  omega
def eqVx (v w : Vec) : Bool := eqn (v 0) (w 0) && (eqn (v 1) (w 1) && (eqn (v 2) (w 2) && (eqn (v 3) (w 3) && (eqn (v 4) (w 4) && (eqn (v 5) (w 5) && (eqn (v 6) (w 6) && (eqn (v 7) (w 7) && (eqn (v 8) (w 8) && true))))))))
theorem eqVx_eq (v w : Vec) : eqVx v w = eqV v w := by
  unfold eqVx eqV
  simp only [eqn_eq, List.range, List.range.loop, List.all_cons, List.all_nil]
theorem eqV_z9 {v : Vec} (h : eqV v z9 = true) : vB v = true := vB_eq0 fun i hi => by
  unfold eqV at h
  rw [all9] at h
  simpa [z9] using h i hi
theorem errz (b : Bool) {n : Int} (hn : n ≠ 0) : (errOr b n == 0) = b := by
  cases b
  · exact beq_eq_false_iff_ne.2 hn
  · rfl
theorem notT {b : Bool} (h : (!b) = true) : b = false := by cases b <;> simp_all
theorem notF {b : Bool} (h : (!b) = false) : b = true := by cases b <;> simp_all
/-- bytes -/
def uc8 (n : Int) : List Value := [.int .u8 n]
def ic (n : Int) : List Value := [.int .i64 n]
def uc (n : Int) : List Value := [.int .u64 n]
def isW (n : Int) : Bool := decide (1 ≤ n) && decide (n ≤ 8)
def fitsN (w : Nat) (n : Int) : Bool := decide (w = 8) || decide (n / 2 ^ (8 * w) = 0)
def lowN (n : Int) : Nat → List Int
  | 0 => List.replicate 8 0
  | k + 1 => (lowN n k).set (7 - k) (IntKind.u8.wrap (n / 2 ^ (8 * k)))
theorem lowN_len (n : Int) : ∀ k, (lowN n k).length = 8
  | 0 => rfl
  | k + 1 => by rw [lowN, List.length_set, lowN_len n k]
def bytesN (w : Nat) (n : Int) : List Int := (lowN n 8).drop (8 - w)
theorem bytesN_len {w : Nat} {n : Int} (h : w ≤ 8) : (bytesN w n).length = w := by rw [bytesN, List.length_drop, lowN_len]; omega
theorem bn_t {b : Bool} (h : (!b) = true) : b = false := by cases b <;> simp_all
theorem bn_f {b : Bool} (h : (!b) = false) : b = true := by cases b <;> simp_all
theorem isW_iff {n : Int} : isW n = true ↔ 1 ≤ n ∧ n ≤ 8 := by simp [isW]
theorem uc8_len (n : Int) : (uc8 n).length = 1 := rfl
theorem fl8 (l : List Int) : (l.flatMap uc8).length = l.length := by rw [flat_len uc8_len, Nat.mul_one]
theorem lay_one {A B : List Value} {z : Value} {p m r : Nat} (hp : p = A.length) (hm : B.length = m) : setL (A ++ List.replicate (m + r) z) p B = A ++ B ++ List.replicate r z := by
  subst hp hm
  rw [setL_eq _ _ _ (by simp), List.take_left, List.drop_append]
  congr 1
  rw [List.drop_of_length_le (by omega), List.nil_append, List.drop_replicate]
  congr 1
  omega
theorem beh2 (l1 l2 : List Int) {z : Value} (p0 p1 k1 k2 : Nat) (h0 : p0 = 0) (h1 : k1 = l1.length) (h2 : p1 = l1.length) (h3 : k2 = l2.length) :
    setL (setL (List.replicate (l1.length + l2.length) z) p0 ((l1.flatMap uc8).take k1)) p1 ((l2.flatMap uc8).take k2) = (l1 ++ l2).flatMap uc8 := by
  rw [List.take_of_length_le (by rw [fl8]; omega), List.take_of_length_le (by rw [fl8]; omega)]
  have e1 := lay_one (A := []) (B := l1.flatMap uc8) (z := z) (p := p0) (m := l1.length) (r := l2.length) h0 (fl8 _)
  rw [List.nil_append, List.nil_append] at e1
  rw [e1]
  have e2 := lay_one (A := l1.flatMap uc8) (B := l2.flatMap uc8) (z := z) (p := p1) (m := l2.length) (r := 0) (by rw [fl8]; exact h2) (fl8 _)
  rw [Nat.add_zero] at e2
  rw [e2, List.flatMap_append]
  simp
def numR (acc b : Int) : Int := orZ .u64 (IntKind.u64.wrap (acc * 2 ^ 8)) (IntKind.u64.wrap b)
def numN (w : Nat) (l : List Int) : Int := (l.take w).foldl numR 0
theorem numN_succ {k : Nat} {l : List Int} (h : k < l.length) : numN (k + 1) l = numR (numN k l) l[k] := by
  rw [numN, List.take_succ_eq_append_getElem h, List.foldl_append]; rfl
theorem numN_all {w : Nat} {l : List Int} (h : l.length ≤ w) : numN w l = numN l.length l := by
  rw [numN, numN, List.take_of_length_le h, List.take_length]
theorem div_bd {n : Int} (h : 0 ≤ n) (k : Nat) : 0 ≤ n / 256 ^ k ∧ n / 256 ^ k ≤ n :=
  ⟨Int.ediv_nonneg h (Int.le_of_lt (Int.pow_pos (by decide))), Int.ediv_le_self _ h⟩
def layR (n : Int) : Nat → List Int
  | 0 => []
  | k + 1 => IntKind.u8.wrap (n / 256 ^ k % 256) :: layR n k
theorem layR_len (n : Int) : ∀ k, (layR n k).length = k
  | 0 => rfl
  | k + 1 => by rw [layR, List.length_cons, layR_len n k]
theorem layR_head (a w : Nat) : layR (a : Int) (w + 1) = ((a / 256 ^ w % 256 : Nat) : Int) :: layR (a : Int) w := by
  rw [layR]
  congr 1
  have e : ((a : Int) / 256 ^ w % 256) = ((a / 256 ^ w % 256 : Nat) : Int) := by
    rw [Int.natCast_emod, Int.natCast_ediv, Int.natCast_pow]; rfl
  rw [e]
  exact IntWalk.u8_in _ (by omega)
theorem bytes_lay (n : Int) : ∀ w : Nat, 1 ≤ w ∧ w ≤ 8 → bytesN w n = layR n w := by
  intro w hw
  have wr : ∀ x : Int, IntKind.u8.wrap x = IntKind.u8.wrap (x % 256) := fun x => by rw [IntKind.wrap_u8, IntKind.wrap_u8]; omega
  have : w = 1 ∨ w = 2 ∨ w = 3 ∨ w = 4 ∨ w = 5 ∨ w = 6 ∨ w = 7 ∨ w = 8 := by omega
  rcases this with rfl | rfl | rfl | rfl | rfl | rfl | rfl | rfl <;> simp [bytesN, lowN, layR, ← wr]
theorem eq25 {v w : Vec} : eqT Tryz.prog 9 25 (c9 v) (c9 w) = some (eqV v w) := by
  rw [← eqVx_eq]; kernel_rfl
theorem gd25 : Tryz.prog.eqGuardType Tryz.prog.depth 25 = false := by kernel_rfl
theorem zr25 : zrC Tryz.prog 25 = some (c9 z9) := by kernel_rfl
end Go.Proofs.YtmacjicebemgoaaGreat
namespace Go.Proofs.YtmacjicebemgoaaGreat
set_option linter.unusedVariables false
set_option linter.unusedSimpArgs false
open Go.RowKit
theorem ar25 : arE Tryz.prog 25 = some (9, 1) := by kernel_rfl
theorem aw25 : arW Tryz.prog 25 = some 9 := by kernel_rfl
theorem tb25 : tyB Tryz.prog 25 = some (true, 9) := by kernel_rfl
set_option maxRecDepth 4000 in
set_option maxHeartbeats 1000000 in
theorem refVR_d (v : Vec) : DFun Tryz.prog 12 [.val (.agg (c9 v).toArray)] [] (.val (.bool (vB v))) [] := by
  refine zaj (N := 21) 0 (by kernel_rfl) Tryz.func12 rfl rfl rfl (by simp only [fr0, Nat.zero_add, Nat.reduceAdd]; exact rfl) rfl fun s0 hs0 => ?_
  refine zaf ?_
  refine zai 1 (by simp only [holes, List.cons_append, List.nil_append]; exact rfl) ?_
  refine zac ?_
  refine zak rfl rfl rfl (op_boxa 0 rfl (ev1 rfl) rfl) (by simp only [upd, zaa, zab]; exact rfl) ?_
  refine za rfl rfl rfl (zad (.inr rfl) (ev1 rfl)) ?_
  refine zae ?_
  refine zaf ?_
  refine zaf ?_
  refine zac ?_
  refine za rfl rfl rfl (op_ldw rfl tb25 (ev1 rfl) rfl rfl) ?_
  refine za rfl rfl rfl (zad (.inl rfl) (ev1 rfl)) ?_
  refine zae ?_
  refine dwp_block ?_
  refine dwp_loopS ⟨hs0, rfl⟩ (α := Nat) (fun k => [(6, .val (.int .i64 (k : Int)))]) [(5, _)] (fun k => []) [_] (fun k => k ≤ 9 ∧ ∀ i, i < k → vOne v i) (fun k => 9 - k) 0 [0] (⟨by omega, fun i hi => absurd hi (by omega)⟩) rfl ⟨rfl, trivial⟩ ⟨rfl, trivial⟩ ⟨rfl, trivial⟩ ?_
  intro k hx
  simp only [upd, zaa, zab, List.cons_append, List.nil_append]
  obtain ⟨hk, he⟩ := hx
  refine zaf ?_
  refine zac ?_
  refine za rfl rfl rfl (op_lss rfl (ev1 rfl) (ev1 rfl)) ?_
  refine zae ?_
  refine zaf ?_
  refine dwp_cond rfl (fun c1 => ?_) (fun c1 => ?_)
  · try simp only [decide_eq_true_eq, decide_eq_false_iff_not, beq_iff_eq, bne_iff_ne, beq_eq_false_iff_ne, bne_eq_false_iff_eq, Bool.not_eq_true', Bool.not_eq_false', Bool.and_eq_true, Bool.or_eq_true, Bool.or_eq_false_iff, ne_eq, Decidable.not_not, Int.not_lt, Int.not_le] at c1
    refine zam ?_
    refine zaf ?_
    refine dwp_block ?_
    refine zaf ?_
    refine zac ?_
    refine za rfl rfl rfl (zad (.inl rfl) (ev1 rfl)) ?_
    refine za rfl rfl rfl (op_ixu (k) rfl aw25 (ev1 rfl) (ev1 rfl) (fun _ => rfl) (by omega) (c9_at v _ (by omega))) ?_
    refine za rfl rfl rfl (zad (.inr rfl) (ev1 rfl)) ?_
    refine za rfl rfl rfl (zad (.inr rfl) (ev1 rfl)) ?_
    refine zae ?_
    refine zaf ?_
    refine zac ?_
    refine za rfl rfl rfl (zad (.inl rfl) (ev1 rfl)) ?_
    refine za rfl rfl rfl (op_gtr rfl (ev1 rfl) (ev1 rfl)) ?_
    refine za rfl rfl rfl (zad (.inl rfl) (ev1 rfl)) ?_
    refine zah (gd_f rfl rfl rfl) rfl rfl rfl (zad (.inl rfl) (ev1 rfl)) ?_
    refine zah (gd_f rfl rfl rfl) rfl rfl rfl (op_eql rfl (ev2 rfl) (ev1 rfl)) ?_
    refine zah (gd_f rfl rfl rfl) rfl rfl rfl (zad (.inl rfl) (ev2 rfl)) ?_
    refine zah (gd_tt rfl rfl rfl) rfl rfl rfl (zad (.inl rfl) (ev1 rfl)) ?_
    refine zah (gd_tt rfl rfl rfl) rfl rfl rfl (op_neq rfl (ev2 rfl) (ev1 rfl)) ?_
    refine zah (gd_f rfl rfl rfl) rfl rfl rfl (op_and rfl (ev2 rfl) (ev2 rfl)) ?_
    refine za rfl rfl rfl (op_or rfl (ev1 rfl) (ev3 rfl id)) ?_
    refine zae ?_
    refine dwp_cond rfl (fun c2 => ?_) (fun c2 => ?_)
    · try simp only [decide_eq_true_eq, decide_eq_false_iff_not, beq_iff_eq, bne_iff_ne, beq_eq_false_iff_ne, bne_eq_false_iff_eq, Bool.not_eq_true', Bool.not_eq_false', Bool.and_eq_true, Bool.or_eq_true, Bool.or_eq_false_iff, ne_eq, Decidable.not_not, Int.not_lt, Int.not_le] at c2
      refine zaf ?_
      refine zac ?_
      refine za rfl rfl rfl (zad (.inr rfl) (ev1 rfl)) ?_
      refine zae ?_
      refine zan ?_
      refine kend0 (rs1 rfl (rv_t rfl)) rfl ?_
      rw [vB_no (i := k) (by omega) (fun h => by unfold vOne at h; omega)]
    · try simp only [decide_eq_true_eq, decide_eq_false_iff_not, beq_iff_eq, bne_iff_ne, beq_eq_false_iff_ne, bne_eq_false_iff_eq, Bool.not_eq_true', Bool.not_eq_false', Bool.and_eq_true, Bool.or_eq_true, Bool.or_eq_false_iff, ne_eq, Decidable.not_not, Int.not_lt, Int.not_le] at c2
      have hov : vOne v k := ⟨by simp at c2; omega, fun e => by simp at c2; omega⟩
      refine zam ?_
      refine zac ?_
      refine za rfl rfl rfl (op_add' rfl (ev1 rfl) (ev1 rfl) (fun _ => IntWalk.i64_in _ (by omega))) ?_
      refine za rfl rfl rfl (zad (.inl rfl) (ev1 rfl)) ?_
      refine zae ?_
      refine ⟨k + 1, [0], ⟨by omega, vOne_step he hov⟩, by simp only []; omega, rfl, ⟨rfl, rfl, trivial⟩, ⟨rfl, trivial⟩⟩
  · try simp only [decide_eq_true_eq, decide_eq_false_iff_not, beq_iff_eq, bne_iff_ne, beq_eq_false_iff_ne, bne_eq_false_iff_eq, Bool.not_eq_true', Bool.not_eq_false', Bool.and_eq_true, Bool.or_eq_true, Bool.or_eq_false_iff, ne_eq, Decidable.not_not, Int.not_lt, Int.not_le] at c1
    refine dwp_exit ?_
    refine zaf ?_
    refine zac ?_
    refine za rfl rfl rfl (zad (.inr rfl) (ev1 rfl)) ?_
    refine zae ?_
    refine zan ?_
    refine kend0 (rs1 rfl (rv_t rfl)) rfl ?_
    rw [vB_all.2 fun i hi => he i (by omega)]
set_option maxRecDepth 4000 in
set_option maxHeartbeats 1000000 in
theorem vCheck_d (v : Vec) : DFun Tryz.prog 36 [.val (.agg (c9 v).toArray)] [] (.val (.int .i64 (errOr (vB v) 230))) [] := by
  refine zaj (N := 24) 0 (by kernel_rfl) Tryz.func36 rfl rfl rfl (by simp only [fr0, Nat.zero_add, Nat.reduceAdd]; exact rfl) rfl fun s0 hs0 => ?_
  refine zaf ?_
  refine zai 1 (by simp only [holes, List.cons_append, List.nil_append]; exact rfl) ?_
  refine zac ?_
  refine zak rfl rfl rfl (op_boxa 0 rfl (ev1 rfl) rfl) (by simp only [upd, zaa, zab]; exact rfl) ?_
  refine za rfl rfl rfl (zad (.inr rfl) (ev1 rfl)) ?_
  refine zae ?_
  refine zaf ?_
  refine zaf ?_
  refine zac ?_
  refine za rfl rfl rfl (op_ldw rfl tb25 (ev1 rfl) rfl rfl) ?_
  refine za rfl rfl rfl (op_build0a rfl ar25 zr25) ?_
  refine za rfl rfl rfl (op_eqr eq25 rfl gd25 tb25 (ev1 rfl) (ev1 rfl)) ?_
  refine zae ?_
  refine dwp_cond rfl (fun c1 => ?_) (fun c1 => ?_)
  · refine zaf ?_
    refine zac ?_
    refine za rfl rfl rfl (zad (.inr rfl) (ev1 rfl)) ?_
    refine zae ?_
    refine zan ?_
    refine kend0 (rs1 rfl (rv_t rfl)) rfl ?_
    rw [eqV_z9 c1]
    rfl
  · refine zam ?_
    refine zaf ?_
    refine zaf ?_
    refine zac ?_
    refine za rfl rfl rfl (op_ldw rfl tb25 (ev1 rfl) rfl rfl) ?_
    refine za rfl rfl rfl (zad (.inl rfl) (ev1 rfl)) ?_
    refine zae ?_
    refine dwp_block ?_
    refine dwp_loopS ⟨hs0, rfl⟩ (α := Nat) (fun k => [(9, .val (.int .i64 (k : Int)))]) [(8, _)] (fun k => []) [_] (fun k => k ≤ 9 ∧ ∀ i, i < k → vOne v i) (fun k => 9 - k) 0 [0] (⟨by omega, fun i hi => absurd hi (by omega)⟩) rfl ⟨rfl, trivial⟩ ⟨rfl, trivial⟩ ⟨rfl, trivial⟩ ?_
    intro k hx
    simp only [upd, zaa, zab, List.cons_append, List.nil_append]
    obtain ⟨hk, he⟩ := hx
    refine zaf ?_
    refine zac ?_
    refine za rfl rfl rfl (op_lss rfl (ev1 rfl) (ev1 rfl)) ?_
    refine zae ?_
    refine zaf ?_
    refine dwp_cond rfl (fun c2 => ?_) (fun c2 => ?_)
    · try simp only [decide_eq_true_eq, decide_eq_false_iff_not, beq_iff_eq, bne_iff_ne, beq_eq_false_iff_ne, bne_eq_false_iff_eq, Bool.not_eq_true', Bool.not_eq_false', Bool.and_eq_true, Bool.or_eq_true, Bool.or_eq_false_iff, ne_eq, Decidable.not_not, Int.not_lt, Int.not_le] at c2
      refine zam ?_
      refine zaf ?_
      refine dwp_block ?_
      refine zaf ?_
      refine zac ?_
      refine za rfl rfl rfl (zad (.inl rfl) (ev1 rfl)) ?_
      refine za rfl rfl rfl (op_ixu (k) rfl aw25 (ev1 rfl) (ev1 rfl) (fun _ => rfl) (by omega) (c9_at v _ (by omega))) ?_
      refine za rfl rfl rfl (zad (.inr rfl) (ev1 rfl)) ?_
      refine za rfl rfl rfl (zad (.inr rfl) (ev1 rfl)) ?_
      refine zae ?_
      refine zaf ?_
      refine zac ?_
      refine za rfl rfl rfl (zad (.inl rfl) (ev1 rfl)) ?_
      refine za rfl rfl rfl (op_gtr rfl (ev1 rfl) (ev1 rfl)) ?_
      refine za rfl rfl rfl (zad (.inl rfl) (ev1 rfl)) ?_
      refine zah (gd_f rfl rfl rfl) rfl rfl rfl (zad (.inl rfl) (ev1 rfl)) ?_
      refine zah (gd_f rfl rfl rfl) rfl rfl rfl (op_eql rfl (ev2 rfl) (ev1 rfl)) ?_
      refine zah (gd_f rfl rfl rfl) rfl rfl rfl (zad (.inl rfl) (ev2 rfl)) ?_
      refine zah (gd_tt rfl rfl rfl) rfl rfl rfl (zad (.inl rfl) (ev1 rfl)) ?_
      refine zah (gd_tt rfl rfl rfl) rfl rfl rfl (op_gtr rfl (ev2 rfl) (ev1 rfl)) ?_
      refine zah (gd_f rfl rfl rfl) rfl rfl rfl (op_and rfl (ev2 rfl) (ev2 rfl)) ?_
      refine za rfl rfl rfl (op_or rfl (ev1 rfl) (ev3 rfl id)) ?_
      refine zae ?_
      refine dwp_cond rfl (fun c2 => ?_) (fun c2 => ?_)
      · try simp only [decide_eq_true_eq, decide_eq_false_iff_not, beq_iff_eq, bne_iff_ne, beq_eq_false_iff_ne, bne_eq_false_iff_eq, Bool.not_eq_true', Bool.not_eq_false', Bool.and_eq_true, Bool.or_eq_true, Bool.or_eq_false_iff, ne_eq, Decidable.not_not, Int.not_lt, Int.not_le] at c2
        refine zaf ?_
        refine zac ?_
        refine za rfl rfl rfl (zad (.inr rfl) (ev1 rfl)) ?_
        refine zae ?_
        refine zan ?_
        refine kend0 (rs1 rfl (rv_t rfl)) rfl ?_
        rw [vB_no (i := k) (by omega) (fun h => by unfold vOne at h; omega)]
        rfl
      · try simp only [decide_eq_true_eq, decide_eq_false_iff_not, beq_iff_eq, bne_iff_ne, beq_eq_false_iff_ne, bne_eq_false_iff_eq, Bool.not_eq_true', Bool.not_eq_false', Bool.and_eq_true, Bool.or_eq_true, Bool.or_eq_false_iff, ne_eq, Decidable.not_not, Int.not_lt, Int.not_le] at c2
        have hov : vOne v k := ⟨by simp at c2; omega, fun e => by simp at c2; omega⟩
        refine zam ?_
        refine zac ?_
        refine za rfl rfl rfl (op_add' rfl (ev1 rfl) (ev1 rfl) (fun _ => IntWalk.i64_in _ (by omega))) ?_
        refine za rfl rfl rfl (zad (.inl rfl) (ev1 rfl)) ?_
        refine zae ?_
        refine ⟨k + 1, [0], ⟨by omega, vOne_step he hov⟩, by simp only []; omega, rfl, ⟨rfl, rfl, trivial⟩, ⟨rfl, trivial⟩⟩
    · try simp only [decide_eq_true_eq, decide_eq_false_iff_not, beq_iff_eq, bne_iff_ne, beq_eq_false_iff_ne, bne_eq_false_iff_eq, Bool.not_eq_true', Bool.not_eq_false', Bool.and_eq_true, Bool.or_eq_true, Bool.or_eq_false_iff, ne_eq, Decidable.not_not, Int.not_lt, Int.not_le] at c2
      refine dwp_exit ?_
      refine zaf ?_
      refine zac ?_
      refine za rfl rfl rfl (zad (.inr rfl) (ev1 rfl)) ?_
      refine zae ?_
      refine zan ?_
      refine kend0 (rs1 rfl (rv_t rfl)) rfl ?_
      rw [vB_all.2 fun i hi => he i (by omega)]
      rfl
end Go.Proofs.YtmacjicebemgoaaGreat
namespace Go.Proofs.YtmacjicebemgoaaGreat
set_option linter.unusedVariables false
set_option linter.unusedSimpArgs false
open Go.RowKit
theorem eq29 {a b : I3} : eqT Tryz.prog 9 29 (idc a) (idc b) = some (eqI a b) := by kernel_rfl
theorem fo29_0 : fdO Tryz.prog 29 0 = some 0 := by kernel_rfl
theorem fo29_1 : fdO Tryz.prog 29 1 = some 1 := by kernel_rfl
theorem fo29_2 : fdO Tryz.prog 29 2 = some 2 := by kernel_rfl
theorem gd29 : Tryz.prog.eqGuardType Tryz.prog.depth 29 = false := by kernel_rfl
theorem sl87 : slE Tryz.prog 87 = some (3, 1, 8) := by kernel_rfl
theorem tb23 : tyB Tryz.prog 23 = some (false, 1) := by kernel_rfl
theorem tb29 : tyB Tryz.prog 29 = some (true, 3) := by kernel_rfl
theorem tb3 : tyB Tryz.prog 3 = some (false, 1) := by kernel_rfl
theorem zr3 : zrC Tryz.prog 3 = some [.int .i64 0] := by kernel_rfl
set_option maxRecDepth 4000 in
set_option maxHeartbeats 1000000 in
theorem isNaN_u64 (n : Int) : DFun Tryz.prog 204 [.val (.int .u64 n)] [] (.val (.bool false)) [] := by
  refine zaj (N := 6) 0 (by kernel_rfl) Tryz.func204 rfl rfl rfl (by simp only [fr0, Nat.zero_add, Nat.reduceAdd]; exact rfl) rfl fun s0 hs0 => ?_
  refine zaf ?_
  refine zac ?_
  refine za rfl rfl rfl (zad (.inr rfl) (ev1 rfl)) ?_
  refine zae ?_
  refine zaf ?_
  refine zac ?_
  refine za rfl rfl rfl (zad (.inl rfl) (ev1 rfl)) ?_
  refine za rfl rfl rfl (zad (.inl rfl) (ev1 rfl)) ?_
  refine za rfl rfl rfl (op_neq rfl (ev1 rfl) (ev1 rfl)) ?_
  refine za rfl rfl rfl (zad (.inr rfl) (ev1 rfl)) ?_
  refine zae ?_
  refine zan ?_
  refine kend0 (rs1 rfl (rv_t rfl)) rfl ?_
  simp
set_option maxRecDepth 4000 in
set_option maxHeartbeats 1000000 in
theorem cmp_u64 (x y : Int) : DFun Tryz.prog 170 [.val (.int .u64 x), .val (.int .u64 y)] [] (.val (.int .i64 (cmpI x y))) [] := by
  refine zaj (N := 20) 0 (by kernel_rfl) Tryz.func170 rfl rfl rfl (by simp only [fr0, Nat.zero_add, Nat.reduceAdd]; exact rfl) rfl fun s0 hs0 => ?_
  refine zaf ?_
  refine zac ?_
  refine za rfl rfl rfl (zad (.inr rfl) (ev1 rfl)) ?_
  refine zae ?_
  refine zaf ?_
  refine zac ?_
  refine za rfl rfl rfl (zad (.inl rfl) (ev1 rfl)) ?_
  refine za rfl rfl rfl (zag [] [] [] rfl (ev1 rfl) (ec (ev1 rfl) en) rfl rfl (isNaN_u64 _) rfl rfl rfl rfl rfl rfl) ?_
  refine za rfl rfl rfl (zad (.inr rfl) (ev1 rfl)) ?_
  refine zae ?_
  refine zaf ?_
  refine zac ?_
  refine za rfl rfl rfl (zad (.inl rfl) (ev1 rfl)) ?_
  refine za rfl rfl rfl (zag [] [] [] rfl (ev1 rfl) (ec (ev1 rfl) en) rfl rfl (isNaN_u64 _) rfl rfl rfl rfl rfl rfl) ?_
  refine za rfl rfl rfl (zad (.inr rfl) (ev1 rfl)) ?_
  refine zae ?_
  refine zaf ?_
  refine zaf ?_
  refine zac ?_
  refine za rfl rfl rfl (zad (.inl rfl) (ev1 rfl)) ?_
  refine zae ?_
  refine dwp_if_f rfl (rfl) ?_
  refine zam ?_
  refine zaf ?_
  refine zaf ?_
  refine zac ?_
  refine za rfl rfl rfl (zad (.inl rfl) (ev1 rfl)) ?_
  refine zae ?_
  refine dwp_if_f rfl (rfl) ?_
  refine zam ?_
  refine zaf ?_
  refine zaf ?_
  refine zac ?_
  refine za rfl rfl rfl (zad (.inl rfl) (ev1 rfl)) ?_
  refine za rfl rfl rfl (zad (.inl rfl) (ev1 rfl)) ?_
  refine za rfl rfl rfl (op_lss rfl (ev1 rfl) (ev1 rfl)) ?_
  refine zae ?_
  refine dwp_cond rfl (fun c3 => ?_) (fun c3 => ?_)
  · try simp only [decide_eq_true_eq, decide_eq_false_iff_not, beq_iff_eq, bne_iff_ne, beq_eq_false_iff_ne, bne_eq_false_iff_eq, Bool.not_eq_true', Bool.not_eq_false', Bool.and_eq_true, Bool.or_eq_true, Bool.or_eq_false_iff, ne_eq, Decidable.not_not, Int.not_lt, Int.not_le] at c3
    refine zaf ?_
    refine zac ?_
    refine za rfl rfl rfl (zad (.inr rfl) (ev1 rfl)) ?_
    refine zae ?_
    refine zan ?_
    refine kend0 (rs1 rfl (rv_t rfl)) rfl ?_
    simp_all [cmpI]; try omega
  · try simp only [decide_eq_true_eq, decide_eq_false_iff_not, beq_iff_eq, bne_iff_ne, beq_eq_false_iff_ne, bne_eq_false_iff_eq, Bool.not_eq_true', Bool.not_eq_false', Bool.and_eq_true, Bool.or_eq_true, Bool.or_eq_false_iff, ne_eq, Decidable.not_not, Int.not_lt, Int.not_le] at c3
    refine zam ?_
    refine zaf ?_
    refine zaf ?_
    refine zac ?_
    refine za rfl rfl rfl (zad (.inl rfl) (ev1 rfl)) ?_
    refine za rfl rfl rfl (zad (.inl rfl) (ev1 rfl)) ?_
    refine za rfl rfl rfl (op_gtr rfl (ev1 rfl) (ev1 rfl)) ?_
    refine zae ?_
    refine dwp_cond rfl (fun c4 => ?_) (fun c4 => ?_)
    · try simp only [decide_eq_true_eq, decide_eq_false_iff_not, beq_iff_eq, bne_iff_ne, beq_eq_false_iff_ne, bne_eq_false_iff_eq, Bool.not_eq_true', Bool.not_eq_false', Bool.and_eq_true, Bool.or_eq_true, Bool.or_eq_false_iff, ne_eq, Decidable.not_not, Int.not_lt, Int.not_le] at c4
      refine zaf ?_
      refine zac ?_
      refine za rfl rfl rfl (zad (.inr rfl) (ev1 rfl)) ?_
      refine zae ?_
      refine zan ?_
      refine kend0 (rs1 rfl (rv_t rfl)) rfl ?_
      simp_all [cmpI]; try omega
    · try simp only [decide_eq_true_eq, decide_eq_false_iff_not, beq_iff_eq, bne_iff_ne, beq_eq_false_iff_ne, bne_eq_false_iff_eq, Bool.not_eq_true', Bool.not_eq_false', Bool.and_eq_true, Bool.or_eq_true, Bool.or_eq_false_iff, ne_eq, Decidable.not_not, Int.not_lt, Int.not_le] at c4
      refine zam ?_
      refine zaf ?_
      refine zac ?_
      refine za rfl rfl rfl (zad (.inr rfl) (ev1 rfl)) ?_
      refine zae ?_
      refine zan ?_
      refine kend0 (rs1 rfl (rv_t rfl)) rfl ?_
      simp_all [cmpI]; try omega
set_option maxRecDepth 4000 in
set_option maxHeartbeats 1000000 in
theorem isNaN_i64 (n : Int) : DFun Tryz.prog 205 [.val (.int .i64 n)] [] (.val (.bool false)) [] := by
  refine zaj (N := 6) 0 (by kernel_rfl) Tryz.func205 rfl rfl rfl (by simp only [fr0, Nat.zero_add, Nat.reduceAdd]; exact rfl) rfl fun s0 hs0 => ?_
  refine zaf ?_
  refine zac ?_
  refine za rfl rfl rfl (zad (.inr rfl) (ev1 rfl)) ?_
  refine zae ?_
  refine zaf ?_
  refine zac ?_
  refine za rfl rfl rfl (zad (.inl rfl) (ev1 rfl)) ?_
  refine za rfl rfl rfl (zad (.inl rfl) (ev1 rfl)) ?_
  refine za rfl rfl rfl (op_neq rfl (ev1 rfl) (ev1 rfl)) ?_
  refine za rfl rfl rfl (zad (.inr rfl) (ev1 rfl)) ?_
  refine zae ?_
  refine zan ?_
  refine kend0 (rs1 rfl (rv_t rfl)) rfl ?_
  simp
set_option maxRecDepth 4000 in
set_option maxHeartbeats 1000000 in
theorem cmp_i64 (x y : Int) : DFun Tryz.prog 171 [.val (.int .i64 x), .val (.int .i64 y)] [] (.val (.int .i64 (cmpI x y))) [] := by
  refine zaj (N := 20) 0 (by kernel_rfl) Tryz.func171 rfl rfl rfl (by simp only [fr0, Nat.zero_add, Nat.reduceAdd]; exact rfl) rfl fun s0 hs0 => ?_
  refine zaf ?_
  refine zac ?_
  refine za rfl rfl rfl (zad (.inr rfl) (ev1 rfl)) ?_
  refine zae ?_
  refine zaf ?_
  refine zac ?_
  refine za rfl rfl rfl (zad (.inl rfl) (ev1 rfl)) ?_
  refine za rfl rfl rfl (zag [] [] [] rfl (ev1 rfl) (ec (ev1 rfl) en) rfl rfl (isNaN_i64 _) rfl rfl rfl rfl rfl rfl) ?_
  refine za rfl rfl rfl (zad (.inr rfl) (ev1 rfl)) ?_
  refine zae ?_
  refine zaf ?_
  refine zac ?_
  refine za rfl rfl rfl (zad (.inl rfl) (ev1 rfl)) ?_
  refine za rfl rfl rfl (zag [] [] [] rfl (ev1 rfl) (ec (ev1 rfl) en) rfl rfl (isNaN_i64 _) rfl rfl rfl rfl rfl rfl) ?_
  refine za rfl rfl rfl (zad (.inr rfl) (ev1 rfl)) ?_
  refine zae ?_
  refine zaf ?_
  refine zaf ?_
  refine zac ?_
  refine za rfl rfl rfl (zad (.inl rfl) (ev1 rfl)) ?_
  refine zae ?_
  refine dwp_if_f rfl (rfl) ?_
  refine zam ?_
  refine zaf ?_
  refine zaf ?_
  refine zac ?_
  refine za rfl rfl rfl (zad (.inl rfl) (ev1 rfl)) ?_
  refine zae ?_
  refine dwp_if_f rfl (rfl) ?_
  refine zam ?_
  refine zaf ?_
  refine zaf ?_
  refine zac ?_
  refine za rfl rfl rfl (zad (.inl rfl) (ev1 rfl)) ?_
  refine za rfl rfl rfl (zad (.inl rfl) (ev1 rfl)) ?_
  refine za rfl rfl rfl (op_lss rfl (ev1 rfl) (ev1 rfl)) ?_
  refine zae ?_
  refine dwp_cond rfl (fun c3 => ?_) (fun c3 => ?_)
  · try simp only [decide_eq_true_eq, decide_eq_false_iff_not, beq_iff_eq, bne_iff_ne, beq_eq_false_iff_ne, bne_eq_false_iff_eq, Bool.not_eq_true', Bool.not_eq_false', Bool.and_eq_true, Bool.or_eq_true, Bool.or_eq_false_iff, ne_eq, Decidable.not_not, Int.not_lt, Int.not_le] at c3
    refine zaf ?_
    refine zac ?_
    refine za rfl rfl rfl (zad (.inr rfl) (ev1 rfl)) ?_
    refine zae ?_
    refine zan ?_
    refine kend0 (rs1 rfl (rv_t rfl)) rfl ?_
    simp_all [cmpI]; try omega
  · try simp only [decide_eq_true_eq, decide_eq_false_iff_not, beq_iff_eq, bne_iff_ne, beq_eq_false_iff_ne, bne_eq_false_iff_eq, Bool.not_eq_true', Bool.not_eq_false', Bool.and_eq_true, Bool.or_eq_true, Bool.or_eq_false_iff, ne_eq, Decidable.not_not, Int.not_lt, Int.not_le] at c3
    refine zam ?_
    refine zaf ?_
    refine zaf ?_
    refine zac ?_
    refine za rfl rfl rfl (zad (.inl rfl) (ev1 rfl)) ?_
    refine za rfl rfl rfl (zad (.inl rfl) (ev1 rfl)) ?_
    refine za rfl rfl rfl (op_gtr rfl (ev1 rfl) (ev1 rfl)) ?_
    refine zae ?_
    refine dwp_cond rfl (fun c4 => ?_) (fun c4 => ?_)
    · try simp only [decide_eq_true_eq, decide_eq_false_iff_not, beq_iff_eq, bne_iff_ne, beq_eq_false_iff_ne, bne_eq_false_iff_eq, Bool.not_eq_true', Bool.not_eq_false', Bool.and_eq_true, Bool.or_eq_true, Bool.or_eq_false_iff, ne_eq, Decidable.not_not, Int.not_lt, Int.not_le] at c4
      refine zaf ?_
      refine zac ?_
      refine za rfl rfl rfl (zad (.inr rfl) (ev1 rfl)) ?_
      refine zae ?_
      refine zan ?_
      refine kend0 (rs1 rfl (rv_t rfl)) rfl ?_
      simp_all [cmpI]; try omega
    · try simp only [decide_eq_true_eq, decide_eq_false_iff_not, beq_iff_eq, bne_iff_ne, beq_eq_false_iff_ne, bne_eq_false_iff_eq, Bool.not_eq_true', Bool.not_eq_false', Bool.and_eq_true, Bool.or_eq_true, Bool.or_eq_false_iff, ne_eq, Decidable.not_not, Int.not_lt, Int.not_le] at c4
      refine zam ?_
      refine zaf ?_
      refine zac ?_
      refine za rfl rfl rfl (zad (.inr rfl) (ev1 rfl)) ?_
      refine zae ?_
      refine zan ?_
      refine kend0 (rs1 rfl (rv_t rfl)) rfl ?_
      simp_all [cmpI]; try omega
set_option maxRecDepth 4000 in
set_option maxHeartbeats 1000000 in
theorem or_d (l : List Int) : DFun Tryz.prog 169 [.slf 1 (l).length ((l).flatMap inI)] [] (.val (.int .i64 (orL l))) [] := by
  refine zaj (N := 18) 0 (by kernel_rfl) Tryz.func169 rfl rfl rfl (by simp only [fr0, Nat.zero_add, Nat.reduceAdd]; exact rfl) rfl fun s0 hs0 => ?_
  refine dwp_len (t := 0) rfl fun hl0 hL0 => ?_
  refine zaf ?_
  refine zac ?_
  refine za rfl rfl rfl (zad (.inr rfl) (ev1 rfl)) ?_
  refine zae ?_
  refine zaf ?_
  refine zac ?_
  refine za rfl rfl rfl (zad (.inr rfl) (ev1 rfl)) ?_
  refine zae ?_
  refine zaf ?_
  refine zaf ?_
  refine zac ?_
  refine za rfl rfl rfl (zad (.inl rfl) (ev1 rfl)) ?_
  refine za rfl rfl rfl (op_len rfl sl87 (ev1 rfl)) ?_
  refine za rfl rfl rfl (zad (.inl rfl) (ev1 rfl)) ?_
  refine zae ?_
  refine dwp_block ?_
  refine dwp_loopS ⟨hs0, rfl⟩ (α := Nat) (fun k => [(8, .val (.int .i64 (k : Int)))]) [(3, _), (6, _), (7, _)] (fun k => []) [] (fun k => k ≤ l.length ∧ orL l = orL (l.drop k)) (fun k => l.length - k) 0 [] (by simp) rfl ⟨rfl, rfl, rfl, trivial⟩ ⟨rfl, trivial⟩ trivial ?_
  intro k hx
  simp only [upd, zaa, zab, List.cons_append, List.nil_append]
  obtain ⟨hk, he⟩ := hx
  refine zaf ?_
  refine zac ?_
  refine za rfl rfl rfl (op_lss rfl (ev1 rfl) (ev1 rfl)) ?_
  refine zae ?_
  refine zaf ?_
  refine dwp_cond rfl (fun c1 => ?_) (fun c1 => ?_)
  · try simp only [decide_eq_true_eq, decide_eq_false_iff_not, beq_iff_eq, bne_iff_ne, beq_eq_false_iff_ne, bne_eq_false_iff_eq, Bool.not_eq_true', Bool.not_eq_false', Bool.and_eq_true, Bool.or_eq_true, Bool.or_eq_false_iff, ne_eq, Decidable.not_not, Int.not_lt, Int.not_le] at c1
    refine zam ?_
    refine zaf ?_
    refine dwp_block ?_
    refine zaf ?_
    refine zac ?_
    refine za rfl rfl rfl (op_ixsr rfl sl87 (ev1 rfl) (ev1 rfl) (fun _ => rfl) (by decide) rfl (by omega)) ?_
    refine za rfl rfl rfl (op_ldod rfl tb3 (ev1 rfl) rfl) ?_
    refine za rfl rfl rfl (zad (.inr rfl) (ev1 rfl)) ?_
    refine zae ?_
    refine zaf ?_
    refine zac ?_
    refine za rfl rfl rfl (zad (.inl rfl) (ev1 rfl)) ?_
    refine za rfl rfl rfl (zad (.inl rfl) (ev1 rfl)) ?_
    refine za rfl rfl rfl (op_neq rfl (ev1 rfl) (ev1 rfl)) ?_
    refine zae ?_
    refine dwp_cond rfl (fun c2 => ?_) (fun c2 => ?_)
    · try simp only [decide_eq_true_eq, decide_eq_false_iff_not, beq_iff_eq, bne_iff_ne, beq_eq_false_iff_ne, bne_eq_false_iff_eq, Bool.not_eq_true', Bool.not_eq_false', Bool.and_eq_true, Bool.or_eq_true, Bool.or_eq_false_iff, ne_eq, Decidable.not_not, Int.not_lt, Int.not_le] at c2
      refine zaf ?_
      refine zac ?_
      refine za rfl rfl rfl (zad (.inl rfl) (ev1 rfl)) ?_
      refine za rfl rfl rfl (zad (.inr rfl) (ev1 rfl)) ?_
      refine zae ?_
      refine zan ?_
      refine kend0 (rs1 rfl (rv_t rfl)) rfl ?_
      rw [he, orL_drop (by omega)]; simp_all
    · try simp only [decide_eq_true_eq, decide_eq_false_iff_not, beq_iff_eq, bne_iff_ne, beq_eq_false_iff_ne, bne_eq_false_iff_eq, Bool.not_eq_true', Bool.not_eq_false', Bool.and_eq_true, Bool.or_eq_true, Bool.or_eq_false_iff, ne_eq, Decidable.not_not, Int.not_lt, Int.not_le] at c2
      refine zam ?_
      refine zac ?_
      refine za rfl rfl rfl (op_add' rfl (ev1 rfl) (ev1 rfl) (fun _ => IntWalk.i64_in _ (by omega))) ?_
      refine za rfl rfl rfl (zad (.inl rfl) (ev1 rfl)) ?_
      refine zae ?_
      refine ⟨k + 1, [], ⟨by omega, by rw [he, orL_drop (by omega)]; simp_all⟩, by simp only []; omega, rfl, ⟨rfl, rfl, rfl, rfl, trivial⟩, trivial⟩
  · try simp only [decide_eq_true_eq, decide_eq_false_iff_not, beq_iff_eq, bne_iff_ne, beq_eq_false_iff_ne, bne_eq_false_iff_eq, Bool.not_eq_true', Bool.not_eq_false', Bool.and_eq_true, Bool.or_eq_true, Bool.or_eq_false_iff, ne_eq, Decidable.not_not, Int.not_lt, Int.not_le] at c1
    refine dwp_exit ?_
    refine zaf ?_
    refine zac ?_
    refine za rfl rfl rfl (zad (.inl rfl) (ev1 rfl)) ?_
    refine za rfl rfl rfl (zad (.inr rfl) (ev1 rfl)) ?_
    refine zae ?_
    refine zan ?_
    refine kend0 (rs1 rfl (rv_t rfl)) rfl ?_
    rw [he, List.drop_of_length_le (by omega)]; rfl
set_option maxRecDepth 4000 in
set_option maxHeartbeats 1000000 in
theorem isNumber_d (n : Int) : DFun Tryz.prog 64 [.val (.int .u64 n)] [] (.val (.bool (isNum n))) [] := by
  refine zaj (N := 9) 0 (by kernel_rfl) Tryz.func64 rfl rfl rfl (by simp only [fr0, Nat.zero_add, Nat.reduceAdd]; exact rfl) rfl fun s0 hs0 => ?_
  refine zaf ?_
  refine zac ?_
  refine za rfl rfl rfl (zad (.inr rfl) (ev1 rfl)) ?_
  refine zae ?_
  refine zaf ?_
  refine zac ?_
  refine za rfl rfl rfl (zad (.inl rfl) (ev1 rfl)) ?_
  refine za rfl rfl rfl (op_geq rfl (ev1 rfl) (ev1 rfl)) ?_
  refine za rfl rfl rfl (zad (.inl rfl) (ev1 rfl)) ?_
  refine zah (gd_t rfl rfl rfl) rfl rfl rfl (zad (.inl rfl) (ev1 rfl)) ?_
  refine zah (gd_t rfl rfl rfl) rfl rfl rfl (op_leq rfl (ev2 rfl) (ev1 rfl)) ?_
  refine za rfl rfl rfl (op_and rfl (ev1 rfl) (ev3 rfl id)) ?_
  refine za rfl rfl rfl (zad (.inr rfl) (ev1 rfl)) ?_
  refine zae ?_
  refine zan ?_
  refine kend0 (rs1 rfl (rv_t rfl)) rfl ?_
  rfl
set_option maxRecDepth 4000 in
set_option maxHeartbeats 1000000 in
theorem idSite_d (n : Int) : DFun Tryz.prog 65 [.val (.int .i64 n)] [] (.val (.bool (isSt n))) [] := by
  refine zaj (N := 9) 0 (by kernel_rfl) Tryz.func65 rfl rfl rfl (by simp only [fr0, Nat.zero_add, Nat.reduceAdd]; exact rfl) rfl fun s0 hs0 => ?_
  refine zaf ?_
  refine zac ?_
  refine za rfl rfl rfl (zad (.inr rfl) (ev1 rfl)) ?_
  refine zae ?_
  refine zaf ?_
  refine zac ?_
  refine za rfl rfl rfl (zad (.inl rfl) (ev1 rfl)) ?_
  refine za rfl rfl rfl (op_geq rfl (ev1 rfl) (ev1 rfl)) ?_
  refine za rfl rfl rfl (zad (.inl rfl) (ev1 rfl)) ?_
  refine zah (gd_t rfl rfl rfl) rfl rfl rfl (zad (.inl rfl) (ev1 rfl)) ?_
  refine zah (gd_t rfl rfl rfl) rfl rfl rfl (op_leq rfl (ev2 rfl) (ev1 rfl)) ?_
  refine za rfl rfl rfl (op_and rfl (ev1 rfl) (ev3 rfl id)) ?_
  refine za rfl rfl rfl (zad (.inr rfl) (ev1 rfl)) ?_
  refine zae ?_
  refine zan ?_
  refine kend0 (rs1 rfl (rv_t rfl)) rfl ?_
  rfl
set_option maxRecDepth 4000 in
set_option maxHeartbeats 1000000 in
theorem idCheck_d (i : I3) : DFun Tryz.prog 30 [.val (.agg (idc i).toArray)] [] (.val (.int .i64 (errOr (mayR i) 210))) [] := by
  refine zaj (N := 19) 0 (by kernel_rfl) Tryz.func30 rfl rfl rfl (by simp only [fr0, Nat.zero_add, Nat.reduceAdd]; exact rfl) rfl fun s0 hs0 => ?_
  refine zaf ?_
  refine zai 1 (by simp only [holes, List.cons_append, List.nil_append]; exact rfl) ?_
  refine zac ?_
  refine zak rfl rfl rfl (op_boxa 0 rfl (ev1 rfl) rfl) (by simp only [upd, zaa, zab]; exact rfl) ?_
  refine za rfl rfl rfl (zad (.inr rfl) (ev1 rfl)) ?_
  refine zae ?_
  refine zaf ?_
  refine zaf ?_
  refine zac ?_
  refine za rfl rfl rfl (zal rfl fo29_0 (ev1 rfl)) ?_
  refine za rfl rfl rfl (op_ldo rfl tb23 (ev1 rfl) rfl rfl) ?_
  refine za rfl rfl rfl (zag [] [] [] rfl (ev1 rfl) (ec (ev1 rfl) en) rfl rfl (isNumber_d _) rfl rfl rfl rfl rfl rfl) ?_
  refine za rfl rfl rfl (op_not rfl (ev1 rfl)) ?_
  refine za rfl rfl rfl (zad (.inl rfl) (ev1 rfl)) ?_
  refine zah (gd_f rfl rfl rfl) rfl rfl rfl (zal rfl fo29_1 (ev1 rfl)) ?_
  refine zah (gd_f rfl rfl rfl) rfl rfl rfl (op_ldo rfl tb3 (ev2 rfl) rfl rfl) ?_
  refine zah (gd_f rfl rfl rfl) rfl rfl rfl (zag [] [] [] rfl (ev1 rfl) (ec (ev2 rfl) en) rfl rfl (idSite_d _) rfl rfl rfl rfl rfl rfl) ?_
  refine zah (gd_f rfl rfl rfl) rfl rfl rfl (op_not rfl (ev2 rfl)) ?_
  refine za rfl rfl rfl (op_or rfl (ev1 rfl) (ev3 rfl id)) ?_
  refine za rfl rfl rfl (zad (.inl rfl) (ev1 rfl)) ?_
  refine zah (gd_f rfl rfl rfl) rfl rfl rfl (zal rfl fo29_2 (ev1 rfl)) ?_
  refine zah (gd_f rfl rfl rfl) rfl rfl rfl (op_ldo rfl tb23 (ev2 rfl) rfl rfl) ?_
  refine zah (gd_f rfl rfl rfl) rfl rfl rfl (zag [] [] [] rfl (ev1 rfl) (ec (ev2 rfl) en) rfl rfl (isNumber_d _) rfl rfl rfl rfl rfl rfl) ?_
  refine zah (gd_f rfl rfl rfl) rfl rfl rfl (op_not rfl (ev2 rfl)) ?_
  refine za rfl rfl rfl (op_or rfl (ev1 rfl) (ev3 rfl id)) ?_
  refine zae ?_
  refine dwp_cond rfl (fun c1 => ?_) (fun c1 => ?_)
  · try simp only [decide_eq_true_eq, decide_eq_false_iff_not, beq_iff_eq, bne_iff_ne, beq_eq_false_iff_ne, bne_eq_false_iff_eq, Bool.not_eq_true', Bool.not_eq_false', Bool.and_eq_true, Bool.or_eq_true, Bool.or_eq_false_iff, ne_eq, Decidable.not_not, Int.not_lt, Int.not_le] at c1
    refine zaf ?_
    refine zac ?_
    refine za rfl rfl rfl (zad (.inr rfl) (ev1 rfl)) ?_
    refine zae ?_
    refine zan ?_
    refine kend0 (rs1 rfl (rv_t rfl)) rfl ?_
    cases h1 : isNum i.t <;> cases h2 : isSt i.s <;> cases h3 : isNum i.q <;> simp_all [mayR, errOr]
  · try simp only [decide_eq_true_eq, decide_eq_false_iff_not, beq_iff_eq, bne_iff_ne, beq_eq_false_iff_ne, bne_eq_false_iff_eq, Bool.not_eq_true', Bool.not_eq_false', Bool.and_eq_true, Bool.or_eq_true, Bool.or_eq_false_iff, ne_eq, Decidable.not_not, Int.not_lt, Int.not_le] at c1
    refine zam ?_
    refine zaf ?_
    refine zac ?_
    refine za rfl rfl rfl (zad (.inr rfl) (ev1 rfl)) ?_
    refine zae ?_
    refine zan ?_
    refine kend0 (rs1 rfl (rv_t rfl)) rfl ?_
    cases h1 : isNum i.t <;> cases h2 : isSt i.s <;> cases h3 : isNum i.q <;> simp_all [mayR, errOr]
set_option maxRecDepth 4000 in
set_option maxHeartbeats 1000000 in
theorem refSite_d (n : Int) : DFun Tryz.prog 33 [.val (.int .i64 n)] [] (.val (.bool (isSt n))) [] := by
  refine zaj (N := 9) 0 (by kernel_rfl) Tryz.func33 rfl rfl rfl (by simp only [fr0, Nat.zero_add, Nat.reduceAdd]; exact rfl) rfl fun s0 hs0 => ?_
  refine zaf ?_
  refine zac ?_
  refine za rfl rfl rfl (zad (.inr rfl) (ev1 rfl)) ?_
  refine zae ?_
  refine zaf ?_
  refine zac ?_
  refine za rfl rfl rfl (zad (.inl rfl) (ev1 rfl)) ?_
  refine za rfl rfl rfl (op_geq rfl (ev1 rfl) (ev1 rfl)) ?_
  refine za rfl rfl rfl (zad (.inl rfl) (ev1 rfl)) ?_
  refine zah (gd_t rfl rfl rfl) rfl rfl rfl (zad (.inl rfl) (ev1 rfl)) ?_
  refine zah (gd_t rfl rfl rfl) rfl rfl rfl (op_leq rfl (ev2 rfl) (ev1 rfl)) ?_
  refine za rfl rfl rfl (op_and rfl (ev1 rfl) (ev3 rfl id)) ?_
  refine za rfl rfl rfl (zad (.inr rfl) (ev1 rfl)) ?_
  refine zae ?_
  refine zan ?_
  refine kend0 (rs1 rfl (rv_t rfl)) rfl ?_
  rfl
set_option maxRecDepth 4000 in
set_option maxHeartbeats 1000000 in
theorem refRight_d (i : I3) : DFun Tryz.prog 8 [.val (.agg (idc i).toArray)] [] (.val (.bool (mayR i))) [] := by
  refine zaj (N := 26) 0 (by kernel_rfl) Tryz.func8 rfl rfl rfl (by simp only [fr0, Nat.zero_add, Nat.reduceAdd]; exact rfl) rfl fun s0 hs0 => ?_
  refine zaf ?_
  refine zai 1 (by simp only [holes, List.cons_append, List.nil_append]; exact rfl) ?_
  refine zac ?_
  refine zak rfl rfl rfl (op_boxa 0 rfl (ev1 rfl) rfl) (by simp only [upd, zaa, zab]; exact rfl) ?_
  refine za rfl rfl rfl (zad (.inr rfl) (ev1 rfl)) ?_
  refine zae ?_
  refine zaf ?_
  refine zac ?_
  refine za rfl rfl rfl (zal rfl fo29_0 (ev1 rfl)) ?_
  refine za rfl rfl rfl (op_ldo rfl tb23 (ev1 rfl) rfl rfl) ?_
  refine za rfl rfl rfl (op_geq rfl (ev1 rfl) (ev1 rfl)) ?_
  refine za rfl rfl rfl (zad (.inl rfl) (ev1 rfl)) ?_
  refine zah (gd_t rfl rfl rfl) rfl rfl rfl (zal rfl fo29_0 (ev1 rfl)) ?_
  refine zah (gd_t rfl rfl rfl) rfl rfl rfl (op_ldo rfl tb23 (ev2 rfl) rfl rfl) ?_
  refine zah (gd_t rfl rfl rfl) rfl rfl rfl (op_leq rfl (ev2 rfl) (ev1 rfl)) ?_
  refine za rfl rfl rfl (op_and rfl (ev1 rfl) (ev3 rfl id)) ?_
  refine za rfl rfl rfl (zad (.inl rfl) (ev1 rfl)) ?_
  refine zah (gd_t rfl rfl rfl) rfl rfl rfl (zal rfl fo29_1 (ev1 rfl)) ?_
  refine zah (gd_t rfl rfl rfl) rfl rfl rfl (op_ldo rfl tb3 (ev2 rfl) rfl rfl) ?_
  refine zah (gd_t rfl rfl rfl) rfl rfl rfl (zag [] [] [] rfl (ev1 rfl) (ec (ev2 rfl) en) rfl rfl (refSite_d _) rfl rfl rfl rfl rfl rfl) ?_
  refine za rfl rfl rfl (op_and rfl (ev1 rfl) (ev3 rfl id)) ?_
  refine za rfl rfl rfl (zad (.inl rfl) (ev1 rfl)) ?_
  refine zah (gd_t rfl rfl rfl) rfl rfl rfl (zal rfl fo29_2 (ev1 rfl)) ?_
  refine zah (gd_t rfl rfl rfl) rfl rfl rfl (op_ldo rfl tb23 (ev2 rfl) rfl rfl) ?_
  refine zah (gd_t rfl rfl rfl) rfl rfl rfl (op_geq rfl (ev2 rfl) (ev1 rfl)) ?_
  refine za rfl rfl rfl (op_and rfl (ev1 rfl) (ev3 rfl id)) ?_
  refine za rfl rfl rfl (zad (.inl rfl) (ev1 rfl)) ?_
  refine zah (gd_t rfl rfl rfl) rfl rfl rfl (zal rfl fo29_2 (ev1 rfl)) ?_
  refine zah (gd_t rfl rfl rfl) rfl rfl rfl (op_ldo rfl tb23 (ev2 rfl) rfl rfl) ?_
  refine zah (gd_t rfl rfl rfl) rfl rfl rfl (op_leq rfl (ev2 rfl) (ev1 rfl)) ?_
  refine za rfl rfl rfl (op_and rfl (ev1 rfl) (ev3 rfl id)) ?_
  refine za rfl rfl rfl (zad (.inr rfl) (ev1 rfl)) ?_
  refine zae ?_
  refine zan ?_
  refine kend0 (rs1 rfl (rv_t rfl)) rfl ?_
  simp [mayR, isNum, Bool.and_assoc]
set_option maxRecDepth 4000 in
set_option maxHeartbeats 1000000 in
theorem refLess_d (a b : I3) : DFun Tryz.prog 42 [.val (.agg (idc a).toArray), .val (.agg (idc b).toArray)] [] (.val (.bool (lessR a b))) [] := by
  refine zaj (N := 30) 0 (by kernel_rfl) Tryz.func42 rfl rfl rfl (by simp only [fr0, Nat.zero_add, Nat.reduceAdd]; exact rfl) rfl fun s0 hs0 => ?_
  refine zaf ?_
  refine zai 2 (by simp only [holes, List.cons_append, List.nil_append]; exact rfl) ?_
  refine zac ?_
  refine zak rfl rfl rfl (op_boxa 0 rfl (ev1 rfl) rfl) (by simp only [upd, zaa, zab]; exact rfl) ?_
  refine zak rfl rfl rfl (op_boxa 1 rfl (ev1 rfl) rfl) (by simp only [upd, zaa, zab]; exact rfl) ?_
  refine za rfl rfl rfl (zad (.inr rfl) (ev1 rfl)) ?_
  refine zae ?_
  refine zaf ?_
  refine zaf ?_
  refine zac ?_
  refine za rfl rfl rfl (zal rfl fo29_0 (ev1 rfl)) ?_
  refine za rfl rfl rfl (op_ldo rfl tb23 (ev1 rfl) rfl rfl) ?_
  refine za rfl rfl rfl (zal rfl fo29_0 (ev1 rfl)) ?_
  refine za rfl rfl rfl (op_ldo rfl tb23 (ev1 rfl) rfl rfl) ?_
  refine za rfl rfl rfl (op_neq rfl (ev1 rfl) (ev1 rfl)) ?_
  refine zae ?_
  refine dwp_cond rfl (fun c1 => ?_) (fun c1 => ?_)
  · try simp only [decide_eq_true_eq, decide_eq_false_iff_not, beq_iff_eq, bne_iff_ne, beq_eq_false_iff_ne, bne_eq_false_iff_eq, Bool.not_eq_true', Bool.not_eq_false', Bool.and_eq_true, Bool.or_eq_true, Bool.or_eq_false_iff, ne_eq, Decidable.not_not, Int.not_lt, Int.not_le] at c1
    refine zaf ?_
    refine zac ?_
    refine za rfl rfl rfl (zal rfl fo29_0 (ev1 rfl)) ?_
    refine za rfl rfl rfl (op_ldo rfl tb23 (ev1 rfl) rfl rfl) ?_
    refine za rfl rfl rfl (zal rfl fo29_0 (ev1 rfl)) ?_
    refine za rfl rfl rfl (op_ldo rfl tb23 (ev1 rfl) rfl rfl) ?_
    refine za rfl rfl rfl (op_lss rfl (ev1 rfl) (ev1 rfl)) ?_
    refine za rfl rfl rfl (zad (.inr rfl) (ev1 rfl)) ?_
    refine zae ?_
    refine zan ?_
    refine kend0 (rs1 rfl (rv_t rfl)) rfl ?_
    simp_all [lessR]
  · try simp only [decide_eq_true_eq, decide_eq_false_iff_not, beq_iff_eq, bne_iff_ne, beq_eq_false_iff_ne, bne_eq_false_iff_eq, Bool.not_eq_true', Bool.not_eq_false', Bool.and_eq_true, Bool.or_eq_true, Bool.or_eq_false_iff, ne_eq, Decidable.not_not, Int.not_lt, Int.not_le] at c1
    refine zam ?_
    refine zaf ?_
    refine zaf ?_
    refine zac ?_
    refine za rfl rfl rfl (zal rfl fo29_1 (ev1 rfl)) ?_
    refine za rfl rfl rfl (op_ldo rfl tb3 (ev1 rfl) rfl rfl) ?_
    refine za rfl rfl rfl (zal rfl fo29_1 (ev1 rfl)) ?_
    refine za rfl rfl rfl (op_ldo rfl tb3 (ev1 rfl) rfl rfl) ?_
    refine za rfl rfl rfl (op_neq rfl (ev1 rfl) (ev1 rfl)) ?_
    refine zae ?_
    refine dwp_cond rfl (fun c2 => ?_) (fun c2 => ?_)
    · try simp only [decide_eq_true_eq, decide_eq_false_iff_not, beq_iff_eq, bne_iff_ne, beq_eq_false_iff_ne, bne_eq_false_iff_eq, Bool.not_eq_true', Bool.not_eq_false', Bool.and_eq_true, Bool.or_eq_true, Bool.or_eq_false_iff, ne_eq, Decidable.not_not, Int.not_lt, Int.not_le] at c2
      refine zaf ?_
      refine zac ?_
      refine za rfl rfl rfl (zal rfl fo29_1 (ev1 rfl)) ?_
      refine za rfl rfl rfl (op_ldo rfl tb3 (ev1 rfl) rfl rfl) ?_
      refine za rfl rfl rfl (zal rfl fo29_1 (ev1 rfl)) ?_
      refine za rfl rfl rfl (op_ldo rfl tb3 (ev1 rfl) rfl rfl) ?_
      refine za rfl rfl rfl (op_lss rfl (ev1 rfl) (ev1 rfl)) ?_
      refine za rfl rfl rfl (zad (.inr rfl) (ev1 rfl)) ?_
      refine zae ?_
      refine zan ?_
      refine kend0 (rs1 rfl (rv_t rfl)) rfl ?_
      simp_all [lessR]
    · try simp only [decide_eq_true_eq, decide_eq_false_iff_not, beq_iff_eq, bne_iff_ne, beq_eq_false_iff_ne, bne_eq_false_iff_eq, Bool.not_eq_true', Bool.not_eq_false', Bool.and_eq_true, Bool.or_eq_true, Bool.or_eq_false_iff, ne_eq, Decidable.not_not, Int.not_lt, Int.not_le] at c2
      refine zam ?_
      refine zaf ?_
      refine zac ?_
      refine za rfl rfl rfl (zal rfl fo29_2 (ev1 rfl)) ?_
      refine za rfl rfl rfl (op_ldo rfl tb23 (ev1 rfl) rfl rfl) ?_
      refine za rfl rfl rfl (zal rfl fo29_2 (ev1 rfl)) ?_
      refine za rfl rfl rfl (op_ldo rfl tb23 (ev1 rfl) rfl rfl) ?_
      refine za rfl rfl rfl (op_lss rfl (ev1 rfl) (ev1 rfl)) ?_
      refine za rfl rfl rfl (zad (.inr rfl) (ev1 rfl)) ?_
      refine zae ?_
      refine zan ?_
      refine kend0 (rs1 rfl (rv_t rfl)) rfl ?_
      simp_all [lessR]
set_option maxRecDepth 4000 in
set_option maxHeartbeats 1000000 in
theorem compare_d (a b : I3) : DFun Tryz.prog 146 [.val (.agg (idc a).toArray), .val (.agg (idc b).toArray)] [] (.val (.int .i64 (cmpR a b))) [] := by
  refine zaj (N := 25) 0 (by kernel_rfl) Tryz.func146 rfl rfl rfl (by simp only [fr0, Nat.zero_add, Nat.reduceAdd]; exact rfl) rfl fun s0 hs0 => ?_
  refine zaf ?_
  refine zai 2 (by simp only [holes, List.cons_append, List.nil_append]; exact rfl) ?_
  refine zac ?_
  refine zak rfl rfl rfl (op_boxa 0 rfl (ev1 rfl) rfl) (by simp only [upd, zaa, zab]; exact rfl) ?_
  refine zak rfl rfl rfl (op_boxa 1 rfl (ev1 rfl) rfl) (by simp only [upd, zaa, zab]; exact rfl) ?_
  refine za rfl rfl rfl (zad (.inr rfl) (ev1 rfl)) ?_
  refine zae ?_
  refine zaf ?_
  refine zaf ?_
  refine zac ?_
  refine za rfl rfl rfl (op_ldw rfl tb29 (ev1 rfl) rfl rfl) ?_
  refine za rfl rfl rfl (op_ldw rfl tb29 (ev1 rfl) rfl rfl) ?_
  refine za rfl rfl rfl (op_eqr eq29 rfl gd29 tb29 (ev1 rfl) (ev1 rfl)) ?_
  refine zae ?_
  refine dwp_cond rfl (fun c1 => ?_) (fun c1 => ?_)
  · try simp only [decide_eq_true_eq, decide_eq_false_iff_not, beq_iff_eq, bne_iff_ne, beq_eq_false_iff_ne, bne_eq_false_iff_eq, Bool.not_eq_true', Bool.not_eq_false', Bool.and_eq_true, Bool.or_eq_true, Bool.or_eq_false_iff, ne_eq, Decidable.not_not, Int.not_lt, Int.not_le] at c1
    refine zaf ?_
    refine zac ?_
    refine za rfl rfl rfl (zad (.inr rfl) (ev1 rfl)) ?_
    refine zae ?_
    refine zan ?_
    refine kend0 (rs1 rfl (rv_t rfl)) rfl ?_
    simp_all [cmpR, eqI]
  · try simp only [decide_eq_true_eq, decide_eq_false_iff_not, beq_iff_eq, bne_iff_ne, beq_eq_false_iff_ne, bne_eq_false_iff_eq, Bool.not_eq_true', Bool.not_eq_false', Bool.and_eq_true, Bool.or_eq_true, Bool.or_eq_false_iff, ne_eq, Decidable.not_not, Int.not_lt, Int.not_le] at c1
    refine zam ?_
    refine zaf ?_
    refine dwp_draw [([], []), ([0], []), ([], []), ([1], []), ([], []), ([], []), ([0], []), ([], []), ([1], []), ([], []), ([], []), ([0], []), ([], []), ([1], []), ([], []), ([], []), ([], []), ([], [])] mixed (by kernel_rfl) ?_
    refine lex_r rfl rfl (zal rfl fo29_0 (ev1 rfl)) ?_
    refine lex_r rfl rfl (op_ldo rfl tb23 (ev1 rfl) rfl rfl) ?_
    refine lex_r rfl rfl (zal rfl fo29_0 (ev1 rfl)) ?_
    refine lex_r rfl rfl (op_ldo rfl tb23 (ev1 rfl) rfl rfl) ?_
    refine lex_r rfl rfl (zag [] [] [] rfl (ev1 rfl) (ec (ev1 rfl) (ec (ev1 rfl) en)) rfl rfl (cmp_u64 _ _) rfl rfl rfl rfl rfl rfl) ?_
    refine lex_r rfl rfl (zal rfl fo29_1 (ev1 rfl)) ?_
    refine lex_r rfl rfl (op_ldo rfl tb3 (ev1 rfl) rfl rfl) ?_
    refine lex_r rfl rfl (zal rfl fo29_1 (ev1 rfl)) ?_
    refine lex_r rfl rfl (op_ldo rfl tb3 (ev1 rfl) rfl rfl) ?_
    refine lex_r rfl rfl (zag [] [] [] rfl (ev1 rfl) (ec (ev1 rfl) (ec (ev1 rfl) en)) rfl rfl (cmp_i64 _ _) rfl rfl rfl rfl rfl rfl) ?_
    refine lex_r rfl rfl (zal rfl fo29_2 (ev1 rfl)) ?_
    refine lex_r rfl rfl (op_ldo rfl tb23 (ev1 rfl) rfl rfl) ?_
    refine lex_r rfl rfl (zal rfl fo29_2 (ev1 rfl)) ?_
    refine lex_r rfl rfl (op_ldo rfl tb23 (ev1 rfl) rfl rfl) ?_
    refine lex_r rfl rfl (zag [] [] [] rfl (ev1 rfl) (ec (ev1 rfl) (ec (ev1 rfl) en)) rfl rfl (cmp_u64 _ _) rfl rfl rfl rfl rfl rfl) ?_
    refine lex_r rfl rfl (op_bs (ps := [(0, .tmp 12), (1, .tmp 17), (2, .tmp 22)]) rfl sl87 zr3 rfl (vc (ev1 rfl) (vc (ev1 rfl) (vc (ev1 rfl) vn))) rfl (by decide) (by decide)) ?_
    refine lex_r rfl rfl (zag [] [] [] rfl (ev1 rfl) (ec (ev1 rfl) en) rfl rfl (or_d [_, _, _]) rfl rfl rfl rfl rfl rfl) ?_
    refine lex_r rfl rfl (zad (.inr rfl) (ev1 rfl)) ?_
    refine lex_nil ?_
    refine zan ?_
    refine kend0 (rs1 rfl (rv_t rfl)) rfl ?_
    simp_all [cmpR, eqI]
set_option maxRecDepth 4000 in
set_option maxHeartbeats 1000000 in
theorem idLess_d (a b : I3) : DFun Tryz.prog 115 [.val (.agg (idc a).toArray), .val (.agg (idc b).toArray)] [] (.val (.bool (lessR a b))) [] := by
  refine zaj (N := 9) 0 (by kernel_rfl) Tryz.func115 rfl rfl rfl (by simp only [fr0, Nat.zero_add, Nat.reduceAdd]; exact rfl) rfl fun s0 hs0 => ?_
  refine zaf ?_
  refine zai 2 (by simp only [holes, List.cons_append, List.nil_append]; exact rfl) ?_
  refine zac ?_
  refine zak rfl rfl rfl (op_boxa 0 rfl (ev1 rfl) rfl) (by simp only [upd, zaa, zab]; exact rfl) ?_
  refine zak rfl rfl rfl (op_boxa 1 rfl (ev1 rfl) rfl) (by simp only [upd, zaa, zab]; exact rfl) ?_
  refine za rfl rfl rfl (zad (.inr rfl) (ev1 rfl)) ?_
  refine zae ?_
  refine zaf ?_
  refine zac ?_
  refine za rfl rfl rfl (op_ldw rfl tb29 (ev1 rfl) rfl rfl) ?_
  refine za rfl rfl rfl (op_ldw rfl tb29 (ev1 rfl) rfl rfl) ?_
  refine za rfl rfl rfl (zag [] [] [] rfl (ev1 rfl) (ec (ev1 rfl) (ec (ev1 rfl) en)) rfl rfl (compare_d _ _) rfl rfl rfl rfl rfl rfl) ?_
  refine za rfl rfl rfl (op_lss rfl (ev1 rfl) (ev1 rfl)) ?_
  refine za rfl rfl rfl (zad (.inr rfl) (ev1 rfl)) ?_
  refine zae ?_
  refine zan ?_
  refine kend0 (rs1 rfl (rv_t rfl)) rfl ?_
  rw [← lessC_R]
  rfl
end Go.Proofs.YtmacjicebemgoaaGreat
namespace Go.Proofs.YtmacjicebemgoaaGreat
set_option linter.unusedVariables false
set_option linter.unusedSimpArgs false
open Go.RowKit
theorem ar166 : arE Tryz.prog 166 = some (8, 1) := by kernel_rfl
theorem kn5 : knd Tryz.prog 5 = some .u8 := by kernel_rfl
theorem tb5 : tyB Tryz.prog 5 = some (false, 1) := by kernel_rfl
theorem ty23 : (tyB Tryz.prog 23).isSome = true := by kernel_rfl
theorem zr166 : zrC Tryz.prog 166 = some [.int .u8 0, .int .u8 0, .int .u8 0, .int .u8 0, .int .u8 0, .int .u8 0, .int .u8 0, .int .u8 0] := by kernel_rfl
set_option maxRecDepth 4000 in
set_option maxHeartbeats 1000000 in
theorem unw1_d (n : Int) : DFun Tryz.prog 148 [.val (.int .i64 n)] [] (.val (.bool (isW n))) [] := by
  refine zaj (N := 9) 0 (by kernel_rfl) Tryz.func148 rfl rfl rfl (by simp only [fr0, Nat.zero_add, Nat.reduceAdd]; exact rfl) rfl fun s0 hs0 => ?_
  refine zaf ?_
  refine zac ?_
  refine za rfl rfl rfl (zad (.inr rfl) (ev1 rfl)) ?_
  refine zae ?_
  refine zaf ?_
  refine zac ?_
  refine za rfl rfl rfl (zad (.inl rfl) (ev1 rfl)) ?_
  refine za rfl rfl rfl (op_geq rfl (ev1 rfl) (ev1 rfl)) ?_
  refine za rfl rfl rfl (zad (.inl rfl) (ev1 rfl)) ?_
  refine zah (gd_t rfl rfl rfl) rfl rfl rfl (zad (.inl rfl) (ev1 rfl)) ?_
  refine zah (gd_t rfl rfl rfl) rfl rfl rfl (op_leq rfl (ev2 rfl) (ev1 rfl)) ?_
  refine za rfl rfl rfl (op_and rfl (ev1 rfl) (ev3 rfl id)) ?_
  refine za rfl rfl rfl (zad (.inr rfl) (ev1 rfl)) ?_
  refine zae ?_
  refine zan ?_
  refine kend0 (rs1 rfl (rv_t rfl)) rfl ?_
  rfl
set_option maxRecDepth 4000 in
set_option maxHeartbeats 1000000 in
theorem uall_d (l : List Int) : DFun Tryz.prog 147 [.slf 1 (l).length ((l).flatMap ic), .fn (.func 148) [] []] [] (.val (.bool (l.all isW))) [] := by
  refine zaj (N := 18) 0 (by kernel_rfl) Tryz.func147 rfl rfl rfl (by simp only [fr0, Nat.zero_add, Nat.reduceAdd]; exact rfl) rfl fun s0 hs0 => ?_
  refine dwp_len (t := 0) rfl fun hl0 hL0 => ?_
  refine zaf ?_
  refine zac ?_
  refine za rfl rfl rfl (zad (.inr rfl) (ev1 rfl)) ?_
  refine zae ?_
  refine zaf ?_
  refine zaf ?_
  refine zac ?_
  refine za rfl rfl rfl (zad (.inl rfl) (ev1 rfl)) ?_
  refine za rfl rfl rfl (op_len rfl sl87 (ev1 rfl)) ?_
  refine za rfl rfl rfl (zad (.inl rfl) (ev1 rfl)) ?_
  refine zae ?_
  refine dwp_block ?_
  refine dwp_loopS ⟨hs0, rfl⟩ (α := Nat) (fun k => [(9, .val (.int .i64 (k : Int)))]) [(1, _), (7, _), (8, _)] (fun k => []) [] (fun k => k ≤ l.length ∧ l.all isW = (l.drop k).all isW) (fun k => l.length - k) 0 [] (by simp) rfl ⟨rfl, rfl, rfl, trivial⟩ ⟨rfl, trivial⟩ trivial ?_
  intro k hx
  simp only [upd, zaa, zab, List.cons_append, List.nil_append]
  obtain ⟨hk, he⟩ := hx
  refine zaf ?_
  refine zac ?_
  refine za rfl rfl rfl (op_lss rfl (ev1 rfl) (ev1 rfl)) ?_
  refine zae ?_
  refine zaf ?_
  refine dwp_cond rfl (fun c1 => ?_) (fun c1 => ?_)
  · try simp only [decide_eq_true_eq, decide_eq_false_iff_not, beq_iff_eq, bne_iff_ne, beq_eq_false_iff_ne, bne_eq_false_iff_eq, Bool.not_eq_true', Bool.not_eq_false', Bool.and_eq_true, Bool.or_eq_true, Bool.or_eq_false_iff, ne_eq, Decidable.not_not, Int.not_lt, Int.not_le] at c1
    refine zam ?_
    refine zaf ?_
    refine dwp_block ?_
    refine zaf ?_
    refine zac ?_
    refine za rfl rfl rfl (op_ixsr (j := k) rfl sl87 (ev1 rfl) (ev1 rfl) (fun _ => rfl) (by decide) (by omega) (by omega)) ?_
    refine za rfl rfl rfl (op_ldod rfl tb3 (ev1 rfl) rfl) ?_
    refine za rfl rfl rfl (zad (.inr rfl) (ev1 rfl)) ?_
    refine zae ?_
    refine zaf ?_
    refine zac ?_
    refine za rfl rfl rfl (zad (.inl rfl) (ev1 rfl)) ?_
    refine za rfl rfl rfl (zad (.inl rfl) (ev1 rfl)) ?_
    refine za rfl rfl rfl (zag [] [] [] rfl (ev1 rfl) (ec (ev1 rfl) en) rfl rfl (unw1_d _) rfl rfl rfl rfl rfl rfl) ?_
    refine za rfl rfl rfl (op_not rfl (ev1 rfl)) ?_
    refine zae ?_
    refine dwp_cond rfl (fun c2 => ?_) (fun c2 => ?_)
    · refine zaf ?_
      refine zac ?_
      refine za rfl rfl rfl (zad (.inr rfl) (ev1 rfl)) ?_
      refine zae ?_
      refine zan ?_
      refine kend0 (rs1 rfl (rv_t rfl)) rfl ?_
      rw [he, List.drop_eq_getElem_cons (show k < l.length by omega), List.all_cons, bn_t c2]; rfl
    · refine zam ?_
      refine zac ?_
      refine za rfl rfl rfl (op_add' rfl (ev1 rfl) (ev1 rfl) (fun _ => IntWalk.i64_in _ (by omega))) ?_
      refine za rfl rfl rfl (zad (.inl rfl) (ev1 rfl)) ?_
      refine zae ?_
      refine ⟨k + 1, [], ⟨by omega, by rw [he, List.drop_eq_getElem_cons (show k < l.length by omega), List.all_cons, bn_f c2, Bool.true_and]⟩, by simp only []; omega, rfl, ⟨rfl, rfl, rfl, rfl, trivial⟩, trivial⟩
  · try simp only [decide_eq_true_eq, decide_eq_false_iff_not, beq_iff_eq, bne_iff_ne, beq_eq_false_iff_ne, bne_eq_false_iff_eq, Bool.not_eq_true', Bool.not_eq_false', Bool.and_eq_true, Bool.or_eq_true, Bool.or_eq_false_iff, ne_eq, Decidable.not_not, Int.not_lt, Int.not_le] at c1
    refine dwp_exit ?_
    refine zaf ?_
    refine zac ?_
    refine za rfl rfl rfl (zad (.inr rfl) (ev1 rfl)) ?_
    refine zae ?_
    refine zan ?_
    refine kend0 (rs1 rfl (rv_t rfl)) rfl ?_
    rw [he, List.drop_of_length_le (by omega)]; rfl
set_option maxRecDepth 4000 in
set_option maxHeartbeats 1000000 in
theorem uneed_ok (l : List Int) (h : l.all isW = true) : DFun Tryz.prog 120 [.slf 1 (l).length ((l).flatMap ic)] [] (.tup []) [] := by
  refine zaj (N := 7) 0 (by kernel_rfl) Tryz.func120 rfl rfl rfl (by simp only [fr0, Nat.zero_add, Nat.reduceAdd]; exact rfl) rfl fun s0 hs0 => ?_
  refine dwp_len (t := 0) rfl fun hl0 hL0 => ?_
  refine zaf ?_
  refine zac ?_
  refine za rfl rfl rfl (zad (.inl rfl) (ev1 rfl)) ?_
  refine za rfl rfl rfl (zag [] [] [] rfl (ev1 rfl) (ec (ev1 rfl) (ec (ev1 rfl) en)) rfl rfl (uall_d _) rfl rfl rfl rfl rfl rfl) ?_
  refine za rfl rfl rfl (op_not rfl (ev1 rfl)) ?_
  refine zae ?_
  refine dwp_if_f rfl (by rw [h]; rfl) ?_
  refine zam ?_
  refine kend0 (res_none rfl) rfl ?_
  rfl
set_option maxRecDepth 4000 in
set_option maxHeartbeats 1000000 in
theorem ufits_d (w : Nat) (h : 1 ≤ w ∧ w ≤ 8) (n : Int) : DFun Tryz.prog 149 [.val (.int .i64 (w : Int)), .val (.int .u64 n)] [] (.val (.bool (fitsN w n))) [] := by
  refine zaj (N := 14) 0 (by kernel_rfl) Tryz.func149 rfl rfl rfl (by simp only [fr0, Nat.zero_add, Nat.reduceAdd]; exact rfl) rfl fun s0 hs0 => ?_
  refine zaf ?_
  refine zac ?_
  refine za rfl rfl rfl (zad (.inr rfl) (ev1 rfl)) ?_
  refine zae ?_
  refine zaf ?_
  refine zac ?_
  refine za rfl rfl rfl (zad (.inl rfl) (ev1 rfl)) ?_
  refine za rfl rfl rfl (op_eql rfl (ev1 rfl) (ev1 rfl)) ?_
  refine za rfl rfl rfl (zad (.inl rfl) (ev1 rfl)) ?_
  refine zah (gd_f rfl rfl rfl) rfl rfl rfl (zad (.inl rfl) (ev1 rfl)) ?_
  refine zah (gd_f rfl rfl rfl) rfl rfl rfl (zad (.inl rfl) (ev1 rfl)) ?_
  refine zah (gd_f rfl rfl rfl) rfl rfl rfl (op_mul' rfl (ev1 rfl) (ev2 rfl) (fun hp => IntWalk.i64_in _ (by first | omega | (simp at hp; omega)))) ?_
  refine zah (gd_f rfl rfl rfl) rfl rfl rfl (op_shr (8 * w) rfl (ev2 rfl) (ev2 rfl) (fun _ => ⟨by omega, by simp [IntKind.bits]; omega⟩)) ?_
  refine zah (gd_f rfl rfl rfl) rfl rfl rfl (op_eql rfl (ev2 rfl) (ev1 rfl)) ?_
  refine za rfl rfl rfl (op_or rfl (ev1 rfl) (ev3 rfl id)) ?_
  refine za rfl rfl rfl (zad (.inr rfl) (ev1 rfl)) ?_
  refine zae ?_
  refine zan ?_
  refine kend0 (rs1 rfl (rv_t rfl)) rfl ?_
  rw [D.val.injEq, Value.bool.injEq]
  unfold fitsN
  congr 1
  rw [Bool.eq_iff_iff]; simp; omega
set_option maxRecDepth 4000 in
set_option maxHeartbeats 1000000 in
theorem unb_ok (w : Nat) (h : 1 ≤ w ∧ w ≤ 8) (n : Int) (hf : fitsN w n = true) : DFun Tryz.prog 122 [.val (.int .i64 (w : Int)), .val (.int .u64 n)] [] (.slf 1 (bytesN w n).length ((bytesN w n).flatMap uc8)) [] := by
  refine zaj (N := 28) 0 (by kernel_rfl) Tryz.func122 rfl rfl rfl (by simp only [fr0, Nat.zero_add, Nat.reduceAdd]; exact rfl) rfl fun s0 hs0 => ?_
  refine zaf ?_
  refine zac ?_
  refine za rfl rfl rfl (zad (.inr rfl) (ev1 rfl)) ?_
  refine zae ?_
  refine zaf ?_
  refine zaf ?_
  refine zac ?_
  refine za rfl rfl rfl (zad (.inl rfl) (ev1 rfl)) ?_
  refine za rfl rfl rfl (zad (.inl rfl) (ev1 rfl)) ?_
  refine za rfl rfl rfl (zag [] [] [] rfl (ev1 rfl) (ec (ev1 rfl) (ec (ev1 rfl) en)) rfl rfl (ufits_d _ (by assumption) _) rfl rfl rfl rfl rfl rfl) ?_
  refine za rfl rfl rfl (op_not rfl (ev1 rfl)) ?_
  refine zae ?_
  refine dwp_if_f rfl (by rw [hf]; rfl) ?_
  refine zam ?_
  refine zaf ?_
  refine zai 1 (by simp only [holes, List.cons_append, List.nil_append]; exact rfl) ?_
  refine zac ?_
  refine zak rfl rfl rfl (op_alloc 0 rfl zr166 rfl) (by simp only [upd, zaa, zab]; exact rfl) ?_
  refine zae ?_
  refine zaf ?_
  refine zaf ?_
  refine zac ?_
  refine za rfl rfl rfl (zad (.inl rfl) (ev1 rfl)) ?_
  refine zae ?_
  refine dwp_block ?_
  refine dwp_loopS ⟨hs0, rfl⟩ (α := Nat) (fun k => [(13, .val (.int .i64 (k : Int)))]) [(0, _), (1, _), (5, _)] (fun k => [(0, .flat 166 ((lowN n k).flatMap uc8))]) [.hole] (fun k => k ≤ 8) (fun k => 8 - k) 0 [0] (by simp) rfl ⟨rfl, rfl, rfl, trivial⟩ ⟨rfl, trivial⟩ ⟨rfl, trivial⟩ ?_
  intro k hx
  simp only [upd, zaa, zab, List.cons_append, List.nil_append]
  have hk := hx
  refine zaf ?_
  refine zac ?_
  refine za rfl rfl rfl (op_lss rfl (ev1 rfl) (ev1 rfl)) ?_
  refine zae ?_
  refine zaf ?_
  refine dwp_cond rfl (fun c2 => ?_) (fun c2 => ?_)
  · try simp only [decide_eq_true_eq, decide_eq_false_iff_not, beq_iff_eq, bne_iff_ne, beq_eq_false_iff_ne, bne_eq_false_iff_eq, Bool.not_eq_true', Bool.not_eq_false', Bool.and_eq_true, Bool.or_eq_true, Bool.or_eq_false_iff, ne_eq, Decidable.not_not, Int.not_lt, Int.not_le] at c2
    refine zam ?_
    refine zaf ?_
    refine dwp_block ?_
    refine zaf ?_
    refine zac ?_
    refine za rfl rfl rfl (zad (.inl rfl) (ev1 rfl)) ?_
    refine za rfl rfl rfl (zad (.inr rfl) (ev1 rfl)) ?_
    refine zae ?_
    refine zac ?_
    refine za rfl rfl rfl (zad (.inl rfl) (ev1 rfl)) ?_
    refine za rfl rfl rfl (op_sub' rfl (ev1 rfl) (ev1 rfl) (fun _ => IntWalk.i64_in _ (by omega))) ?_
    refine za rfl rfl rfl (zad (.inl rfl) (ev1 rfl)) ?_
    refine za rfl rfl rfl (zad (.inl rfl) (ev1 rfl)) ?_
    refine za rfl rfl rfl (op_mul' rfl (ev1 rfl) (ev1 rfl) (fun _ => IntWalk.i64_in _ (by omega))) ?_
    refine za rfl rfl rfl (op_shr (8 * k) rfl (ev1 rfl) (ev1 rfl) (fun _ => ⟨by omega, by simp [IntKind.bits]; omega⟩)) ?_
    refine za rfl rfl rfl (op_conv ty23 kn5 rfl (ev1 rfl)) ?_
    refine za rfl rfl rfl (op_ixfr (j := 7 - k) rfl ar166 (ev1 rfl) (ev1 rfl) (fun _ => by omega) (fun _ => by omega)) ?_
    refine walk_s rfl rfl (op_stfr (q := IntKind.u8.wrap (n / 2 ^ (8 * k))) rfl tb5 (ev1 rfl) (ev1 rfl) rfl rfl rfl (fun _ => rfl) (fun _ => by first | omega | (rw [lowN_len]; omega))) (by simp only [upd, zaa, zab]; exact rfl) ?_
    refine zae ?_
    refine zac ?_
    refine za rfl rfl rfl (op_add' rfl (ev1 rfl) (ev1 rfl) (fun _ => IntWalk.i64_in _ (by omega))) ?_
    refine za rfl rfl rfl (zad (.inl rfl) (ev1 rfl)) ?_
    refine zae ?_
    refine ⟨k + 1, [0], by omega, by simp only []; omega, rfl, ⟨rfl, rfl, rfl, rfl, trivial⟩, ⟨rfl, trivial⟩⟩
  · try simp only [decide_eq_true_eq, decide_eq_false_iff_not, beq_iff_eq, bne_iff_ne, beq_eq_false_iff_ne, bne_eq_false_iff_eq, Bool.not_eq_true', Bool.not_eq_false', Bool.and_eq_true, Bool.or_eq_true, Bool.or_eq_false_iff, ne_eq, Decidable.not_not, Int.not_lt, Int.not_le] at c2
    refine dwp_exit ?_
    refine zaf ?_
    refine dwp_view ⟨hs0, rfl⟩ [] [0] [(0, _), (5, _)] [] rfl ⟨rfl, rfl, trivial⟩ trivial ?_
    refine zac ?_
    refine za rfl rfl rfl (zad (.inl rfl) (ev1 rfl)) ?_
    refine za rfl rfl rfl (op_sub' rfl (ev1 rfl) (ev1 rfl) (fun _ => IntWalk.i64_in _ (by omega))) ?_
    refine za rfl rfl rfl (op_slad3 (8 - w) rfl ar166 (ev1 rfl) (ev1 rfl) (ev1 rfl) (ev1 rfl) (fun _ => by omega) (fun _ => rfl) (fun _ => rfl) (fun _ => by omega) ((lowN_len _ _)) (by decide) (fun _ => rfl)) ?_
    refine za rfl rfl rfl (zad (.inr rfl) (ev1 rfl)) ?_
    refine zae ?_
    refine zan ?_
    refine kend0 (rs1 rfl (rv_t rfl)) rfl ?_
    obtain rfl : k = 8 := by omega
    rfl
end Go.Proofs.YtmacjicebemgoaaGreat
namespace Go.Proofs.YtmacjicebemgoaaGreat
set_option linter.unusedVariables false
set_option linter.unusedSimpArgs false
open Go.RowKit
theorem sl164 : slE Tryz.prog 164 = some (30, 1, 24) := by kernel_rfl
theorem sl30 : slE Tryz.prog 30 = some (5, 1, 1) := by kernel_rfl
theorem tb30 : tyB Tryz.prog 30 = some (false, 1) := by kernel_rfl
theorem zr5 : zrC Tryz.prog 5 = some [.int .u8 0] := by kernel_rfl
set_option maxRecDepth 4000 in
set_option maxHeartbeats 1000000 in
theorem ubeh_o (l1 l2 : List Int) (h : l1.length + l2.length ≤ 100000) : DFun Tryz.prog 121 [.slm 1 2 [.slf 1 (l1).length ((l1).flatMap uc8), .slf 1 (l2).length ((l2).flatMap uc8)]] [] (.arr 0) [.arr 5 1 (l1 ++ l2).length ((l1 ++ l2).flatMap uc8)] := by
  refine zaj (N := 38) 0 (by kernel_rfl) Tryz.func121 rfl rfl rfl (by simp only [fr0, Nat.zero_add, Nat.reduceAdd]; exact rfl) rfl fun s0 hs0 => ?_
  refine dwp_lenm (t := 0) rfl fun hl0 hL0 => ?_
  refine zaf ?_
  refine zac ?_
  refine za rfl rfl rfl (zad (.inr rfl) (ev1 rfl)) ?_
  refine zae ?_
  refine zaf ?_
  refine zac ?_
  refine za rfl rfl rfl (zad (.inr rfl) (ev1 rfl)) ?_
  refine zae ?_
  refine zaf ?_
  refine zaf ?_
  refine zac ?_
  refine za rfl rfl rfl (zad (.inl rfl) (ev1 rfl)) ?_
  refine za rfl rfl rfl (op_lenm rfl sl164 (ev1 rfl)) ?_
  refine za rfl rfl rfl (zad (.inl rfl) (ev1 rfl)) ?_
  refine zae ?_
  refine dwp_block ?_
  refine dwp_dloop (dloop_step ?_)
  refine zaf ?_
  refine zac ?_
  refine za rfl rfl rfl (op_lss rfl (ev1 rfl) (ev1 rfl)) ?_
  refine zae ?_
  refine zaf ?_
  refine dwp_if_t rfl (rfl) ?_
  refine zam ?_
  refine zaf ?_
  refine dwp_block ?_
  refine zaf ?_
  refine zac ?_
  refine za rfl rfl rfl (op_ixm (0) rfl sl164 (ev1 rfl) (ev1 rfl) (fun _ => rfl) rfl) ?_
  refine za rfl rfl rfl (op_lddm rfl tb30 (ev1 rfl) rfl) ?_
  refine za rfl rfl rfl (zad (.inr rfl) (ev1 rfl)) ?_
  refine zae ?_
  refine zac ?_
  refine za rfl rfl rfl (zad (.inl rfl) (ev1 rfl)) ?_
  refine za rfl rfl rfl (zad (.inl rfl) (ev1 rfl)) ?_
  refine za rfl rfl rfl (op_len rfl sl30 (ev1 rfl)) ?_
  refine za rfl rfl rfl (op_add' rfl (ev1 rfl) (ev1 rfl) (fun _ => IntWalk.i64_in _ (by omega))) ?_
  refine za rfl rfl rfl (zad (.inr rfl) (ev1 rfl)) ?_
  refine zae ?_
  refine zac ?_
  refine za rfl rfl rfl (op_add' rfl (ev1 rfl) (ev1 rfl) (fun _ => IntWalk.i64_in _ (by omega))) ?_
  refine za rfl rfl rfl (zad (.inl rfl) (ev1 rfl)) ?_
  refine zae ?_
  refine dloop_step ?_
  refine zaf ?_
  refine zac ?_
  refine za rfl rfl rfl (op_lss rfl (ev1 rfl) (ev1 rfl)) ?_
  refine zae ?_
  refine zaf ?_
  refine dwp_if_t rfl (rfl) ?_
  refine zam ?_
  refine zaf ?_
  refine dwp_block ?_
  refine zaf ?_
  refine zac ?_
  refine za rfl rfl rfl (op_ixm (1) rfl sl164 (ev1 rfl) (ev1 rfl) (fun _ => rfl) rfl) ?_
  refine za rfl rfl rfl (op_lddm rfl tb30 (ev1 rfl) rfl) ?_
  refine za rfl rfl rfl (zad (.inr rfl) (ev1 rfl)) ?_
  refine zae ?_
  refine zac ?_
  refine za rfl rfl rfl (zad (.inl rfl) (ev1 rfl)) ?_
  refine za rfl rfl rfl (zad (.inl rfl) (ev1 rfl)) ?_
  refine za rfl rfl rfl (op_len rfl sl30 (ev1 rfl)) ?_
  refine za rfl rfl rfl (op_add' rfl (ev1 rfl) (ev1 rfl) (fun _ => IntWalk.i64_in _ (by omega))) ?_
  refine za rfl rfl rfl (zad (.inr rfl) (ev1 rfl)) ?_
  refine zae ?_
  refine zac ?_
  refine za rfl rfl rfl (op_add' rfl (ev1 rfl) (ev1 rfl) (fun _ => IntWalk.i64_in _ (by omega))) ?_
  refine za rfl rfl rfl (zad (.inl rfl) (ev1 rfl)) ?_
  refine zae ?_
  refine dloop_step ?_
  refine zaf ?_
  refine zac ?_
  refine za rfl rfl rfl (op_lss rfl (ev1 rfl) (ev1 rfl)) ?_
  refine zae ?_
  refine zaf ?_
  refine dwp_if_f rfl (rfl) ?_
  refine dwp_exit ?_
  refine zaf ?_
  refine zai 1 (by simp only [holes, List.cons_append, List.nil_append]; exact rfl) ?_
  refine zac ?_
  refine za rfl rfl rfl (zad (.inl rfl) (ev1 rfl)) ?_
  refine zak rfl rfl rfl (op_mks 0 (l1.length + l2.length) (.int .u8 0) rfl sl30 zr5 (ev1 rfl) (ev1 rfl) (fun _ => by omega) (fun _ => by omega) rfl (fun _ => by omega)) (by simp only [upd, zaa, zab]; exact rfl) ?_
  refine za rfl rfl rfl (zad (.inr rfl) (ev1 rfl)) ?_
  refine zae ?_
  refine zaf ?_
  refine zac ?_
  refine za rfl rfl rfl (zad (.inr rfl) (ev1 rfl)) ?_
  refine zae ?_
  refine zaf ?_
  refine zaf ?_
  refine zac ?_
  refine za rfl rfl rfl (zad (.inl rfl) (ev1 rfl)) ?_
  refine za rfl rfl rfl (op_lenm rfl sl164 (ev1 rfl)) ?_
  refine za rfl rfl rfl (zad (.inl rfl) (ev1 rfl)) ?_
  refine zae ?_
  refine dwp_block ?_
  refine dwp_dloop (dloop_step ?_)
  refine zaf ?_
  refine zac ?_
  refine za rfl rfl rfl (op_lss rfl (ev1 rfl) (ev1 rfl)) ?_
  refine zae ?_
  refine zaf ?_
  refine dwp_if_t rfl (rfl) ?_
  refine zam ?_
  refine zaf ?_
  refine dwp_block ?_
  refine zaf ?_
  refine zac ?_
  refine za rfl rfl rfl (op_ixm (0) rfl sl164 (ev1 rfl) (ev1 rfl) (fun _ => rfl) rfl) ?_
  refine za rfl rfl rfl (op_lddm rfl tb30 (ev1 rfl) rfl) ?_
  refine za rfl rfl rfl (zad (.inr rfl) (ev1 rfl)) ?_
  refine zae ?_
  refine zac ?_
  refine za rfl rfl rfl (zad (.inl rfl) (ev1 rfl)) ?_
  refine za rfl rfl rfl (zad (.inl rfl) (ev1 rfl)) ?_
  refine za rfl rfl rfl (zad (.inl rfl) (ev1 rfl)) ?_
  refine za rfl rfl rfl (op_sla rfl sl30 (ev1 rfl) rfl (bd_some (ev1 rfl)) bd_none (fun _ => by omega)) ?_
  refine za rfl rfl rfl (zad (.inl rfl) (ev1 rfl)) ?_
  refine zak rfl rfl rfl (op_cpy rfl sl30 (ev1 rfl) (ev1 rfl) src_slf rfl (fun _ => flat_oc (fun _ => rfl) _)) (by simp only [upd, zaa, zab]; exact rfl) ?_
  refine za rfl rfl rfl (op_add' rfl (ev1 rfl) (ev1 rfl) (fun _ => IntWalk.i64_in _ (by omega))) ?_
  refine za rfl rfl rfl (zad (.inr rfl) (ev1 rfl)) ?_
  refine zae ?_
  refine zac ?_
  refine za rfl rfl rfl (op_add' rfl (ev1 rfl) (ev1 rfl) (fun _ => IntWalk.i64_in _ (by omega))) ?_
  refine za rfl rfl rfl (zad (.inl rfl) (ev1 rfl)) ?_
  refine zae ?_
  refine dloop_step ?_
  refine zaf ?_
  refine zac ?_
  refine za rfl rfl rfl (op_lss rfl (ev1 rfl) (ev1 rfl)) ?_
  refine zae ?_
  refine zaf ?_
  refine dwp_if_t rfl (rfl) ?_
  refine zam ?_
  refine zaf ?_
  refine dwp_block ?_
  refine zaf ?_
  refine zac ?_
  refine za rfl rfl rfl (op_ixm (1) rfl sl164 (ev1 rfl) (ev1 rfl) (fun _ => rfl) rfl) ?_
  refine za rfl rfl rfl (op_lddm rfl tb30 (ev1 rfl) rfl) ?_
  refine za rfl rfl rfl (zad (.inr rfl) (ev1 rfl)) ?_
  refine zae ?_
  refine zac ?_
  refine za rfl rfl rfl (zad (.inl rfl) (ev1 rfl)) ?_
  refine za rfl rfl rfl (zad (.inl rfl) (ev1 rfl)) ?_
  refine za rfl rfl rfl (zad (.inl rfl) (ev1 rfl)) ?_
  refine za rfl rfl rfl (op_sla rfl sl30 (ev1 rfl) rfl (bd_some (ev1 rfl)) bd_none (fun _ => by omega)) ?_
  refine za rfl rfl rfl (zad (.inl rfl) (ev1 rfl)) ?_
  refine zak rfl rfl rfl (op_cpy rfl sl30 (ev1 rfl) (ev1 rfl) src_slf rfl (fun _ => flat_oc (fun _ => rfl) _)) (by simp only [upd, zaa, zab]; exact rfl) ?_
  refine za rfl rfl rfl (op_add' rfl (ev1 rfl) (ev1 rfl) (fun _ => IntWalk.i64_in _ (by omega))) ?_
  refine za rfl rfl rfl (zad (.inr rfl) (ev1 rfl)) ?_
  refine zae ?_
  refine zac ?_
  refine za rfl rfl rfl (op_add' rfl (ev1 rfl) (ev1 rfl) (fun _ => IntWalk.i64_in _ (by omega))) ?_
  refine za rfl rfl rfl (zad (.inl rfl) (ev1 rfl)) ?_
  refine zae ?_
  refine dloop_step ?_
  refine zaf ?_
  refine zac ?_
  refine za rfl rfl rfl (op_lss rfl (ev1 rfl) (ev1 rfl)) ?_
  refine zae ?_
  refine zaf ?_
  refine dwp_if_f rfl (rfl) ?_
  refine dwp_exit ?_
  refine zaf ?_
  refine zac ?_
  refine za rfl rfl rfl (zad (.inl rfl) (ev1 rfl)) ?_
  refine za rfl rfl rfl (zad (.inr rfl) (ev1 rfl)) ?_
  refine zae ?_
  refine zan ?_
  refine kend [0] (rs1 rfl (rv_t rfl)) rfl rfl ?_ ⟨?_, trivial⟩
  rfl
  exact arr_eq (by simp; try omega) (beh2 _ _ _ _ _ _ (by omega) (by omega) (by omega) (by omega))
theorem ubeh_d (l1 l2 : List Int) (h : l1.length + l2.length ≤ 100000) : DFun Tryz.prog 121 [.slm 1 2 [.slf 1 (l1).length ((l1).flatMap uc8), .slf 1 (l2).length ((l2).flatMap uc8)]] [] (.slf 1 (l1 ++ l2).length ((l1 ++ l2).flatMap uc8)) [] := freeze (ubeh_o l1 l2 h) rfl
end Go.Proofs.YtmacjicebemgoaaGreat
namespace Go.Proofs.YtmacjicebemgoaaGreat
set_option linter.unusedVariables false
set_option linter.unusedSimpArgs false
open Go.RowKit
theorem fo161_0 : fdO Tryz.prog 161 0 = some 0 := by kernel_rfl
theorem ni161 : niF Tryz.prog 161 = true := by kernel_rfl
theorem tb161 : tyB Tryz.prog 161 = some (true, 1) := by kernel_rfl
theorem tb31 : tyB Tryz.prog 31 = some (false, 1) := by kernel_rfl
theorem zr161 : zrC Tryz.prog 161 = some [.int .i64 0] := by kernel_rfl
theorem zr30 : zrC Tryz.prog 30 = some [.slice none 0 0] := by kernel_rfl
theorem zr31 : zrC Tryz.prog 31 = some [.int .i64 0] := by kernel_rfl
theorem zv161 : zrV Tryz.prog 161 = some (.agg #[.int .i64 0]) := by kernel_rfl
set_option maxRecDepth 4000 in
set_option maxHeartbeats 1000000 in
theorem utold_no : DFun Tryz.prog 119 [.val .nilIface] [] (.val (.int .i64 0)) [] := by
  refine zaj (N := 13) 0 (by kernel_rfl) Tryz.func119 rfl rfl rfl (by simp only [fr0, Nat.zero_add, Nat.reduceAdd]; exact rfl) rfl fun s0 hs0 => ?_
  refine zaf ?_
  refine zac ?_
  refine za rfl rfl rfl (zad (.inr rfl) (ev1 rfl)) ?_
  refine zae ?_
  refine zaf ?_
  refine zaf ?_
  refine zai 1 (by simp only [holes, List.cons_append, List.nil_append]; exact rfl) ?_
  refine zac ?_
  refine za rfl rfl rfl (zad (.inl rfl) (ev1 rfl)) ?_
  refine za rfl rfl rfl (op_tan rfl ni161 zv161 (ev1 rfl)) ?_
  refine za rfl rfl rfl (zad (.inl rfl) (ev1 rfl)) ?_
  refine za rfl rfl rfl (op_ext rfl (ev1 rfl) rfl) ?_
  refine za rfl rfl rfl (op_ext rfl (ev1 rfl) rfl) ?_
  refine zak rfl rfl rfl (op_alloc 0 rfl zr161 rfl) (by simp only [upd, zaa, zab]; exact rfl) ?_
  refine walk_s rfl rfl (op_stwa rfl tb161 (ev1 rfl) (ev1 rfl) rfl rfl rfl rfl) (by simp only [upd, zaa, zab]; exact rfl) ?_
  refine za rfl rfl rfl (zad (.inr rfl) (ev1 rfl)) ?_
  refine zae ?_
  refine zaf ?_
  refine zac ?_
  refine za rfl rfl rfl (zad (.inl rfl) (ev1 rfl)) ?_
  refine zae ?_
  refine dwp_if_f rfl (rfl) ?_
  refine zam ?_
  refine zaf ?_
  refine zac ?_
  refine za rfl rfl rfl (zad (.inr rfl) (ev1 rfl)) ?_
  refine zae ?_
  refine zan ?_
  refine kend0 (rs1 rfl (rv_t rfl)) rfl ?_
  rfl
set_option maxRecDepth 4000 in
set_option maxHeartbeats 1000000 in
theorem utold_w (n : Int) : DFun Tryz.prog 119 [.ifc 161 (.val (.agg #[.int .i64 n]))] [] (.val (.int .i64 n)) [] := by
  refine zaj (N := 13) 0 (by kernel_rfl) Tryz.func119 rfl rfl rfl (by simp only [fr0, Nat.zero_add, Nat.reduceAdd]; exact rfl) rfl fun s0 hs0 => ?_
  refine zaf ?_
  refine zac ?_
  refine za rfl rfl rfl (zad (.inr rfl) (ev1 rfl)) ?_
  refine zae ?_
  refine zaf ?_
  refine zaf ?_
  refine zai 1 (by simp only [holes, List.cons_append, List.nil_append]; exact rfl) ?_
  refine zac ?_
  refine za rfl rfl rfl (zad (.inl rfl) (ev1 rfl)) ?_
  refine za rfl rfl rfl (op_tay rfl ni161 (ev1 rfl)) ?_
  refine za rfl rfl rfl (zad (.inl rfl) (ev1 rfl)) ?_
  refine za rfl rfl rfl (op_ext rfl (ev1 rfl) rfl) ?_
  refine za rfl rfl rfl (op_ext rfl (ev1 rfl) rfl) ?_
  refine zak rfl rfl rfl (op_alloc 0 rfl zr161 rfl) (by simp only [upd, zaa, zab]; exact rfl) ?_
  refine walk_s rfl rfl (op_stwa rfl tb161 (ev1 rfl) (ev1 rfl) rfl rfl rfl rfl) (by simp only [upd, zaa, zab]; exact rfl) ?_
  refine za rfl rfl rfl (zad (.inr rfl) (ev1 rfl)) ?_
  refine zae ?_
  refine zaf ?_
  refine zac ?_
  refine za rfl rfl rfl (zad (.inl rfl) (ev1 rfl)) ?_
  refine zae ?_
  refine dwp_if_t rfl (rfl) ?_
  refine zaf ?_
  refine zac ?_
  refine za rfl rfl rfl (zal rfl fo161_0 (ev1 rfl)) ?_
  refine za rfl rfl rfl (op_ldo rfl tb31 (ev1 rfl) rfl rfl) ?_
  refine za rfl rfl rfl (zad (.inr rfl) (ev1 rfl)) ?_
  refine zae ?_
  refine zan ?_
  refine kend0 (rs1 rfl (rv_t rfl)) rfl ?_
  rfl
set_option maxRecDepth 4000 in
set_option maxHeartbeats 1000000 in
theorem uput1_idle (e : Int) : DDef Tryz.prog 118 [.loc 0 0] [.flat 31 [.int .i64 e]] none none [.flat 31 [.int .i64 0]] := by
  refine ddef_go1 (dr := .tup []) (t := 1) (N := 3) 1 (by kernel_rfl) Tryz.func118 rfl rfl rfl (by simp only [fr0, Nat.zero_add, Nat.reduceAdd]; exact rfl) rfl rfl rfl rfl rfl fun s0 hs0 => ?_
  refine za rfl rfl rfl (zag [] [] [] rfl (ev1 rfl) (ec (ev1 rfl) en) rfl rfl (utold_no) rfl rfl rfl rfl rfl rfl) ?_
  refine walk_s rfl rfl (op_stwi rfl tb31 (ev1 rfl) (ev1 rfl) rfl) (by simp only [upd, zaa, zab]; exact rfl) ?_
  refine zae ?_
  refine kend [0] (res_none rfl) rfl rfl ?_ ⟨rfl, trivial⟩
  rfl
set_option maxRecDepth 4000 in
set_option maxHeartbeats 1000000 in
theorem uput_ok (l : List Int) (w : Nat) (n : Int) (hl : l.length ≤ 90000) (h : 1 ≤ w ∧ w ≤ 8) (hf : fitsN w n = true) : DFun Tryz.prog 66 [.slf 1 l.length (l.flatMap uc8), .val (.int .i64 (w : Int)), .val (.int .u64 n)] [] (.tup [.slf 1 (l ++ bytesN w n).length ((l ++ bytesN w n).flatMap uc8), .val (.int .i64 0)]) [] := by
  refine dcalls_body (N := 18) 0 (by kernel_rfl) Tryz.func66 rfl rfl rfl (by simp only [fr0, Nat.zero_add, Nat.reduceAdd]; exact rfl) rfl fun s0 hs0 => ?_
  refine dbody_seq rfl hs0 ?_
  refine zai 1 (by simp only [holes, List.cons_append, List.nil_append]; exact rfl) ?_
  refine zac ?_
  refine za rfl rfl rfl (zad (.inr rfl) (ev1 rfl)) ?_
  refine zak rfl rfl rfl (op_alloc 0 rfl zr31 rfl) (by simp only [upd, zaa, zab]; exact rfl) ?_
  refine zae ?_
  refine dbody_defer (l0 := [_]) rfl rfl rfl rfl rfl hs0 ?_
  refine za rfl rfl rfl (op_mkf rfl en (ec (ev1 rfl) en)) ?_
  refine zae ⟨_, _, _, 1, ev1 rfl, Nat.le_trans hs0 (by decide), rfl, ?_⟩
  have hs1 : s0.M.length ≤ 1 := Nat.le_trans hs0 (by decide)
  refine dbody_end rfl hs0 ?_
  refine zaf ?_
  refine zac ?_
  refine za rfl rfl rfl (zad (.inl rfl) (ev1 rfl)) ?_
  refine za rfl rfl rfl (op_bs (ps := [(0, .tmp 9)]) rfl sl87 zr3 rfl (vc (ev1 rfl) vn) rfl (by decide) (by decide)) ?_
  refine za rfl rfl rfl (zag [] [] [] rfl (ev1 rfl) (ec (ev1 rfl) en) rfl rfl (uneed_ok [(w : Int)] (by simp [isW_iff]; omega)) rfl rfl rfl rfl rfl rfl) ?_
  refine zae ?_
  refine zaf ?_
  refine zac ?_
  refine za rfl rfl rfl (zad (.inl rfl) (ev1 rfl)) ?_
  refine za rfl rfl rfl (zad (.inl rfl) (ev1 rfl)) ?_
  refine za rfl rfl rfl (zad (.inl rfl) (ev1 rfl)) ?_
  refine za rfl rfl rfl (zag [] [] [] rfl (ev1 rfl) (ec (ev1 rfl) (ec (ev1 rfl) en)) rfl rfl (unb_ok w h n hf) rfl rfl rfl rfl rfl rfl) ?_
  refine za rfl rfl rfl (op_bsm (ps := [(0, .tmp 12), (1, .tmp 15)]) rfl sl164 zr30 rfl (ec (ev1 rfl) (ec (ev1 rfl) en)) rfl (by decide)) ?_
  refine za rfl rfl rfl (zag [] [] [] rfl (ev1 rfl) (ec (ev1 rfl) en) rfl rfl (ubeh_d _ _ (by rw [bytesN_len h.2]; omega)) rfl rfl rfl rfl rfl rfl) ?_
  refine za rfl rfl rfl (zad (.inr rfl) (ev1 rfl)) ?_
  refine walk_s rfl rfl (op_stwi rfl tb31 (ev1 rfl) (ev1 rfl) rfl) (by simp only [upd, zaa, zab]; exact rfl) ?_
  refine zae ?_
  refine zan ?_
  refine kdef (dturn_idle [0] [] rfl rfl (uput1_idle _) rfl rfl rfl rfl rfl) ?_
  refine kend0 (rs2 rfl (rv_t rfl) (rv_1 tb31 rfl rfl rfl)) rfl ?_
  rfl
end Go.Proofs.YtmacjicebemgoaaGreat
