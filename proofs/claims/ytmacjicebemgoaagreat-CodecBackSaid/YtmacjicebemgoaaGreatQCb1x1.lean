/- Operations: numbers, bools, structs, memory that is read and written. Conditions: what a type is, by the kernel; From a contract to the statement: a law whose call returns true whatever its arguments read as; with listed variables, too.  but the kernel's look at the program; Functions without a body that touch one cell (package sync/atomic), or mark; a function that is deferred with its arguments; deferred functions that do not recover. Conditions: what such a call's run is; Arguments whose elements are slices themselves, opened, as deep as their types go.  but the kernel's look at the types; Arguments that are structs, or slices of such, whose fields hold slices, opened.  but the kernel's look at the types; What the laws of codes ask; Fields one by one; bytes of numbers; what is taken, step by step; laying: operations, and rows of them; laying: rows of operations; operations that are th. No condition. -/
import Derived.Test.YtmacjicebemgoaaGreatQ7
import Derived.Test.YtmacjicebemgoaaGreatRows
namespace Go.Proofs.YtmacjicebemgoaaGreat
set_option linter.unusedVariables false
set_option linter.unusedSimpArgs false
open Go.RowKit

/-! ### what a type is -/
section
variable {P : Program} {pc : Bool} {o : Oper} {F : Fr} {M : List Blk}
section
variable {T T' : TypeId} {x y : Operand} {k : IntKind} {p q : Int}
theorem op_rem (ho : o.op = .binOp .rem T x y T') (hx : Ev pc F x (.val (.int k p))) (hy : Ev pc F y (.val (.int k q))) (h0 : pc = true → q ≠ 0) : DOp P pc o F M [] (.val (.int k (p.tmod q))) [] :=
  fun hp => int_bin ho hx hy (fun w => ⟨guard_int .., by have := h0 hp; simp [binOp, Op.intDiv, this]⟩) hp
theorem op_rem' (ho : o.op = .binOp .rem T x y T') (hx : Ev pc F x (.val (.int k p))) (hy : Ev pc F y (.val (.int k q))) (h0 : pc = true → q ≠ 0 ∧ 0 ≤ p) : DOp P pc o F M [] (.val (.int k (p % q))) [] := fun hp => by
  obtain ⟨h1, h2⟩ := h0 hp
  have := op_rem (P := P) (M := M) ho hx hy (fun _ => h1) hp
  rwa [Int.tmod_eq_emod_of_nonneg h2] at this
end
section
variable {T : TypeId} {x : Operand} {i p k : Nat} {L R : List Value} {v : Value}
end
section
variable {T : TypeId} {x y : Operand} {i p n sz : Nat} {k : IntKind} {z : Int} {L : List Value}
variable {e : TypeId} {by' m : Nat}
end
end
end Go.Proofs.YtmacjicebemgoaaGreat
namespace Go.Proofs.YtmacjicebemgoaaGreat
set_option linter.unusedVariables false
set_option linter.unusedSimpArgs false
open Go.ChangeShapes Go.WideShapes Go.ChangeAt Go.RowKit Go.Joins Go.Deep
set_option maxRecDepth 100000
section
variable {H : Type} {enc : TypeId × Value → H} {w : World} {base b0 : Nat} {r : Reach} {spare : Nat → Bool} {held : Bool} {v : Value} {d : DataW H} {p : List MemPlace}
theorem open_prim {α : Type} {t : TypeId} {q : Prim} (mk : α → Value) (ok : α → Prop) (hP : ∀ v, q.is v → ∃ a, ok a ∧ v = mk a) (hf : flatT Tryz.prog 1 t = some [q]) (hv : ∃ u : Value, v = u ∧ u.cells = #[u]) (h : DataW.Trod enc Tryz.prog w base spare held t v d p) : ∃ a, ok a ∧ v = mk a := by
  obtain ⟨u, rfl, hc⟩ := hv
  obtain ⟨fuel, hfu⟩ := h
  have hfit := flat_trod 1 _ _ _ _ _ hf hfu
  rw [hc] at hfit
  exact hP v hfit.1
end
end Go.Proofs.YtmacjicebemgoaaGreat
namespace Go.Proofs.YtmacjicebemgoaaGreat
set_option linter.unusedVariables false
set_option linter.unusedSimpArgs false
open Go.RowKit
section
variable {P : Program} {pc : Bool} {o : Oper} {F : Fr} {M : List Blk}
end
section
variable {P : Program} {s0 : St} {n : Cx}
end
section
variable {P : Program} {pc : Bool} {o : Oper} {F : Fr} {M : List Blk}
/-- a part of a slice of slices that stays -/
theorem op_slms {T e : TypeId} {sz by' n : Nat} {x : Operand} {lo hi : Option Operand} {L : List D} {l h : Int} (ho : o.op = .slice T x lo hi none) (hT : slE P T = some (e, sz, by')) (hx : Ev pc F x (.slm sz n L)) (hlo : Bd pc F lo 0 l) (hhi : Bd pc F hi n h)
    (hb : pc = true → 0 ≤ l ∧ l ≤ h ∧ h ≤ n) : DOp P pc o F M [] (.slm sz (h.toNat - l.toNat) ((L.drop (l.toNat * sz)).take ((h.toNat - l.toNat) * sz))) [] := by
  intro hp a s hok hops _
  obtain ⟨b1, b2, b3⟩ := hb hp
  have hr := ev_at hp hx (by simp [ho, Op.operands]) hops
  generalize hv : a.eval x = vx at hr
  cases hr with
  | @slm _ _ cap ad _ vs hnl hl hn hc ha hvl hel hL =>
    refine dg_val hok (run_slice ho hT hv (bd_at hp hlo (fun u e => by subst e; simp [ho, Op.operands]) hops) (bd_at hp hhi (fun u e => by subst e; simp [ho, Op.operands]) hops) b1 b2 b3 hn) ?_
    have hlen : ((L.drop (l.toNat * sz)).take ((h.toNat - l.toNat) * sz)).length = (h.toNat - l.toNat) * sz := by
      rw [List.length_take, List.length_drop, hl, ← Nat.mul_sub_right_distrib]
      exact Nat.min_eq_left (Nat.mul_le_mul_right _ (by omega))
    refine .slm (vs := (vs.drop (l.toNat * sz)).take ((h.toNat - l.toNat) * sz)) (nlL_take _ (nlL_drop _ hnl)) hlen (by omega) (by omega) (fun e => ?_) (by rw [List.length_take, List.length_drop, List.length_take, List.length_drop, hvl]) (fun j d v h1 h2 => ?_) ?_
    · split at e
      · omega
      · cases ad with
        | none => have := ha rfl; omega
        | some ad => cases e
    · rw [List.getElem?_take] at h1 h2
      split at h1
      · rename_i hj
        rw [if_pos hj] at h2
        rw [List.getElem?_drop] at h1 h2
        exact hel _ d v h1 h2
      · cases h1
    · rcases hL with rfl | ⟨b, q, rfl, hI, hcl⟩
      · left; simp
      · by_cases hz : cap = l.toNat
        · left
          have : h.toNat - l.toNat = 0 := by omega
          rw [this]; simp
        · right
          rw [if_neg hz]
          exact ⟨b, q + l.toNat * sz, by rw [Option.map_some, Addr.add_mid], hI, cellsAt_sub hcl _ _⟩
theorem flatM_take {α β : Type} {en : α → List β} {sz : Nat} (hen : ∀ a, (en a).length = sz) : ∀ (l : List α) (k : Nat), (l.flatMap en).take (k * sz) = (l.take k).flatMap en
  | l, 0 => by simp
  | [], k + 1 => by simp
  | a :: l, k + 1 => by
    rw [List.flatMap_cons, List.take_succ_cons, List.flatMap_cons, ← flatM_take hen l k, Nat.succ_mul, Nat.add_comm (k * sz), List.take_add, List.take_left' (hen a), List.drop_left' (hen a)]
/-- .. from i to j -/
theorem op_slmmd {α : Type} {mk : α → List D} {r : List α} {T e : TypeId} {sz by' : Nat} {x : Operand} {lo hi : Option Operand} {l h : Int} {i j : Nat} (ho : o.op = .slice T x lo hi none) (hT : slE P T = some (e, sz, by')) (hx : Ev pc F x (.slm sz r.length (r.flatMap mk))) (hlo : Bd pc F lo 0 l) (hhi : Bd pc F hi r.length h)
    (hl : pc = true → l = (i : Int)) (hh : pc = true → h = (j : Int)) (hij : pc = true → i ≤ j ∧ j ≤ r.length) (hmk : ∀ a, (mk a).length = sz) : DOp P pc o F M [] (.slm sz ((r.drop i).take (j - i)).length (((r.drop i).take (j - i)).flatMap mk)) [] := fun hp => by
  have h1 := hij hp
  have := op_slms (P := P) (M := M) ho hT hx hlo hhi (fun hp => by have := hl hp; have := hh hp; omega) hp
  rw [hl hp, hh hp, Int.toNat_natCast, Int.toNat_natCast, flatM_drop hmk, flatM_take hmk] at this
  rw [show ((r.drop i).take (j - i)).length = j - i by rw [List.length_take, List.length_drop]; omega]
  exact this
theorem op_slmtk {α : Type} {mk : α → List D} {r : List α} {T e : TypeId} {sz by' : Nat} {x : Operand} {hi : Option Operand} {h : Int} {j : Nat} (ho : o.op = .slice T x none hi none) (hT : slE P T = some (e, sz, by')) (hx : Ev pc F x (.slm sz r.length (r.flatMap mk))) (hhi : Bd pc F hi r.length h)
    (hh : pc = true → h = (j : Int)) (hij : pc = true → j ≤ r.length) (hmk : ∀ a, (mk a).length = sz) : DOp P pc o F M [] (.slm sz (r.take j).length ((r.take j).flatMap mk)) [] :=
  op_slmmd (i := 0) ho hT hx (bd_none (z := 0)) hhi (fun _ => rfl) hh (fun hp => ⟨Nat.zero_le _, hij hp⟩) hmk
end
end Go.Proofs.YtmacjicebemgoaaGreat
namespace Go.Proofs.YtmacjicebemgoaaGreat
set_option linter.unusedVariables false
set_option linter.unusedSimpArgs false
open Go.ChangeShapes Go.WideShapes Go.ChangeAt Go.RowKit Go.Joins Go.Deep
/-- cells that read as data, side by side, at the start -/
def Opens (P : Program) (w : World) {α : Type} (t : TypeId) (mk : α → List D) (ok : α → Prop) : Prop :=
  ∀ (H : Type) (enc : TypeId × Value → H) (base : Nat) (spare : Nat → Bool) (held : Bool) (n : Nat) (cs : List Value) (x : DataW H × List MemPlace), DataW.trod enc P w base spare held n t cs = some x → ∃ a, ok a ∧ Reps (st0 w) (mk a) cs
section
variable {P : Program} {w : World}
theorem reps_app2 {s : St} {d1 d2 : List D} {v1 v2 : List Value} (h1 : Reps s d1 v1) (h2 : Reps s d2 v2) : Reps s (d1 ++ d2) (v1 ++ v2) := by
  refine ⟨by simp [h1.1, h2.1], fun j d v hd hv => ?_⟩
  by_cases hj : j < d1.length
  · rw [List.getElem?_append_left hj] at hd
    rw [List.getElem?_append_left (by rw [h1.1]; exact hj)] at hv
    exact h1.2 j d v hd hv
  · rw [List.getElem?_append_right (by omega)] at hd
    rw [List.getElem?_append_right (by rw [h1.1]; omega), h1.1] at hv
    exact h2.2 _ d v hd hv
/-- a type that holds no address -/
theorem opens_flat {α : Type} {t : TypeId} {ps : List Prim} (f : Nat) (en : α → List Value) (ok : α → Prop) (hP : ∀ cs, fitsP ps cs → ∃ a, ok a ∧ cs = en a) (hf : flatT P f t = some ps) : Opens P w t (fun a => (en a).map .val) ok := by
  intro H enc base spare held n cs x hx
  obtain ⟨a, hok, rfl⟩ := hP cs (flat_trod f _ _ _ _ _ hf hx)
  refine ⟨a, hok, by simp, fun j d v hd hv => ?_⟩
  rw [List.getElem?_map, hv] at hd
  obtain rfl := Option.some.inj hd
  exact .val v
/-- a slice whose elements hold no address -/
theorem opens_row {α : Type} {t e : TypeId} {ps : List Prim} (f : Nat) (en : α → List Value) (ok : α → Prop) (hP : ∀ cs, fitsP ps cs → ∃ a, ok a ∧ cs = en a) (ht : P.underlying t = some (.slice e)) (hf : flatT P f e = some ps) (hc : P.cellsOf e = ps.length) (hpos : 0 < ps.length)
    (hen : ∀ a, (en a).length = ps.length) : Opens P w t (fun l : List α => [.slf ps.length l.length (l.flatMap en)]) (fun l => ∀ a ∈ l, ok a) := by
  intro H enc base spare held n cs x hx
  have hone : ∃ a len cap, cs = [.slice a len cap] := by
    rcases open_slice ht hx with ⟨hcs, _⟩ | ⟨a, len', cap', _, _, _, _, hcs, _⟩
    · exact ⟨_, _, _, hcs⟩
    · exact ⟨_, _, _, hcs⟩
  obtain ⟨a, len, cap, rfl⟩ := hone
  obtain ⟨l, h1, h2, h3, h4, h5⟩ := open_row f en ok hP ht hf hc hpos (d := x.1) (p := x.2) (show DataW.Trod enc P w base spare held t (.slice a len cap) x.1 x.2 from ⟨n, hx⟩)
  exact ⟨l, h2, reps_cons (rep_row h1 h3 h4 h5 hen) reps_nil⟩
theorem reps_flat {α : Type} {s : St} {mk : α → List D} : ∀ (l : List α) (css : List (List Value)), css.length = l.length → (∀ (i : Nat) (h : i < l.length) (h2 : i < css.length), Reps s (mk l[i]) css[i]) → Reps s (l.flatMap mk) css.flatten
  | [], [], _, _ => reps_nil
  | a :: l, cs :: css, hl, h => by
    rw [List.flatMap_cons, List.flatten_cons]
    exact reps_app2 (h 0 (by simp) (by simp)) (reps_flat l css (by simpa using hl) fun i h1 h2 => h (i + 1) (by simpa using h1) (by simpa using h2))
  | [], _ :: _, h, _ => by simp at h
  | _ :: _, [], h, _ => by simp at h
theorem nlL_app : ∀ {a b : List D}, D.nlL a = true → D.nlL b = true → D.nlL (a ++ b) = true
  | [], _, _, h => h
  | d :: a, b, h, h' => by
    rw [D.nlL, Bool.and_eq_true] at h
    rw [List.cons_append, D.nlL, h.1, nlL_app h.2 h']
    rfl
theorem nlL_flat {α : Type} {mk : α → List D} (h : ∀ a, D.nlL (mk a) = true) : ∀ l : List α, D.nlL (l.flatMap mk) = true
  | [] => rfl
  | a :: l => by rw [List.flatMap_cons]; exact nlL_app (h a) (nlL_flat h l)
theorem flatM_len {α β : Type} {en : α → List β} {sz : Nat} (hen : ∀ a, (en a).length = sz) : ∀ l : List α, (l.flatMap en).length = l.length * sz
  | [] => by simp
  | a :: l => by rw [List.flatMap_cons, List.length_append, hen, flatM_len hen l, List.length_cons, Nat.succ_mul]; omega
/-- a slice of whatever opens -/
theorem opens_rows {α : Type} {t e : TypeId} {sz : Nat} {mk : α → List D} {ok : α → Prop} (he : Opens P w e mk ok) (ht : P.underlying t = some (.slice e)) (hc : P.cellsOf e = sz) (hpos : 0 < sz) (hmk : ∀ a, (mk a).length = sz) (hnl : ∀ a, D.nlL (mk a) = true) :
    Opens P w t (fun l : List α => [.slm sz l.length (l.flatMap mk)]) (fun l => ∀ a ∈ l, ok a) := by
  intro H enc base spare held n cs x hx
  rcases open_slice ht hx with ⟨hcs, _⟩ | ⟨a, len, cap, m, n', D', Pl, hcs, _, hl, hm, hmm, _, hel⟩
  · subst hcs
    exact ⟨[], by simp, reps_cons (.slm (vs := []) rfl (by simp) (Nat.le_refl _) (Nat.zero_le _) (fun _ => rfl) rfl (fun j d v hd => by simp at hd) (.inl rfl)) reps_nil⟩
  · subst hcs
    have hlm : len ≤ m := by rw [hmm]; split <;> omega
    rw [hc] at hel
    obtain ⟨l, hll, hp⟩ := list_of' len (fun i (c : α × List Value) => ok c.1 ∧ Reps (st0 w) (mk c.1) c.2 ∧ w.cells? base (a.add (i * sz)) sz = some c.2) (by
      intro i hi
      obtain ⟨cs, h1, h2⟩ := hel i (by omega)
      obtain ⟨c, hok, hr⟩ := he H enc base spare held _ cs _ h2
      exact ⟨(c, cs), hok, hr, h1⟩)
    refine ⟨l.map (·.1), fun c hcm => ?_, reps_cons ?_ reps_nil⟩
    · obtain ⟨q, hq, rfl⟩ := List.mem_map.1 hcm
      obtain ⟨i, hi, rfl⟩ := List.getElem_of_mem hq
      exact (hp i hi).1
    · have hreps : Reps (st0 w) ((l.map (·.1)).flatMap mk) (l.map (·.2)).flatten := reps_flat _ _ (by simp) fun i h1 h2 => by
        simp only [List.getElem_map]
        exact (hp i (by simpa using h1)).2.1
      have hlen : (l.map (·.1)).length = len := by simp [hll]
      have hflat : ((l.map (·.1)).flatMap mk).length = len * sz := by rw [flatM_len hmk, hlen]
      have hcslen : ∀ i (h : i < l.length), (l[i].2).length = sz := fun i h => ((World.cells?_some (hp i h).2.2).2.1)
      rw [hlen]
      refine .slm (vs := (l.map (·.2)).flatten) (nlL_flat hnl _) hflat hl hm (fun e => by cases e) hreps.1 hreps.2 ?_
      by_cases h0 : l = []
      · left; subst h0; rfl
      · right
        have hlp : 0 < l.length := List.length_pos_iff.2 h0
        obtain ⟨b, off, spot⟩ := a
        have hg := World.cells?_some (hp 0 hlp).2.2
        have hc0 := hg.2.2 0 hpos
        rw [List.getElem?_eq_getElem (by rw [hg.2.1]; exact hpos)] at hc0
        replace hc0 : ∃ v0, w.cell? (((⟨b, off, spot⟩ : Addr).add (0 * sz)).add 0) = some v0 := ⟨_, hc0⟩
        obtain ⟨v0, hc0⟩ := hc0
        have hs := World.cell?_spot hc0
        have hspot : spot = none := by simpa [Addr.add] using hs
        subst hspot
        have hpl : ∀ o k, (⟨b, o, none⟩ : Addr).add k = ⟨b, o + k, none⟩ := fun o k => by simp [Addr.add]
        rw [hpl, hpl] at hc0
        refine ⟨b, off, rfl, World.block_lt_of_cell? _ _ hc0, fun j u hj => ?_⟩
        show w.cell? ⟨b, off + j, none⟩ = some u
        have hfl : ∀ q : α × List Value, q ∈ l → q.2.length = sz := fun q hq => by
          obtain ⟨i, hi, rfl⟩ := List.getElem_of_mem hq
          exact hcslen i hi
        have key : ∀ (l' : List (α × List Value)), (∀ q ∈ l', q.2.length = sz) → ∀ j u, ((l'.map (·.2)).flatten)[j]? = some u → ∃ (i : Nat) (h : i < l'.length), j / sz = i ∧ (l'[i].2)[j % sz]? = some u := by
          intro l'
          induction l' with
          | nil => intro _ j u h; simp at h
          | cons q l' ih =>
            intro hq j u h
            have hq0 := hq q (List.mem_cons_self ..)
            rw [List.map_cons, List.flatten_cons] at h
            by_cases hj : j < sz
            · rw [List.getElem?_append_left (by omega)] at h
              exact ⟨0, by simp, Nat.div_eq_of_lt hj, by rw [Nat.mod_eq_of_lt hj]; exact h⟩
            · rw [List.getElem?_append_right (by omega), hq0] at h
              obtain ⟨i, hi, e1, e2⟩ := ih (fun q' hq' => hq q' (List.mem_cons_of_mem _ hq')) _ _ h
              refine ⟨i + 1, by simpa using hi, ?_, ?_⟩
              · rw [← e1, ← Nat.add_div_right _ hpos, Nat.sub_add_cancel (by omega)]
              · rw [Nat.mod_eq_sub_mod (by omega)]
                simpa using e2
        obtain ⟨i, hi, e1, e2⟩ := key l hfl j u hj
        have hr := Nat.mod_lt j hpos
        have h3 := (World.cells?_some (hp i hi).2.2).2.2 (j % sz) hr
        rw [hpl, hpl, e2] at h3
        have e : i * sz + j % sz = j := by rw [← e1, Nat.mul_comm]; exact Nat.div_add_mod j sz
        rw [Nat.add_assoc, e] at h3
        exact h3
end
/-- an argument that opens -/
theorem open_any {H : Type} {enc : TypeId × Value → H} {w : World} {base : Nat} {spare : Nat → Bool} {held : Bool} {α : Type} {t : TypeId} {mk : α → D} {ok : α → Prop} {v : Value} {d : DataW H} {p : List MemPlace} (ho : Opens Tryz.prog w t (fun a => [mk a]) ok) (hv : v.cells = #[v]) (h : DataW.Trod enc Tryz.prog w base spare held t v d p) :
    ∃ a, ok a ∧ Rep (st0 w) (mk a) v := by
  obtain ⟨fuel, hfu⟩ := h
  obtain ⟨a, hok, hr⟩ := ho H enc base spare held _ _ _ hfu
  rw [hv] at hr
  exact ⟨a, hok, hr.2 0 _ _ rfl rfl⟩
end Go.Proofs.YtmacjicebemgoaaGreat
namespace Go.Proofs.YtmacjicebemgoaaGreat
set_option linter.unusedVariables false
set_option linter.unusedSimpArgs false
open Go.ChangeShapes Go.WideShapes Go.ChangeAt Go.RowKit Go.Joins Go.Deep
/-- fields that read as data, from cell o on -/
def OpensF (P : Program) (w : World) {α : Type} (fs : List Field) (o tot : Nat) (mk : α → List D) (ok : α → Prop) : Prop :=
  ∀ (H : Type) (enc : TypeId × Value → H) (base : Nat) (spare : Nat → Bool) (held : Bool) (n : Nat) (cs : List Value), cs.length = tot → (∀ f, f ∈ fs → ∃ x, DataW.trod enc P w base spare held n f.type ((cs.drop f.offset).take (P.cellsOf f.type)) = some x) → ∃ a, ok a ∧ Reps (st0 w) (mk a) (cs.drop o)
section
variable {P : Program} {w : World}
theorem opensF_nil {tot : Nat} : OpensF P w ([] : List Field) tot tot (fun _ : Unit => []) (fun _ => True) := fun H enc base spare held n cs hl _ =>
  ⟨(), trivial, by rw [List.drop_eq_nil_of_le (by omega)]; exact ⟨rfl, fun j d v h => by simp at h⟩⟩
theorem opensF_cons {α β : Type} {f : Field} {fs : List Field} {o k tot : Nat} {mk : α → List D} {mk' : β → List D} {ok : α → Prop} {ok' : β → Prop} (ho : f.offset = o) (hk : P.cellsOf f.type = k) (h : Opens P w f.type mk ok) (h' : OpensF P w fs (o + k) tot mk' ok') :
    OpensF P w (f :: fs) o tot (fun a : α × β => mk a.1 ++ mk' a.2) (fun a => ok a.1 ∧ ok' a.2) := by
  intro H enc base spare held n cs hl hall
  obtain ⟨x, hx⟩ := hall f (List.mem_cons_self ..)
  rw [ho, hk] at hx
  obtain ⟨a, h1, h2⟩ := h H enc base spare held n _ x hx
  obtain ⟨b, h3, h4⟩ := h' H enc base spare held n cs hl fun g hg => hall g (List.mem_cons_of_mem _ hg)
  refine ⟨(a, b), ⟨h1, h3⟩, ?_⟩
  have e : cs.drop o = (cs.drop o).take k ++ cs.drop (o + k) := by rw [← List.drop_drop, List.take_append_drop]
  rw [e]
  exact reps_app2 h2 h4
theorem opens_struct {α : Type} {t : TypeId} {fs : Array Field} {tot : Nat} {mk : α → List D} {ok : α → Prop} (hu : P.underlying t = some (.struct fs)) (ht : P.cellsOf t = tot) (h : OpensF P w fs.toList 0 tot mk ok) : Opens P w t mk ok := by
  intro H enc base spare held n cs x hx
  obtain ⟨xs, m, _, _, hl, hlen, hf⟩ := DataW.trod_struct hu hx
  obtain ⟨a, h1, h2⟩ := h H enc base spare held m cs (by rw [hl, ht]) fun f hfm => by
    obtain ⟨i, hi, rfl⟩ := List.getElem_of_mem hfm
    have hi' : i < fs.size := by simpa using hi
    have h3 := hf i fs[i] (Array.getElem?_eq_getElem hi')
    rw [List.getElem?_eq_getElem (by omega)] at h3
    exact ⟨_, by simpa using h3⟩
  exact ⟨a, h1, by simpa using h2⟩
theorem opens_map {α β : Type} {t : TypeId} {mk : α → List D} {ok : α → Prop} {mk' : β → List D} {ok' : β → Prop} (g : α → β) (h : Opens P w t mk ok) (hm : ∀ a, mk a = mk' (g a)) (ho : ∀ a, ok a → ok' (g a)) : Opens P w t mk' ok' := by
  intro H enc base spare held n cs x hx
  obtain ⟨a, h1, h2⟩ := h H enc base spare held n cs x hx
  exact ⟨g a, ho a h1, by rw [← hm]; exact h2⟩
end
set_option maxRecDepth 100000
end Go.Proofs.YtmacjicebemgoaaGreat
namespace Go.Proofs.YtmacjicebemgoaaGreat
set_option linter.unusedVariables false
set_option linter.unusedSimpArgs false
section
variable {α : Type} {S : Int} {ok : α → Prop} {lay : α → List Int} {tk : Tkr α}
end
theorem isB_co (c : C4) : isB (coB' c) := isB_app.2 ⟨isB_layW _ _, isB_app.2 ⟨isB_layW _ _, isB_app.2 ⟨isB_layW _ _, isB_layW _ _⟩⟩⟩
theorem isB_flat {α : Type} {lay : α → List Int} (h : ∀ a, isB (lay a)) (l : List α) : isB (l.flatMap lay) := fun x hx => by
  obtain ⟨a, _, ha⟩ := List.mem_flatMap.1 hx
  exact h a x ha
theorem isB_fld (o : OpM) : isB (fldB o) := by
  have hp : ∀ x, isB (plB' x) := fun x => isB_layW _ _
  unfold fldB
  split
  · exact isB_app.2 ⟨isB_idB _, isB_app.2 ⟨hp _, isB_app.2 ⟨hp _, isB_app.2 ⟨hp _, isB_app.2 ⟨hp _, isB_app.2 ⟨isB_layW _ _, isB_co _⟩⟩⟩⟩⟩⟩
  · split
    · exact isB_app.2 ⟨isB_idB _, isB_app.2 ⟨hp _, isB_app.2 ⟨hp _, isB_app.2 ⟨hp _, isB_app.2 ⟨hp _, isB_co _⟩⟩⟩⟩⟩
    · split
      · exact isB_app.2 ⟨isB_idB _, isB_app.2 ⟨hp _, isB_app.2 ⟨hp _, isB_app.2 ⟨isB_layW _ _, isB_co _⟩⟩⟩⟩
      · split
        · exact isB_app.2 ⟨isB_idB _, isB_app.2 ⟨hp _, isB_app.2 ⟨hp _, isB_app.2 ⟨isB_app.2 ⟨isB_layW _ _, isB_layW _ _⟩, isB_flat isB_co _⟩⟩⟩⟩
        · exact isB_app.2 ⟨isB_idB _, isB_idB _⟩
theorem isB_opL (o : OpM) : isB (opL o) := isB_app.2 ⟨isB_layW _ _, isB_fld o⟩
theorem isB_rowL (l : List OpM) : isB (rowL l) := isB_app.2 ⟨isB_layW _ _, isB_flat isB_opL l⟩
/-- a row's bytes are one, and those of each -/
theorem rowL_len (l : List OpM) : (rowL l).length = 1 + (l.map fun o => (opL o).length).sum := by
  unfold rowL
  rw [List.length_append, List.length_flatMap]
  congr 1
end Go.Proofs.YtmacjicebemgoaaGreat
namespace Go.Proofs.YtmacjicebemgoaaGreat
set_option linter.unusedVariables false
set_option linter.unusedSimpArgs false
open Go.RowKit
section
variable {α β γ : Type}
end
theorem okO_take {l : List OpM} {i j : Nat} (h : ∀ j (h : j < l.length), j < i → okO l[j]) (hj : j ≤ i) : ∀ o ∈ l.take j, okO o := by
  intro o ho
  obtain ⟨q, hq, rfl⟩ := List.mem_iff_getElem.1 ho
  rw [List.length_take] at hq
  rw [List.getElem_take]
  exact h q (by omega) (by omega)
/-- an operation that the laws go through -/
def ownO (o : OpM) : OpM := { o with px := o.px.take (min o.px.length 66) }
def fewL (x : List OpM) : List OpM := (x.take (min x.length 66)).map ownO
theorem few_step {x : List OpM} {j : Nat} (h : j < (x.take (min x.length 66)).length) : (((x.take (min x.length 66)).take (j + 1)).map ownO) = (((x.take (min x.length 66)).take j).map ownO) ++ [ownO (x.take (min x.length 66))[j]] := by
  rw [List.take_succ_eq_append_getElem h, List.map_append]
  rfl
/-- what may be said of operations that are handed in: their colours are colours -/
def okX (o : OpM) : Prop := okC o.co ∧ ∀ c ∈ o.px, okC c
theorem fewL_ok {x : List OpM} (h : ∀ o ∈ x, okX o) : ∀ o ∈ fewL x, okX o := by
  intro o ho
  unfold fewL at ho
  obtain ⟨a, ha, rfl⟩ := List.mem_map.1 ho
  have h1 := h a (List.mem_of_mem_take ha)
  exact ⟨h1.1, fun c hc => h1.2 c (List.mem_of_mem_take hc)⟩
theorem okO_of {o : OpM} (h : opB o = true) (hx : okX o) : okO o := ⟨h, hx.1, hx.2⟩
/-- all may be, or there is a first one that may not -/
theorem ops_split {l : List OpM} (hx : ∀ o ∈ l, okX o) : (∀ o ∈ l, okO o) ∨ ∃ i, ∃ h : i < l.length, (∀ j (h : j < l.length), j < i → okO l[j]) ∧ opB l[i] = false := by
  induction l with
  | nil => exact .inl fun o h => by cases h
  | cons a l ih =>
    cases ha : opB a with
    | false => exact .inr ⟨0, by simp, fun j h hj => by omega, ha⟩
    | true =>
      have ka := okO_of ha (hx a (List.mem_cons_self ..))
      rcases ih fun o h => hx o (List.mem_cons_of_mem _ h) with h | ⟨i, hi, h1, h2⟩
      · exact .inl fun o ho => by
          rcases List.mem_cons.1 ho with rfl | ho
          · exact ka
          · exact h o ho
      · refine .inr ⟨i + 1, by simp; omega, fun j h hj => ?_, by simpa using h2⟩
        cases j with
        | zero => exact ka
        | succ j => simpa using h1 j (by simpa using h) (by omega)
def all2 {α : Type} (f : α → α → Bool) : List α → List α → Bool
  | [], [] => true
  | a :: l, b :: r => f a b && all2 f l r
  | _, _ => false
theorem all2_refl {α : Type} {f : α → α → Bool} (h : ∀ a, f a a = true) : ∀ l, all2 f l l = true
  | [] => rfl
  | a :: l => by rw [all2, h, all2_refl h l]; rfl
theorem all2_len {α : Type} {f : α → α → Bool} : ∀ {l r : List α}, l.length ≠ r.length → all2 f l r = false
  | [], [], h => absurd rfl h
  | [], _ :: _, _ => rfl
  | _ :: _, [], _ => rfl
  | a :: l, b :: r, h => by
    rw [all2, all2_len (fun e => h (by rw [List.length_cons, List.length_cons, e])), Bool.and_false]
theorem all2_drop {α : Type} {f : α → α → Bool} {l r : List α} {k : Nat} (h : k < l.length) (h2 : k < r.length) : all2 f (l.drop k) (r.drop k) = (f l[k] r[k] && all2 f (l.drop (k + 1)) (r.drop (k + 1))) := by
  rw [List.drop_eq_getElem_cons h, List.drop_eq_getElem_cons h2, all2]
end Go.Proofs.YtmacjicebemgoaaGreat
namespace Go.Proofs.YtmacjicebemgoaaGreat
set_option linter.unusedVariables false
set_option linter.unusedSimpArgs false
open Go.RowKit
attribute [local irreducible] opL layW idB layF fieldsK kdN
set_option maxRecDepth 4000 in
set_option maxHeartbeats 1000000 in
theorem cop_no (o : OpM) (h : opB o = false) : DFun Tryz.prog 15 [.agg (opD o)] [] (.tup [.val (.slice none 0 0), .val (.int .i64 220)]) [] := by
  refine zal (N := 35) 0 (by kernel_rfl) Tryz.func15 rfl rfl rfl (by simp only [fr0, Nat.zero_add, Nat.reduceAdd]; exact rfl) rfl fun s0 hs0 => ?_
  refine zaf ?_
  refine zaj 1 (by simp only [holes, List.cons_append, List.nil_append]; exact rfl) ?_
  refine zad ?_
  refine zak rfl rfl rfl (op_boxam 0 rfl (ev1 rfl) rfl) (by simp only [upd, za, zaa]; exact rfl) ?_
  refine zab rfl rfl rfl (zac (.inr rfl) (ev1 rfl)) ?_
  refine zab rfl rfl rfl (zac (.inr rfl) (ev1 rfl)) ?_
  refine zae ?_
  refine zaf ?_
  refine zaf ?_
  refine zad ?_
  refine zab rfl rfl rfl (op_ldmw rfl tb47 (ev1 rfl) rfl rfl) ?_
  refine zab rfl rfl rfl (zah [] [] [] rfl (ev1 rfl) (ec (ev1 rfl) en) rfl rfl (opCheck_d o) rfl rfl rfl rfl rfl rfl) ?_
  refine zab rfl rfl rfl (zac (.inr rfl) (ev1 rfl)) ?_
  refine zae ?_
  refine zaf ?_
  refine zad ?_
  refine zab rfl rfl rfl (zac (.inl rfl) (ev1 rfl)) ?_
  refine zab rfl rfl rfl (op_neq rfl (ev1 rfl) (ev1 rfl)) ?_
  refine zae ?_
  refine dwp_if_t rfl (by rw [h]; rfl) ?_
  refine zaf ?_
  refine zad ?_
  refine zab rfl rfl rfl (zac (.inl rfl) (ev1 rfl)) ?_
  refine zab rfl rfl rfl (zac (.inr rfl) (ev1 rfl)) ?_
  refine zab rfl rfl rfl (zac (.inr rfl) (ev1 rfl)) ?_
  refine zae ?_
  refine zan ?_
  refine kend0 (rs2 rfl (rv_t rfl) (rv_t rfl)) rfl ?_
  rw [h]
  rfl
set_option maxRecDepth 4000 in
set_option maxHeartbeats 1000000 in
theorem csize_ok (o : OpM) (h : okO o) : DFun Tryz.prog 18 [.agg (opD o)] [] (.val (.int .i64 ((opL o).length : Int))) [] := by
  refine zal (N := 12) 0 (by kernel_rfl) Tryz.func18 rfl rfl rfl (by simp only [fr0, Nat.zero_add, Nat.reduceAdd]; exact rfl) rfl fun s0 hs0 => ?_
  refine zaf ?_
  refine zaj 1 (by simp only [holes, List.cons_append, List.nil_append]; exact rfl) ?_
  refine zad ?_
  refine zak rfl rfl rfl (op_boxam 0 rfl (ev1 rfl) rfl) (by simp only [upd, za, zaa]; exact rfl) ?_
  refine zab rfl rfl rfl (zac (.inr rfl) (ev1 rfl)) ?_
  refine zae ?_
  refine zaf ?_
  refine zad ?_
  refine zab rfl rfl rfl (op_ldmw rfl tb47 (ev1 rfl) rfl rfl) ?_
  refine zab rfl rfl rfl (zah [] [] [] rfl (ev1 rfl) (ec (ev1 rfl) en) rfl rfl (cop_ok o h) rfl rfl rfl rfl rfl rfl) ?_
  refine zab rfl rfl rfl (zac (.inl rfl) (ev1 rfl)) ?_
  refine zab rfl rfl rfl (zar rfl (ev1 rfl) rfl) ?_
  refine zab rfl rfl rfl (zar rfl (ev1 rfl) rfl) ?_
  refine zab rfl rfl rfl (zac (.inr rfl) (ev1 rfl)) ?_
  refine zab rfl rfl rfl (zac (.inr rfl) (ev1 rfl)) ?_
  refine zae ?_
  refine zaf ?_
  refine zad ?_
  refine zab rfl rfl rfl (zac (.inl rfl) (ev1 rfl)) ?_
  refine zab rfl rfl rfl (op_len rfl sl30 (ev1 rfl)) ?_
  refine zab rfl rfl rfl (zac (.inr rfl) (ev1 rfl)) ?_
  refine zae ?_
  refine zan ?_
  refine kend0 (rs1 rfl (rv_t rfl)) rfl ?_
  rfl
end Go.Proofs.YtmacjicebemgoaaGreat
namespace Go.Proofs.YtmacjicebemgoaaGreat
set_option linter.unusedVariables false
set_option linter.unusedSimpArgs false
open Go.RowKit
attribute [local irreducible] opL layW idB layF fieldsK kdN
set_option maxRecDepth 4000 in
set_option maxHeartbeats 1000000 in
theorem opsRound_no (o : OpM) (k : Nat) (l : List Int) (h : opB o = false) : DRound Tryz.prog 0 [.agg (opD o)] [.lp 32 [(4, .loc 1 0), (5, .loc 2 0)] #[18] opsrA opsrB .ready none, .mix 30 [.farr 3 k], .flat 31 [.int .i64 0], fmB k (l)] false [.lp 32 [(4, .loc 1 0), (5, .loc 2 0)] #[18] opsrA opsrB .done (some (.exit 0)), .mix 30 [.val (.slice none 0 0)], .flat 31 [.int .i64 220], fmB k (l)] := by
  refine dround_go 4 rfl rfl (by simp) rfl rfl fun s0 hs0 => ?_
  refine zaj 1 (by simp only [holes, List.cons_append, List.nil_append]; exact rfl) ?_
  refine zad ?_
  refine zak rfl rfl rfl (zao 4 rfl zr47 rfl) (by simp only [upd, za, zaa]; exact rfl) ?_
  refine walk_s rfl rfl (op_stam rfl tb47 (ev1 rfl) (ev1 rfl) rfl rfl rfl rfl) (by simp only [upd, za, zaa]; exact rfl) ?_
  refine zae ?_
  refine ⟨rfl, ?_⟩
  simp only [za, zaa]
  refine zat ?_
  refine zaf ?_
  refine zad ?_
  refine zab rfl rfl rfl (op_ldmw rfl tb47 (ev1 rfl) rfl rfl) ?_
  refine zab rfl rfl rfl (zah [] [] [] rfl (ev1 rfl) (ec (ev1 rfl) en) rfl rfl (cop_no o h) rfl rfl rfl rfl rfl rfl) ?_
  refine zab rfl rfl rfl (zac (.inl rfl) (ev1 rfl)) ?_
  refine zab rfl rfl rfl (zar rfl (ev1 rfl) rfl) ?_
  refine zab rfl rfl rfl (zar rfl (ev1 rfl) rfl) ?_
  refine zab rfl rfl rfl (zac (.inr rfl) (ev1 rfl)) ?_
  refine zab rfl rfl rfl (zac (.inr rfl) (ev1 rfl)) ?_
  refine zae ?_
  refine zaf ?_
  refine zaf ?_
  refine zad ?_
  refine zab rfl rfl rfl (zac (.inl rfl) (ev1 rfl)) ?_
  refine zab rfl rfl rfl (op_neq rfl (ev1 rfl) (ev1 rfl)) ?_
  refine zae ?_
  refine dwp_if_t rfl (rfl) ?_
  refine zaf ?_
  refine zad ?_
  refine zab rfl rfl rfl (zac (.inl rfl) (ev1 rfl)) ?_
  refine walk_s rfl rfl (op_stm rfl tb30 (ev1 rfl) (ev1 rfl) (fun s v h => by cases h <;> exact ⟨rfl, rfl⟩) rfl (by first | decide | exact Nat.le_of_ble_eq_true rfl | simp)) (by simp only [upd, za, zaa]; exact rfl) ?_
  refine walk_s rfl rfl (op_stwi rfl tb31 (ev1 rfl) (ev1 rfl) rfl) (by simp only [upd, za, zaa]; exact rfl) ?_
  refine zae ?_
  refine dwp_exit ?_
  refine ⟨by first | rfl | assumption | simp_all, rfl, [0, 1, 2, 3], rfl, ⟨rfl, rfl, rfl, rfl, trivial⟩⟩
set_option maxRecDepth 4000 in
set_option maxHeartbeats 1000000 in
theorem all1_no (l : List OpM) (i : Nat) (hi : i < l.length) (ho : ∀ j (h : j < l.length), j < i → okO l[j]) (hbad : opB l[i] = false) (hn : l.length ≤ 64) (k : Nat) (b : List Int) (hb : b.length ≤ 100) : DFun Tryz.prog 77 [.yld 0, .loc 4 0] [.lp 32 [(4, .loc 1 0), (5, .loc 2 0)] #[18] opsrA opsrB .ready none, .mix 30 [.farr 3 k], .flat 31 [.int .i64 0], fmB k (b), .mix 26 [.slm 19 l.length (l.flatMap opD)]] (.tup []) [.lp 32 [(4, .loc 1 0), (5, .loc 2 0)] #[18] opsrA opsrB .done (some (.exit 0)), .mix 30 [.val (.slice none 0 0)], .flat 31 [.int .i64 220], fmB (k + i) (b ++ (l.take i).flatMap opL), .mix 26 [.slm 19 l.length (l.flatMap opD)]] := by
  refine zal (N := 16) 5 (by kernel_rfl) Tryz.func77 rfl rfl rfl (by simp only [fr0, Nat.zero_add, Nat.reduceAdd]; exact rfl) rfl fun s0 hs0 => ?_
  refine zaf ?_
  refine zad ?_
  refine zab rfl rfl rfl (zaq rfl tb26 (ev1 rfl) rfl rfl) ?_
  refine zab rfl rfl rfl (op_lenm rfl sl26 (ev1 rfl)) ?_
  refine zab rfl rfl rfl (zac (.inl rfl) (ev1 rfl)) ?_
  refine zae ?_
  refine zat ?_
  refine dwp_loopS ⟨hs0, rfl⟩ (α := Nat) (fun j => [(7, .val (.int .i64 (j : Int)))]) [(0, _), (5, _), (6, _)] (fun j => [(1, .mix 30 [.farr 3 (k + j)]), (3, fmB (k + j) (b ++ (l.take j).flatMap opL))]) [_, .hole, _, .hole, _] (fun j => j ≤ i) (fun j => l.length - j) 0 [0, 1, 2, 3, 4] (by omega) rfl ⟨rfl, rfl, rfl, trivial⟩ ⟨rfl, trivial⟩ ⟨rfl, rfl, rfl, fm_cat rfl (by simp), rfl, trivial⟩ ?_
  intro j hx
  simp only [upd, za, zaa, List.cons_append, List.nil_append]
  have hj := hx
  have hol : ((l.take j).flatMap opL).length ≤ 278 * (l.take j).length := ops_len fun o h => okO_take ho hj o h
  rw [List.length_take] at hol
  refine zaf ?_
  refine zad ?_
  refine zab rfl rfl rfl (op_lss rfl (ev1 rfl) (ev1 rfl)) ?_
  refine zae ?_
  refine zaf ?_
  refine dwp_if_t rfl (decide_eq_true (by omega)) ?_
  refine zam ?_
  refine zaf ?_
  refine zat ?_
  refine zaf ?_
  refine zaj 1 (by simp only [holes, List.cons_append, List.nil_append]; exact rfl) ?_
  refine zad ?_
  refine zab rfl rfl rfl (op_ixmr (j) (by decide) rfl sl26 (ev1 rfl) (ev1 rfl) (fun _ => rfl) (by omega) (fun _ => rfl)) ?_
  refine zab rfl rfl rfl (op_lddr rfl tb47 (ev1 rfl) rfl rfl) ?_
  refine zak rfl rfl rfl (zao 5 rfl zr47 rfl) (by simp only [upd, za, zaa]; exact rfl) ?_
  refine walk_s rfl rfl (op_stam rfl tb47 (ev1 rfl) (ev1 rfl) rfl rfl rfl rfl) (by simp only [upd, za, zaa]; exact rfl) ?_
  refine zae ?_
  refine zaf ?_
  by_cases hji : j = i
  · subst hji
    refine zad ?_
    refine zab rfl rfl rfl (zac (.inl rfl) (ev1 rfl)) ?_
    refine zab rfl rfl rfl (op_ldmw rfl tb47 (ev1 rfl) rfl rfl) ?_
    refine zak rfl rfl rfl (op_y (i := 0) [0, 1, 2, 3] [] [] rfl (ev1 rfl) (ec (ev1 rfl) en) rfl rfl rfl (opsRound_no l[j] (k + j) (b ++ (l.take j).flatMap opL) hbad) rfl rfl rfl rfl rfl) (by simp only [upd, za, zaa]; exact rfl) ?_
    refine zab rfl rfl rfl (op_not rfl (ev1 rfl)) ?_
    refine zae ?_
    refine dwp_if_t rfl (rfl) ?_
    refine zan ?_
    refine kend [0, 1, 2, 3, 4] (res_none rfl) rfl rfl ?_ ⟨rfl, rfl, rfl, rfl, rfl, trivial⟩
    rfl
  · refine zad ?_
    refine zab rfl rfl rfl (zac (.inl rfl) (ev1 rfl)) ?_
    refine zab rfl rfl rfl (op_ldmw rfl tb47 (ev1 rfl) rfl rfl) ?_
    refine zak rfl rfl rfl (op_y (i := 0) [0, 1, 2, 3] [] [] rfl (ev1 rfl) (ec (ev1 rfl) en) rfl rfl rfl (opsRound_go l[j] (k + j) (b ++ (l.take j).flatMap opL) (ho _ _ (by omega)) (by rw [List.length_append]; omega)) rfl rfl rfl rfl rfl) (by simp only [upd, za, zaa]; exact rfl) ?_
    refine zab rfl rfl rfl (op_not rfl (ev1 rfl)) ?_
    refine zae ?_
    refine dwp_if_f rfl (rfl) ?_
    refine zam ?_
    refine zad ?_
    refine zab rfl rfl rfl (op_add' rfl (ev1 rfl) (ev1 rfl) (fun _ => IntWalk.i64_in _ (by omega))) ?_
    refine zab rfl rfl rfl (zac (.inl rfl) (ev1 rfl)) ?_
    refine zae ?_
    refine ⟨j + 1, [0, 1, 2, 3, 4], by omega, by simp only []; omega, rfl, ⟨rfl, rfl, rfl, rfl, trivial⟩, ⟨rfl, rfl, rfl, fm_cat rfl (by rw [ops_take (by omega), List.append_assoc]), rfl, trivial⟩⟩
set_option maxRecDepth 4000 in
set_option maxHeartbeats 1000000 in
theorem cops_long (l : List OpM) (h : 64 < l.length) : DFun Tryz.prog 19 [.slm 19 l.length (l.flatMap opD)] [] (.tup [.val (.slice none 0 0), .val (.int .i64 3)]) [] := by
  refine zal (N := 32) 0 (by kernel_rfl) Tryz.func19 rfl rfl rfl (by simp only [fr0, Nat.zero_add, Nat.reduceAdd]; exact rfl) rfl fun s0 hs0 => ?_
  refine dwp_lenm (t := 0) rfl fun hl0 hL0 => ?_
  refine zaf ?_
  refine zad ?_
  refine zab rfl rfl rfl (zac (.inr rfl) (ev1 rfl)) ?_
  refine zab rfl rfl rfl (zac (.inr rfl) (ev1 rfl)) ?_
  refine zae ?_
  refine dwp_scope ?_
  refine zaf ?_
  refine zaf ?_
  refine zad ?_
  refine zab rfl rfl rfl (zac (.inl rfl) (ev1 rfl)) ?_
  refine zab rfl rfl rfl (op_lenm rfl sl26 (ev1 rfl)) ?_
  refine zab rfl rfl rfl (op_gtr rfl (ev1 rfl) (ev1 rfl)) ?_
  refine zae ?_
  refine dwp_if_t rfl (decide_eq_true (by omega)) ?_
  refine zaf ?_
  refine zad ?_
  refine zab rfl rfl rfl (zac (.inr rfl) (ev1 rfl)) ?_
  refine zab rfl rfl rfl (zac (.inr rfl) (ev1 rfl)) ?_
  refine zae ?_
  refine zan ?_
  refine kend0 (rs2 rfl (rv_t rfl) (rv_t rfl)) rfl ?_
  rfl
set_option maxRecDepth 4000 in
set_option maxHeartbeats 1000000 in
theorem cops_no (l : List OpM) (i : Nat) (hi : i < l.length) (ho : ∀ j (h : j < l.length), j < i → okO l[j]) (hbad : opB l[i] = false) (hn : l.length ≤ 64) : DFun Tryz.prog 19 [.slm 19 l.length (l.flatMap opD)] [] (.tup [.val (.slice none 0 0), .val (.int .i64 220)]) [] := by
  refine zal (N := 32) 0 (by kernel_rfl) Tryz.func19 rfl rfl rfl (by simp only [fr0, Nat.zero_add, Nat.reduceAdd]; exact rfl) rfl fun s0 hs0 => ?_
  refine dwp_lenm (t := 0) rfl fun hl0 hL0 => ?_
  refine zaf ?_
  refine zad ?_
  refine zab rfl rfl rfl (zac (.inr rfl) (ev1 rfl)) ?_
  refine zab rfl rfl rfl (zac (.inr rfl) (ev1 rfl)) ?_
  refine zae ?_
  refine dwp_scope ?_
  refine zaf ?_
  refine zaf ?_
  refine zad ?_
  refine zab rfl rfl rfl (zac (.inl rfl) (ev1 rfl)) ?_
  refine zab rfl rfl rfl (op_lenm rfl sl26 (ev1 rfl)) ?_
  refine zab rfl rfl rfl (op_gtr rfl (ev1 rfl) (ev1 rfl)) ?_
  refine zae ?_
  refine dwp_if_f rfl (decide_eq_false (by omega)) ?_
  refine zam ?_
  refine zaf ?_
  refine zaj 3 (by simp only [holes, List.cons_append, List.nil_append]; exact rfl) ?_
  refine zad ?_
  refine zab rfl rfl rfl (zac (.inl rfl) (ev1 rfl)) ?_
  refine zab rfl rfl rfl (op_lenm rfl sl26 (ev1 rfl)) ?_
  refine zab rfl rfl rfl ((op_conv ty3 kn5 rfl (ev1 rfl)).cast (d' := .val (.int .u8 (l.length : Int))) (by rw [IntWalk.u8_in _ (by omega)])) ?_
  refine zak rfl rfl rfl (op_bsa (ps := [(0, .tmp 14)]) 0 rfl sl30 zr5 rfl (vc (ev1 rfl) vn) rfl (by decide) (by decide) rfl) (by simp only [upd, za, zaa]; exact rfl) ?_
  refine zak rfl rfl rfl (zao 1 rfl zr30 rfl) (by simp only [upd, za, zaa]; exact rfl) ?_
  refine zak rfl rfl rfl (zao 2 rfl zr31 rfl) (by simp only [upd, za, zaa]; exact rfl) ?_
  refine walk_s rfl rfl (op_stfm rfl tb30 (ev1 rfl) (ev1 rfl) (fun s v h => by cases h <;> exact ⟨rfl, rfl⟩) rfl (by decide)) (by simp only [upd, za, zaa]; exact rfl) ?_
  refine walk_s rfl rfl (op_stwi rfl tb31 (ev1 rfl) (ev1 rfl) rfl) (by simp only [upd, za, zaa]; exact rfl) ?_
  refine zae ?_
  refine zaf ?_
  refine dwp_label ?_
  refine zaf ?_
  refine zaf ?_
  refine zaj 1 (by simp only [holes, List.cons_append, List.nil_append]; exact rfl) ?_
  refine zad ?_
  refine zab rfl rfl rfl (zac (.inl rfl) (ev1 rfl)) ?_
  refine zak rfl rfl rfl (zah [] [] [3] rfl (ev1 rfl) (ec (ev1 rfl) en) rfl rfl (call_d l) rfl rfl rfl rfl rfl rfl) (by simp only [upd, za, zaa]; exact rfl) ?_
  refine zae ?_
  refine zat ?_
  refine dwp_hole ?_
  refine dwp_fam 4 rfl (by simp only [List.cons_append, List.nil_append, za, zaa]; exact rfl) ?_
  refine dwp_absc 1 0 4 rfl rfl rfl rfl (by simp only [List.cons_append, List.nil_append, za, zaa]; exact rfl) ?_
  refine dwp_hole ?_
  simp only [List.cons_append, List.nil_append]
  refine dwp_rf (FL := [(4, _), (5, _)]) (st := .done) (pe := (some (.exit 0))) [5, 1, 2, 4, 3] [] [] 5 rfl rfl (ev1 rfl) rfl (subF_lk ⟨rfl, rfl, trivial⟩) rfl rfl rfl (all1_no l i hi ho hbad hn 0 [(l.length : Int)] (by simp)) rfl rfl rfl rfl rfl rfl rfl (by simp) (fun e => ?_) (fun c e => ?_)
  · cases e
  · cases e
    simp only [upd, za, zaa]
    refine dwp_exit ?_
    refine zaf ?_
    refine dwp_draw [([1], []), ([2], []), ([], []), ([], [])] mixed (by kernel_rfl) ?_
    refine lex_r rfl rfl (zaq rfl tb30 (ev1 rfl) rfl rfl) ?_
    refine lex_r rfl rfl (op_ldo rfl tb31 (ev1 rfl) rfl rfl) ?_
    refine lex_r rfl rfl (zac (.inr rfl) (ev1 rfl)) ?_
    refine lex_r rfl rfl (zac (.inr rfl) (ev1 rfl)) ?_
    refine lex_nil ?_
    refine zan ?_
    refine kend0 (rs2 rfl (rv_t rfl) (rv_t rfl)) rfl ?_
    rfl
end Go.Proofs.YtmacjicebemgoaaGreat
namespace Go.Proofs.YtmacjicebemgoaaGreat
set_option linter.unusedVariables false
set_option linter.unusedSimpArgs false
open Go.RowKit
def sameO (a b : OpM) : Bool := eqI a.id b.id && (a.kd == b.kd) && (a.x == b.x) && (a.y == b.y) && (a.x2 == b.x2) && (a.y2 == b.y2) && (a.sz == b.sz) && decide (a.co = b.co) && eqI a.tg b.tg && (((a.sw == b.sw) && (a.sh == b.sh)) && decide (a.px = b.px))
theorem sameO_refl (a : OpM) : sameO a a = true := by
  have e : ∀ i : I3, eqI i i = true := fun i => eqI_iff.2 rfl
  unfold sameO
  simp [e]
set_option maxRecDepth 4000 in
set_option maxHeartbeats 1000000 in
theorem osame_d (a b : OpM) : DFun Tryz.prog 25 [.agg (opD a), .agg (opD b)] [] (.val (.bool (sameO a b))) [] := by
  refine zal (N := 73) 0 (by kernel_rfl) Tryz.func25 rfl rfl rfl (by simp only [fr0, Nat.zero_add, Nat.reduceAdd]; exact rfl) rfl fun s0 hs0 => ?_
  refine zaf ?_
  refine zaj 2 (by simp only [holes, List.cons_append, List.nil_append]; exact rfl) ?_
  refine zad ?_
  refine zak rfl rfl rfl (op_boxam 0 rfl (ev1 rfl) rfl) (by simp only [upd, za, zaa]; exact rfl) ?_
  refine zak rfl rfl rfl (op_boxam 1 rfl (ev1 rfl) rfl) (by simp only [upd, za, zaa]; exact rfl) ?_
  refine zab rfl rfl rfl (zac (.inr rfl) (ev1 rfl)) ?_
  refine zae ?_
  refine zaf ?_
  refine zad ?_
  refine zab rfl rfl rfl (zap rfl fo47_0 (ev1 rfl)) ?_
  refine zab rfl rfl rfl (op_ldmv (R := [_, _, _]) rfl tb29 (ev1 rfl) rfl rfl rfl) ?_
  refine zab rfl rfl rfl (zap rfl fo47_0 (ev1 rfl)) ?_
  refine zab rfl rfl rfl (op_ldmv (R := [_, _, _]) rfl tb29 (ev1 rfl) rfl rfl rfl) ?_
  refine zab rfl rfl rfl (op_eqr eq29 rfl gd29 tb29 (ev1 rfl) (ev1 rfl)) ?_
  refine zab rfl rfl rfl (zac (.inl rfl) (ev1 rfl)) ?_
  refine zag (gd_t rfl rfl rfl) rfl rfl rfl (zap rfl fo47_1 (ev1 rfl)) ?_
  refine zag (gd_t rfl rfl rfl) rfl rfl rfl (zaq rfl tb3 (ev2 rfl) rfl rfl) ?_
  refine zag (gd_t rfl rfl rfl) rfl rfl rfl (zap rfl fo47_1 (ev1 rfl)) ?_
  refine zag (gd_t rfl rfl rfl) rfl rfl rfl (zaq rfl tb3 (ev2 rfl) rfl rfl) ?_
  refine zag (gd_t rfl rfl rfl) rfl rfl rfl (op_eql rfl (ev2 rfl) (ev2 rfl)) ?_
  refine zab rfl rfl rfl (op_and rfl (ev1 rfl) (ev3 rfl id)) ?_
  refine zab rfl rfl rfl (zac (.inl rfl) (ev1 rfl)) ?_
  refine zag (gd_t rfl rfl rfl) rfl rfl rfl (zap rfl fo47_2 (ev1 rfl)) ?_
  refine zag (gd_t rfl rfl rfl) rfl rfl rfl (zaq rfl tb3 (ev2 rfl) rfl rfl) ?_
  refine zag (gd_t rfl rfl rfl) rfl rfl rfl (zap rfl fo47_2 (ev1 rfl)) ?_
  refine zag (gd_t rfl rfl rfl) rfl rfl rfl (zaq rfl tb3 (ev2 rfl) rfl rfl) ?_
  refine zag (gd_t rfl rfl rfl) rfl rfl rfl (op_eql rfl (ev2 rfl) (ev2 rfl)) ?_
  refine zab rfl rfl rfl (op_and rfl (ev1 rfl) (ev3 rfl id)) ?_
  refine zab rfl rfl rfl (zac (.inl rfl) (ev1 rfl)) ?_
  refine zag (gd_t rfl rfl rfl) rfl rfl rfl (zap rfl fo47_3 (ev1 rfl)) ?_
  refine zag (gd_t rfl rfl rfl) rfl rfl rfl (zaq rfl tb3 (ev2 rfl) rfl rfl) ?_
  refine zag (gd_t rfl rfl rfl) rfl rfl rfl (zap rfl fo47_3 (ev1 rfl)) ?_
  refine zag (gd_t rfl rfl rfl) rfl rfl rfl (zaq rfl tb3 (ev2 rfl) rfl rfl) ?_
  refine zag (gd_t rfl rfl rfl) rfl rfl rfl (op_eql rfl (ev2 rfl) (ev2 rfl)) ?_
  refine zab rfl rfl rfl (op_and rfl (ev1 rfl) (ev3 rfl id)) ?_
  refine zab rfl rfl rfl (zac (.inl rfl) (ev1 rfl)) ?_
  refine zag (gd_t rfl rfl rfl) rfl rfl rfl (zap rfl fo47_4 (ev1 rfl)) ?_
  refine zag (gd_t rfl rfl rfl) rfl rfl rfl (zaq rfl tb3 (ev2 rfl) rfl rfl) ?_
  refine zag (gd_t rfl rfl rfl) rfl rfl rfl (zap rfl fo47_4 (ev1 rfl)) ?_
  refine zag (gd_t rfl rfl rfl) rfl rfl rfl (zaq rfl tb3 (ev2 rfl) rfl rfl) ?_
  refine zag (gd_t rfl rfl rfl) rfl rfl rfl (op_eql rfl (ev2 rfl) (ev2 rfl)) ?_
  refine zab rfl rfl rfl (op_and rfl (ev1 rfl) (ev3 rfl id)) ?_
  refine zab rfl rfl rfl (zac (.inl rfl) (ev1 rfl)) ?_
  refine zag (gd_t rfl rfl rfl) rfl rfl rfl (zap rfl fo47_5 (ev1 rfl)) ?_
  refine zag (gd_t rfl rfl rfl) rfl rfl rfl (zaq rfl tb3 (ev2 rfl) rfl rfl) ?_
  refine zag (gd_t rfl rfl rfl) rfl rfl rfl (zap rfl fo47_5 (ev1 rfl)) ?_
  refine zag (gd_t rfl rfl rfl) rfl rfl rfl (zaq rfl tb3 (ev2 rfl) rfl rfl) ?_
  refine zag (gd_t rfl rfl rfl) rfl rfl rfl (op_eql rfl (ev2 rfl) (ev2 rfl)) ?_
  refine zab rfl rfl rfl (op_and rfl (ev1 rfl) (ev3 rfl id)) ?_
  refine zab rfl rfl rfl (zac (.inl rfl) (ev1 rfl)) ?_
  refine zag (gd_t rfl rfl rfl) rfl rfl rfl (zap rfl fo47_6 (ev1 rfl)) ?_
  refine zag (gd_t rfl rfl rfl) rfl rfl rfl (zaq rfl tb3 (ev2 rfl) rfl rfl) ?_
  refine zag (gd_t rfl rfl rfl) rfl rfl rfl (zap rfl fo47_6 (ev1 rfl)) ?_
  refine zag (gd_t rfl rfl rfl) rfl rfl rfl (zaq rfl tb3 (ev2 rfl) rfl rfl) ?_
  refine zag (gd_t rfl rfl rfl) rfl rfl rfl (op_eql rfl (ev2 rfl) (ev2 rfl)) ?_
  refine zab rfl rfl rfl (op_and rfl (ev1 rfl) (ev3 rfl id)) ?_
  refine zab rfl rfl rfl (zac (.inl rfl) (ev1 rfl)) ?_
  refine zag (gd_t rfl rfl rfl) rfl rfl rfl (zap rfl fo47_7 (ev1 rfl)) ?_
  refine zag (gd_t rfl rfl rfl) rfl rfl rfl (op_ldmv (R := [_, _, _, _]) rfl tb42 (ev2 rfl) rfl rfl rfl) ?_
  refine zag (gd_t rfl rfl rfl) rfl rfl rfl (zap rfl fo47_7 (ev1 rfl)) ?_
  refine zag (gd_t rfl rfl rfl) rfl rfl rfl (op_ldmv (R := [_, _, _, _]) rfl tb42 (ev2 rfl) rfl rfl rfl) ?_
  refine zag (gd_t rfl rfl rfl) rfl rfl rfl (op_eqr eq42 rfl gd42 tb42 (ev2 rfl) (ev2 rfl)) ?_
  refine zab rfl rfl rfl (op_and rfl (ev1 rfl) (ev3 rfl id)) ?_
  refine zab rfl rfl rfl (zac (.inl rfl) (ev1 rfl)) ?_
  refine zag (gd_t rfl rfl rfl) rfl rfl rfl (zap rfl fo47_8 (ev1 rfl)) ?_
  refine zag (gd_t rfl rfl rfl) rfl rfl rfl (op_ldmp rfl tb45 (ev2 rfl) rfl rfl rfl) ?_
  refine zag (gd_t rfl rfl rfl) rfl rfl rfl (zap rfl fo47_8 (ev1 rfl)) ?_
  refine zag (gd_t rfl rfl rfl) rfl rfl rfl (op_ldmp rfl tb45 (ev2 rfl) rfl rfl rfl) ?_
  refine zag (gd_t rfl rfl rfl) rfl rfl rfl (zah [] [] [] rfl (ev1 rfl) (ec (ev2 rfl) (ec (ev2 rfl) en)) rfl rfl (stSame_d _ _ _ _ _ _) rfl rfl rfl rfl rfl rfl) ?_
  refine zab rfl rfl rfl (op_and rfl (ev1 rfl) (ev3 rfl id)) ?_
  refine zab rfl rfl rfl (zac (.inl rfl) (ev1 rfl)) ?_
  refine zag (gd_t rfl rfl rfl) rfl rfl rfl (zap rfl fo47_9 (ev1 rfl)) ?_
  refine zag (gd_t rfl rfl rfl) rfl rfl rfl (op_ldmv (R := [_, _, _]) rfl tb29 (ev2 rfl) rfl rfl rfl) ?_
  refine zag (gd_t rfl rfl rfl) rfl rfl rfl (zap rfl fo47_9 (ev1 rfl)) ?_
  refine zag (gd_t rfl rfl rfl) rfl rfl rfl (op_ldmv (R := [_, _, _]) rfl tb29 (ev2 rfl) rfl rfl rfl) ?_
  refine zag (gd_t rfl rfl rfl) rfl rfl rfl (op_eqr eq29 rfl gd29 tb29 (ev2 rfl) (ev2 rfl)) ?_
  refine zab rfl rfl rfl (op_and rfl (ev1 rfl) (ev3 rfl id)) ?_
  refine zab rfl rfl rfl (zac (.inr rfl) (ev1 rfl)) ?_
  refine zae ?_
  refine zan ?_
  refine kend0 (rs1 rfl (rv_t rfl)) rfl ?_
  rw [D.val.injEq, Value.bool.injEq]
  unfold sameO
  cases h1 : eqI a.id b.id <;> cases h2 : eqI a.tg b.tg <;> simp [Bool.and_assoc]
set_option maxRecDepth 4000 in
set_option maxHeartbeats 1000000 in
theorem equalO (l r : List OpM) : DFun Tryz.prog 21 [.slm 19 l.length (l.flatMap opD), .slm 19 r.length (r.flatMap opD), .fn (.func 25) [] []] [] (.val (.bool (all2 sameO l r))) [] := by
  refine zal (N := 32) 0 (by kernel_rfl) Tryz.func21 rfl rfl rfl (by simp only [fr0, Nat.zero_add, Nat.reduceAdd]; exact rfl) rfl fun s0 hs0 => ?_
  refine dwp_lenm (t := 0) rfl fun hl0 hL0 => ?_
  refine dwp_lenm (t := 1) rfl fun hl1 hL1 => ?_
  refine zaf ?_
  refine zad ?_
  refine zab rfl rfl rfl (zac (.inr rfl) (ev1 rfl)) ?_
  refine zae ?_
  refine zaf ?_
  refine zaf ?_
  refine zad ?_
  refine zab rfl rfl rfl (zac (.inl rfl) (ev1 rfl)) ?_
  refine zab rfl rfl rfl (op_lenm rfl sl26 (ev1 rfl)) ?_
  refine zab rfl rfl rfl (zac (.inl rfl) (ev1 rfl)) ?_
  refine zab rfl rfl rfl (op_lenm rfl sl26 (ev1 rfl)) ?_
  refine zab rfl rfl rfl (op_neq rfl (ev1 rfl) (ev1 rfl)) ?_
  refine zae ?_
  refine dwp_cond rfl (fun c1 => ?_) (fun c1 => ?_)
  · have hne : all2 sameO l r = false := all2_len (fun e => by rw [e] at c1; simp at c1)
    refine zaf ?_
    refine zad ?_
    refine zab rfl rfl rfl (zac (.inr rfl) (ev1 rfl)) ?_
    refine zae ?_
    refine zan ?_
    refine kend0 (rs1 rfl (rv_t rfl)) rfl ?_
    rw [hne]
  · have hlen : l.length = r.length := by
      have h := c1
      simp at h
      omega
    refine zam ?_
    refine zaf ?_
    refine zaf ?_
    refine zad ?_
    refine zab rfl rfl rfl (zac (.inl rfl) (ev1 rfl)) ?_
    refine zab rfl rfl rfl (op_lenm rfl sl26 (ev1 rfl)) ?_
    refine zab rfl rfl rfl (zac (.inl rfl) (ev1 rfl)) ?_
    refine zae ?_
    refine zat ?_
    refine dwp_loopS ⟨hs0, rfl⟩ (α := Nat) (fun k => [(17, .val (.int .i64 (k : Int)))]) [(1, _), (2, _), (15, _), (16, _)] (fun k => []) [] (fun k => k ≤ l.length ∧ all2 sameO l r = all2 sameO (l.drop k) (r.drop k)) (fun k => l.length - k) 0 [] (⟨Nat.zero_le _, rfl⟩) rfl ⟨rfl, rfl, rfl, rfl, trivial⟩ ⟨rfl, trivial⟩ trivial ?_
    intro k hx
    simp only [upd, za, zaa, List.cons_append, List.nil_append]
    obtain ⟨hk, he⟩ := hx
    refine zaf ?_
    refine zad ?_
    refine zab rfl rfl rfl (op_lss rfl (ev1 rfl) (ev1 rfl)) ?_
    refine zae ?_
    refine zaf ?_
    refine dwp_cond rfl (fun c2 => ?_) (fun c2 => ?_)
    · try simp only [decide_eq_true_eq, decide_eq_false_iff_not, beq_iff_eq, bne_iff_ne, beq_eq_false_iff_ne, bne_eq_false_iff_eq, Bool.not_eq_true', Bool.not_eq_false', Bool.and_eq_true, Bool.or_eq_true, Bool.or_eq_false_iff, ne_eq, Decidable.not_not, Int.not_lt, Int.not_le] at c2
      refine zam ?_
      refine zaf ?_
      refine zat ?_
      refine zaf ?_
      refine zaj 1 (by simp only [holes, List.cons_append, List.nil_append]; exact rfl) ?_
      refine zad ?_
      refine zab rfl rfl rfl (zac (.inl rfl) (ev1 rfl)) ?_
      refine zab rfl rfl rfl (op_ixmr (k) (by decide) rfl sl26 (ev1 rfl) (ev1 rfl) (fun _ => rfl) (by omega) (fun _ => rfl)) ?_
      refine zab rfl rfl rfl (op_lddr rfl tb47 (ev1 rfl) rfl rfl) ?_
      refine zak rfl rfl rfl (zao 0 rfl zr47 rfl) (by simp only [upd, za, zaa]; exact rfl) ?_
      refine zab rfl rfl rfl (zac (.inr rfl) (ev1 rfl)) ?_
      refine walk_s rfl rfl (op_stam rfl tb47 (ev1 rfl) (ev1 rfl) rfl rfl rfl rfl) (by simp only [upd, za, zaa]; exact rfl) ?_
      refine zae ?_
      refine zaf ?_
      refine zaj 1 (by simp only [holes, List.cons_append, List.nil_append]; exact rfl) ?_
      refine zad ?_
      refine zab rfl rfl rfl (zac (.inl rfl) (ev1 rfl)) ?_
      refine zab rfl rfl rfl (zac (.inl rfl) (ev1 rfl)) ?_
      refine zab rfl rfl rfl (op_ixmr (k) (by decide) rfl sl26 (ev1 rfl) (ev1 rfl) (fun _ => rfl) (by omega) (fun _ => rfl)) ?_
      refine zab rfl rfl rfl (op_lddr rfl tb47 (ev1 rfl) rfl rfl) ?_
      refine zak rfl rfl rfl (zao 1 rfl zr47 rfl) (by simp only [upd, za, zaa]; exact rfl) ?_
      refine walk_s rfl rfl (op_stam rfl tb47 (ev1 rfl) (ev1 rfl) rfl rfl rfl rfl) (by simp only [upd, za, zaa]; exact rfl) ?_
      refine zae ?_
      refine zaf ?_
      refine zad ?_
      refine zab rfl rfl rfl (zac (.inl rfl) (ev1 rfl)) ?_
      refine zab rfl rfl rfl (op_ldmw rfl tb47 (ev1 rfl) rfl rfl) ?_
      refine zab rfl rfl rfl (op_ldmw rfl tb47 (ev1 rfl) rfl rfl) ?_
      refine zab rfl rfl rfl (zah [] [] [] rfl (ev1 rfl) (ec (ev1 rfl) (ec (ev1 rfl) en)) rfl rfl (osame_d l[k] r[k]) rfl rfl rfl rfl rfl rfl) ?_
      refine zab rfl rfl rfl (op_not rfl (ev1 rfl)) ?_
      refine zae ?_
      refine dwp_cond rfl (fun c2 => ?_) (fun c2 => ?_)
      · have c3 : sameO l[k] r[k] = false := by simpa using c2
        refine zaf ?_
        refine zad ?_
        refine zab rfl rfl rfl (zac (.inr rfl) (ev1 rfl)) ?_
        refine zae ?_
        refine zan ?_
        refine kend0 (rs1 rfl (rv_t rfl)) rfl ?_
        rw [he, all2_drop (by omega) (by omega), c3]
        rfl
      · have c3 : sameO l[k] r[k] = true := by simpa using c2
        refine zam ?_
        refine zad ?_
        refine zab rfl rfl rfl (op_add' rfl (ev1 rfl) (ev1 rfl) (fun _ => IntWalk.i64_in _ (by omega))) ?_
        refine zab rfl rfl rfl (zac (.inl rfl) (ev1 rfl)) ?_
        refine zae ?_
        refine ⟨k + 1, [], ⟨by omega, by rw [he, all2_drop (by omega) (by omega), c3, Bool.true_and]⟩, by simp only []; omega, rfl, ⟨rfl, rfl, rfl, rfl, rfl, trivial⟩, trivial⟩
    · try simp only [decide_eq_true_eq, decide_eq_false_iff_not, beq_iff_eq, bne_iff_ne, beq_eq_false_iff_ne, bne_eq_false_iff_eq, Bool.not_eq_true', Bool.not_eq_false', Bool.and_eq_true, Bool.or_eq_true, Bool.or_eq_false_iff, ne_eq, Decidable.not_not, Int.not_lt, Int.not_le] at c2
      refine dwp_exit ?_
      refine zaf ?_
      refine zad ?_
      refine zab rfl rfl rfl (zac (.inr rfl) (ev1 rfl)) ?_
      refine zae ?_
      refine zan ?_
      refine kend0 (rs1 rfl (rv_t rfl)) rfl ?_
      rw [he, List.drop_of_length_le (by omega), List.drop_of_length_le (by omega)]
      rfl
set_option maxRecDepth 4000 in
set_option maxHeartbeats 1000000 in
theorem cloneC (l : List C4) (h : l.length ≤ 2000000) : DFun Tryz.prog 67 [.slf 4 l.length (l.flatMap c4)] [] (.arr 0) [.arr 42 4 l.length (l.flatMap c4)] := by
  refine zal (N := 8) 0 (by kernel_rfl) Tryz.func67 rfl rfl rfl (by simp only [fr0, Nat.zero_add, Nat.reduceAdd]; exact rfl) rfl fun s0 hs0 => ?_
  refine dwp_len (t := 0) rfl fun hl0 hL0 => ?_
  refine zaf ?_
  refine zad ?_
  refine zab rfl rfl rfl (zac (.inr rfl) (ev1 rfl)) ?_
  refine zae ?_
  refine zaf ?_
  refine zaf ?_
  refine zad ?_
  refine zab rfl rfl rfl (zac (.inl rfl) (ev1 rfl)) ?_
  refine walk_nil? rfl rfl rfl rfl sl43 (ev1 rfl) fun nb4 hnb4 => ?_
  refine zae ?_
  refine dwp_cond rfl (fun c1 => ?_) (fun c1 => ?_)
  · try simp only [decide_eq_true_eq, decide_eq_false_iff_not, beq_iff_eq, bne_iff_ne, beq_eq_false_iff_ne, bne_eq_false_iff_eq, Bool.not_eq_true', Bool.not_eq_false', Bool.and_eq_true, Bool.or_eq_true, Bool.or_eq_false_iff, ne_eq, Decidable.not_not, Int.not_lt, Int.not_le] at c1
    refine zaf ?_
    refine zad ?_
    refine zab rfl rfl rfl (zac (.inr rfl) (ev1 rfl)) ?_
    refine zae ?_
    refine dwp_adopt 2 42 4 rfl rfl rfl ?_
    refine zan ?_
    refine kend [0] (rs1 rfl (rv_t rfl)) rfl rfl ?_ ⟨?_, trivial⟩
    rfl
    exact (by obtain ⟨h1, h2⟩ := hnb4 c1; simp_all [MFits, vwB])
  · try simp only [decide_eq_true_eq, decide_eq_false_iff_not, beq_iff_eq, bne_iff_ne, beq_eq_false_iff_ne, bne_eq_false_iff_eq, Bool.not_eq_true', Bool.not_eq_false', Bool.and_eq_true, Bool.or_eq_true, Bool.or_eq_false_iff, ne_eq, Decidable.not_not, Int.not_lt, Int.not_le] at c1
    refine zam ?_
    refine zaf ?_
    refine zaj 2 (by simp only [holes, List.cons_append, List.nil_append]; exact rfl) ?_
    refine zad ?_
    refine zak rfl rfl rfl (op_bsa (ps := []) 0 rfl sl43 zr42 rfl vn rfl (by decide) (by decide) rfl) (by simp only [upd, za, zaa]; exact rfl) ?_
    refine zab rfl rfl rfl (zac (.inl rfl) (ev1 rfl)) ?_
    refine zak rfl rfl rfl (op_app (j := 1) rfl sl43 zr42 rfl (ev1 rfl) (ev1 rfl) src_slf rfl rfl (fun _ => flat_oc (fun _ => rfl) l) (fun _ => ⟨by omega, by omega⟩)) (by simp only [upd, za, zaa]; exact rfl) ?_
    refine zab rfl rfl rfl (zac (.inr rfl) (ev1 rfl)) ?_
    refine zae ?_
    refine zan ?_
    refine kend [1] (rs1 rfl (rv_t rfl)) rfl rfl ?_ ⟨?_, trivial⟩
    rfl
    simp [vwB]
theorem cloneC_f (l : List C4) (h : l.length ≤ 2000000) : DFun Tryz.prog 67 [.slf 4 l.length (l.flatMap c4)] [] (.slf 4 l.length (l.flatMap c4)) [] := freeze (cloneC l h) rfl
set_option maxRecDepth 4000 in
set_option maxHeartbeats 1000000 in
theorem own_d (o : OpM) : DFun Tryz.prog 38 [.agg (opD o)] [] (.agg (opD (ownO o))) [] := by
  refine zal (N := 16) 0 (by kernel_rfl) Tryz.func38 rfl rfl rfl (by simp only [fr0, Nat.zero_add, Nat.reduceAdd]; exact rfl) rfl fun s0 hs0 => ?_
  refine zaf ?_
  refine zaj 2 (by simp only [holes, List.cons_append, List.nil_append]; exact rfl) ?_
  refine zad ?_
  refine zak rfl rfl rfl (op_boxam 0 rfl (ev1 rfl) rfl) (by simp only [upd, za, zaa]; exact rfl) ?_
  refine zak rfl rfl rfl (zao 1 rfl zr47 rfl) (by simp only [upd, za, zaa]; exact rfl) ?_
  refine zae ?_
  refine zaf ?_
  refine zad ?_
  refine zab rfl rfl rfl (zap rfl fo47_8 (ev1 rfl)) ?_
  refine zab rfl rfl rfl (zap rfl fo45_2 (ev1 rfl)) ?_
  refine zab rfl rfl rfl (zaq rfl tb43 (ev1 rfl) rfl rfl) ?_
  refine zab rfl rfl rfl (zap rfl fo47_8 (ev1 rfl)) ?_
  refine zab rfl rfl rfl (zap rfl fo45_2 (ev1 rfl)) ?_
  refine zab rfl rfl rfl (zaq rfl tb43 (ev1 rfl) rfl rfl) ?_
  refine zab rfl rfl rfl (op_len rfl sl43 (ev1 rfl)) ?_
  refine zab rfl rfl rfl (op_min rfl (ev1 rfl) (ev1 rfl)) ?_
  refine zab rfl rfl rfl (op_sltk (j := min o.px.length 66) rfl sl43 (ev1 rfl) (bd_some (ev1 rfl)) (fun _ => by omega) (fun _ => by omega) (fun _ => rfl)) ?_
  refine zab rfl rfl rfl (zah [] [] [] rfl (ev1 rfl) (ec (ev1 rfl) en) rfl rfl (cloneC_f _ (by rw [List.length_take]; omega)) rfl rfl rfl rfl rfl rfl) ?_
  refine zab rfl rfl rfl (zap rfl fo47_8 (ev1 rfl)) ?_
  refine zab rfl rfl rfl (zap rfl fo45_2 (ev1 rfl)) ?_
  refine walk_s rfl rfl (op_stm rfl tb43 (ev1 rfl) (ev1 rfl) (fun s v h => by cases h <;> exact ⟨rfl, rfl⟩) rfl (by first | decide | exact Nat.le_of_ble_eq_true rfl | simp)) (by simp only [upd, za, zaa]; exact rfl) ?_
  refine zae ?_
  refine zaf ?_
  refine zad ?_
  refine zab rfl rfl rfl (op_ldmw rfl tb47 (ev1 rfl) rfl rfl) ?_
  refine walk_s rfl rfl (op_stam rfl tb47 (ev1 rfl) (ev1 rfl) rfl rfl rfl rfl) (by simp only [upd, za, zaa]; exact rfl) ?_
  refine zae ?_
  refine zan ?_
  refine kend0 (rs1 rfl (rv_mw tb47 rfl rfl rfl)) rfl ?_
  rfl
set_option maxRecDepth 4000 in
set_option maxHeartbeats 1000000 in
theorem few_d (x : List OpM) : DFun Tryz.prog 14 [.slm 19 x.length (x.flatMap opD)] [] (.slm 19 (fewL x).length ((fewL x).flatMap opD)) [] := by
  refine zal (N := 23) 0 (by kernel_rfl) Tryz.func14 rfl rfl rfl (by simp only [fr0, Nat.zero_add, Nat.reduceAdd]; exact rfl) rfl fun s0 hs0 => ?_
  refine dwp_lenm (t := 0) rfl fun hl0 hL0 => ?_
  refine zaf ?_
  refine zad ?_
  refine zab rfl rfl rfl (zac (.inr rfl) (ev1 rfl)) ?_
  refine zae ?_
  refine zaf ?_
  refine zad ?_
  refine zab rfl rfl rfl (zac (.inr rfl) (ev1 rfl)) ?_
  refine zae ?_
  refine zaf ?_
  refine zaf ?_
  refine dwp_lenm (t := 0) rfl fun hl0 hL0 => ?_
  refine zad ?_
  refine zab rfl rfl rfl (zac (.inl rfl) (ev1 rfl)) ?_
  refine zab rfl rfl rfl (zac (.inl rfl) (ev1 rfl)) ?_
  refine zab rfl rfl rfl (op_lenm rfl sl26 (ev1 rfl)) ?_
  refine zab rfl rfl rfl (op_min rfl (ev1 rfl) (ev1 rfl)) ?_
  refine zab rfl rfl rfl (op_slmtk (j := min x.length 66) rfl sl26 (ev1 rfl) (bd_some (ev1 rfl)) (fun _ => by omega) (fun _ => by omega) (fun _ => rfl)) ?_
  refine zab rfl rfl rfl (op_lenm rfl sl26 (ev1 rfl)) ?_
  refine zab rfl rfl rfl (zac (.inl rfl) (ev1 rfl)) ?_
  refine zae ?_
  refine zat ?_
  refine dwp_adoptx 3 47 19 rfl rfl rfl ?_
  refine dwp_loopS ⟨hs0, rfl⟩ (α := Nat) (fun k => [(12, .val (.int .i64 (k : Int)))]) [(3, _), (10, _), (11, _)] (fun k => [(0, .arx 47 19 (((x.take (min x.length 66)).take k).map ownO).length ((((x.take (min x.length 66)).take k).map ownO).flatMap opD))]) [.hole] (fun k => k ≤ (x.take (min x.length 66)).length) (fun k => (x.take (min x.length 66)).length - k) 0 [0] (Nat.zero_le _) rfl ⟨rfl, rfl, rfl, trivial⟩ ⟨rfl, trivial⟩ ⟨rfl, trivial⟩ ?_
  intro k hx
  simp only [upd, za, zaa, List.cons_append, List.nil_append]
  have hk := hx
  have h66 : (x.take (min x.length 66)).length ≤ 66 := by rw [List.length_take]; omega
  refine zaf ?_
  refine zad ?_
  refine zab rfl rfl rfl (op_lss rfl (ev1 rfl) (ev1 rfl)) ?_
  refine zae ?_
  refine zaf ?_
  refine dwp_cond rfl (fun c1 => ?_) (fun c1 => ?_)
  · try simp only [decide_eq_true_eq, decide_eq_false_iff_not, beq_iff_eq, bne_iff_ne, beq_eq_false_iff_ne, bne_eq_false_iff_eq, Bool.not_eq_true', Bool.not_eq_false', Bool.and_eq_true, Bool.or_eq_true, Bool.or_eq_false_iff, ne_eq, Decidable.not_not, Int.not_lt, Int.not_le] at c1
    refine zam ?_
    refine zaf ?_
    refine zat ?_
    refine zaf ?_
    refine zaj 1 (by simp only [holes, List.cons_append, List.nil_append]; exact rfl) ?_
    refine zad ?_
    refine zab rfl rfl rfl (op_ixmr (k) (by decide) rfl sl26 (ev1 rfl) (ev1 rfl) (fun _ => rfl) (by omega) (fun _ => rfl)) ?_
    refine zab rfl rfl rfl (op_lddr rfl tb47 (ev1 rfl) rfl rfl) ?_
    refine zak rfl rfl rfl (zao 1 rfl zr47 rfl) (by simp only [upd, za, zaa]; exact rfl) ?_
    refine walk_s rfl rfl (op_stam rfl tb47 (ev1 rfl) (ev1 rfl) rfl rfl rfl rfl) (by simp only [upd, za, zaa]; exact rfl) ?_
    refine zae ?_
    refine zaj 1 (by simp only [holes, List.cons_append, List.nil_append]; exact rfl) ?_
    refine zad ?_
    refine zab rfl rfl rfl (zac (.inl rfl) (ev1 rfl)) ?_
    refine zab rfl rfl rfl (op_ldmw rfl tb47 (ev1 rfl) rfl rfl) ?_
    refine zab rfl rfl rfl (zah [] [] [] rfl (ev1 rfl) (ec (ev1 rfl) en) rfl rfl (own_d (x.take (min x.length 66))[k]) rfl rfl rfl rfl rfl rfl) ?_
    refine zab rfl rfl rfl (op_bsr (ps := [(0, .tmp 18)]) rfl sl26 zr47 rfl (ec (ev1 rfl) en) rfl rfl rfl (by rfl) rfl (by decide) (by decide)) ?_
    refine zak rfl rfl rfl (op_appr (j := 2) rfl sl26 zr47 rfl (ev1 rfl) (ev1 rfl) rfl rfl (rfl) (fun _ => ⟨by rw [List.length_map, List.length_take]; omega, by rw [List.length_map, List.length_take]; omega⟩)) (by simp only [upd, za, zaa]; exact rfl) ?_
    refine zab rfl rfl rfl (zac (.inr rfl) (ev1 rfl)) ?_
    refine zae ?_
    refine zad ?_
    refine zab rfl rfl rfl (op_add' rfl (ev1 rfl) (ev1 rfl) (fun _ => IntWalk.i64_in _ (by omega))) ?_
    refine zab rfl rfl rfl (zac (.inl rfl) (ev1 rfl)) ?_
    refine zae ?_
    refine ⟨k + 1, [2], by omega, by simp only []; omega, rfl, ⟨rfl, rfl, rfl, rfl, trivial⟩, ⟨arxr_fits (by rw [few_step (by omega), List.length_append]; rfl) (by rw [few_step (by omega), List.flatMap_append]; rfl) (ops_nl2 _), trivial⟩⟩
  · try simp only [decide_eq_true_eq, decide_eq_false_iff_not, beq_iff_eq, bne_iff_ne, beq_eq_false_iff_ne, bne_eq_false_iff_eq, Bool.not_eq_true', Bool.not_eq_false', Bool.and_eq_true, Bool.or_eq_true, Bool.or_eq_false_iff, ne_eq, Decidable.not_not, Int.not_lt, Int.not_le] at c1
    refine dwp_exit ?_
    refine zaf ?_
    refine dwp_give 3 (ops_nl2 _) rfl rfl (by simp only [za, zaa]; exact rfl) ?_
    obtain rfl : k = (x.take (min x.length 66)).length := by omega
    refine zad ?_
    refine zab rfl rfl rfl (zac (.inl rfl) (ev1 rfl)) ?_
    refine zab rfl rfl rfl (zac (.inr rfl) (ev1 rfl)) ?_
    refine zae ?_
    refine zan ?_
    refine kend0 (rs1 rfl (rv_t rfl)) rfl ?_
    rw [List.take_length]
    rfl
end Go.Proofs.YtmacjicebemgoaaGreat
namespace Go.Proofs.YtmacjicebemgoaaGreat
set_option linter.unusedVariables false
set_option linter.unusedSimpArgs false
open Go.RowKit
attribute [local irreducible] opL layW idB rowL fewL sameO tkOp tkRow
theorem kn62 : knd Tryz.prog 62 = some .u64 := by kernel_rfl
theorem ty62 : (tyB Tryz.prog 62).isSome = true := by kernel_rfl
theorem cut_rng (c : Int) (n : Nat) (h : 0 < n) : 0 ≤ IntKind.u64.wrap c ∧ ∃ k : Nat, IntKind.u64.wrap c % (n : Int) = (k : Int) ∧ k < n := by
  have h0 : 0 ≤ IntKind.u64.wrap c := by
    rw [IntKind.wrap_u64]
    omega
  have h1 := Int.emod_nonneg (IntKind.u64.wrap c) (show (n : Int) ≠ 0 by omega)
  have h2 := Int.emod_lt_of_pos (IntKind.u64.wrap c) (show (0 : Int) < n by omega)
  exact ⟨h0, (IntKind.u64.wrap c % (n : Int)).toNat, by omega, by omega⟩
def sumL (l : List OpM) : Nat := (l.map fun o => (opL o).length).sum
theorem sumL_step {l : List OpM} {j : Nat} (h : j < l.length) : sumL (l.take (j + 1)) = sumL (l.take j) + (opL l[j]).length := by
  unfold sumL
  rw [List.take_succ_eq_append_getElem h, List.map_append, List.sum_append]
  simp
theorem sumL_le {l : List OpM} (h : ∀ o ∈ l, okO o) : sumL l ≤ 278 * l.length := by
  unfold sumL
  induction l with
  | nil => simp
  | cons a l ih =>
    have h1 := opL_len (h a (List.mem_cons_self ..))
    have h2 := ih fun x hx => h x (List.mem_cons_of_mem _ hx)
    rw [List.map_cons, List.sum_cons, List.length_cons]
    omega
theorem sumL_row (l : List OpM) : (rowL l).length = 1 + sumL l := rowL_len l
theorem b50 {b : List Int} (h : isB b) : isB (b.take (min b.length 50)) ∧ (b.take (min b.length 50)).length ≤ 50 := ⟨fun x hx => h x (List.mem_of_mem_take hx), by rw [List.length_take]; omega⟩
set_option maxRecDepth 4000 in
set_option maxHeartbeats 1000000 in
theorem back_long (x : List OpM) (b : List Int) (c : Int) (h : 64 < (fewL x).length) : DFun Tryz.prog 4 [.slm 19 x.length (x.flatMap opD), .slf 1 (b).length ((b).flatMap uc8), .val (.int .i64 c)] [] (.val (.bool true)) [] := by
  refine zal (N := 147) 0 (by kernel_rfl) Tryz.func4 rfl rfl rfl (by simp only [fr0, Nat.zero_add, Nat.reduceAdd]; exact rfl) rfl fun s0 hs0 => ?_
  refine dwp_lenm (t := 0) rfl fun hl0 hL0 => ?_
  refine dwp_len (t := 1) rfl fun hl1 hL1 => ?_
  refine zaf ?_
  refine zad ?_
  refine zab rfl rfl rfl (zac (.inr rfl) (ev1 rfl)) ?_
  refine zae ?_
  refine zaf ?_
  refine zaf ?_
  refine zad ?_
  refine zab rfl rfl rfl (zah [] [] [] rfl (ev1 rfl) en rfl rfl (wakes_d) rfl rfl rfl rfl rfl rfl) ?_
  refine zab rfl rfl rfl ((op_not rfl (ev1 rfl)).cast (d' := .val (.bool false)) (by kernel_rfl)) ?_
  refine zae ?_
  refine dwp_if_f rfl (rfl) ?_
  refine zam ?_
  refine zaf ?_
  refine zad ?_
  refine zab rfl rfl rfl (zac (.inl rfl) (ev1 rfl)) ?_
  refine zab rfl rfl rfl (zah [] [] [] rfl (ev1 rfl) (ec (ev1 rfl) en) rfl rfl (few_d x) rfl rfl rfl rfl rfl rfl) ?_
  refine zab rfl rfl rfl (zac (.inr rfl) (ev1 rfl)) ?_
  refine zae ?_
  refine zaf ?_
  refine zad ?_
  refine zab rfl rfl rfl (zac (.inl rfl) (ev1 rfl)) ?_
  refine zab rfl rfl rfl (zah [] [] [] rfl (ev1 rfl) (ec (ev1 rfl) en) rfl rfl (cops_long (fewL x) h) rfl rfl rfl rfl rfl rfl) ?_
  refine zab rfl rfl rfl (zac (.inl rfl) (ev1 rfl)) ?_
  refine zab rfl rfl rfl (zar rfl (ev1 rfl) rfl) ?_
  refine zab rfl rfl rfl (zar rfl (ev1 rfl) rfl) ?_
  refine zab rfl rfl rfl (zac (.inr rfl) (ev1 rfl)) ?_
  refine zab rfl rfl rfl (zac (.inr rfl) (ev1 rfl)) ?_
  refine zae ?_
  refine zaf ?_
  refine zaf ?_
  refine zad ?_
  refine zab rfl rfl rfl (zac (.inl rfl) (ev1 rfl)) ?_
  refine zab rfl rfl rfl ((op_neq rfl (ev1 rfl) (ev1 rfl)).cast (d' := .val (.bool true)) (by kernel_rfl)) ?_
  refine zae ?_
  refine dwp_if_t rfl (rfl) ?_
  refine zaf ?_
  refine zad ?_
  refine zab rfl rfl rfl (zac (.inl rfl) (ev1 rfl)) ?_
  refine zab rfl rfl rfl (op_len rfl sl30 (evwk (ev1 rfl) (Wk.slf0 1))) ?_
  refine zab rfl rfl rfl ((op_eql rfl (ev1 rfl) (ev1 rfl)).cast (d' := .val (.bool true)) (by kernel_rfl)) ?_
  refine zab rfl rfl rfl (zac (.inr rfl) (ev1 rfl)) ?_
  refine zae ?_
  refine zan ?_
  refine kend0 (rs1 rfl (rv_t rfl)) rfl ?_
  rfl
set_option maxRecDepth 4000 in
set_option maxHeartbeats 1000000 in
theorem back_bad (x : List OpM) (b : List Int) (c : Int) (i : Nat) (hi : i < (fewL x).length) (ho : ∀ j (h : j < (fewL x).length), j < i → okO (fewL x)[j]) (hbad : opB (fewL x)[i] = false) (hn : (fewL x).length ≤ 64) : DFun Tryz.prog 4 [.slm 19 x.length (x.flatMap opD), .slf 1 (b).length ((b).flatMap uc8), .val (.int .i64 c)] [] (.val (.bool true)) [] := by
  refine zal (N := 147) 0 (by kernel_rfl) Tryz.func4 rfl rfl rfl (by simp only [fr0, Nat.zero_add, Nat.reduceAdd]; exact rfl) rfl fun s0 hs0 => ?_
  refine dwp_lenm (t := 0) rfl fun hl0 hL0 => ?_
  refine dwp_len (t := 1) rfl fun hl1 hL1 => ?_
  refine zaf ?_
  refine zad ?_
  refine zab rfl rfl rfl (zac (.inr rfl) (ev1 rfl)) ?_
  refine zae ?_
  refine zaf ?_
  refine zaf ?_
  refine zad ?_
  refine zab rfl rfl rfl (zah [] [] [] rfl (ev1 rfl) en rfl rfl (wakes_d) rfl rfl rfl rfl rfl rfl) ?_
  refine zab rfl rfl rfl ((op_not rfl (ev1 rfl)).cast (d' := .val (.bool false)) (by kernel_rfl)) ?_
  refine zae ?_
  refine dwp_if_f rfl (rfl) ?_
  refine zam ?_
  refine zaf ?_
  refine zad ?_
  refine zab rfl rfl rfl (zac (.inl rfl) (ev1 rfl)) ?_
  refine zab rfl rfl rfl (zah [] [] [] rfl (ev1 rfl) (ec (ev1 rfl) en) rfl rfl (few_d x) rfl rfl rfl rfl rfl rfl) ?_
  refine zab rfl rfl rfl (zac (.inr rfl) (ev1 rfl)) ?_
  refine zae ?_
  refine zaf ?_
  refine zad ?_
  refine zab rfl rfl rfl (zac (.inl rfl) (ev1 rfl)) ?_
  refine zab rfl rfl rfl (zah [] [] [] rfl (ev1 rfl) (ec (ev1 rfl) en) rfl rfl (cops_no (fewL x) i hi ho hbad hn) rfl rfl rfl rfl rfl rfl) ?_
  refine zab rfl rfl rfl (zac (.inl rfl) (ev1 rfl)) ?_
  refine zab rfl rfl rfl (zar rfl (ev1 rfl) rfl) ?_
  refine zab rfl rfl rfl (zar rfl (ev1 rfl) rfl) ?_
  refine zab rfl rfl rfl (zac (.inr rfl) (ev1 rfl)) ?_
  refine zab rfl rfl rfl (zac (.inr rfl) (ev1 rfl)) ?_
  refine zae ?_
  refine zaf ?_
  refine zaf ?_
  refine zad ?_
  refine zab rfl rfl rfl (zac (.inl rfl) (ev1 rfl)) ?_
  refine zab rfl rfl rfl ((op_neq rfl (ev1 rfl) (ev1 rfl)).cast (d' := .val (.bool true)) (by kernel_rfl)) ?_
  refine zae ?_
  refine dwp_if_t rfl (rfl) ?_
  refine zaf ?_
  refine zad ?_
  refine zab rfl rfl rfl (zac (.inl rfl) (ev1 rfl)) ?_
  refine zab rfl rfl rfl (op_len rfl sl30 (evwk (ev1 rfl) (Wk.slf0 1))) ?_
  refine zab rfl rfl rfl ((op_eql rfl (ev1 rfl) (ev1 rfl)).cast (d' := .val (.bool true)) (by kernel_rfl)) ?_
  refine zab rfl rfl rfl (zac (.inr rfl) (ev1 rfl)) ?_
  refine zae ?_
  refine zan ?_
  refine kend0 (rs1 rfl (rv_t rfl)) rfl ?_
  rfl
set_option maxRecDepth 4000 in
set_option maxHeartbeats 1000000 in
theorem back_ok (x : List OpM) (b : List Int) (c : Int) (hb : isB b) (hn : (fewL x).length ≤ 64) (ho : ∀ o ∈ fewL x, okO o) : DFun Tryz.prog 4 [.slm 19 x.length (x.flatMap opD), .slf 1 (b).length ((b).flatMap uc8), .val (.int .i64 c)] [] (.val (.bool true)) [] := by
  refine zal (N := 147) 0 (by kernel_rfl) Tryz.func4 rfl rfl rfl (by simp only [fr0, Nat.zero_add, Nat.reduceAdd]; exact rfl) rfl fun s0 hs0 => ?_
  refine dwp_lenm (t := 0) rfl fun hl0 hL0 => ?_
  refine dwp_len (t := 1) rfl fun hl1 hL1 => ?_
  refine zaf ?_
  refine zad ?_
  refine zab rfl rfl rfl (zac (.inr rfl) (ev1 rfl)) ?_
  refine zae ?_
  refine zaf ?_
  refine zaf ?_
  refine zad ?_
  refine zab rfl rfl rfl (zah [] [] [] rfl (ev1 rfl) en rfl rfl (wakes_d) rfl rfl rfl rfl rfl rfl) ?_
  refine zab rfl rfl rfl ((op_not rfl (ev1 rfl)).cast (d' := .val (.bool false)) (by kernel_rfl)) ?_
  refine zae ?_
  refine dwp_if_f rfl (rfl) ?_
  refine zam ?_
  refine zaf ?_
  refine zad ?_
  refine zab rfl rfl rfl (zac (.inl rfl) (ev1 rfl)) ?_
  refine zab rfl rfl rfl (zah [] [] [] rfl (ev1 rfl) (ec (ev1 rfl) en) rfl rfl (few_d x) rfl rfl rfl rfl rfl rfl) ?_
  refine zab rfl rfl rfl (zac (.inr rfl) (ev1 rfl)) ?_
  refine zae ?_
  refine zaf ?_
  refine zad ?_
  refine zab rfl rfl rfl (zac (.inl rfl) (ev1 rfl)) ?_
  refine zab rfl rfl rfl (zah [] [] [] rfl (ev1 rfl) (ec (ev1 rfl) en) rfl rfl (cops_ok (fewL x) hn ho) rfl rfl rfl rfl rfl rfl) ?_
  refine zab rfl rfl rfl (zac (.inl rfl) (ev1 rfl)) ?_
  refine zab rfl rfl rfl (zar rfl (ev1 rfl) rfl) ?_
  refine zab rfl rfl rfl (zar rfl (ev1 rfl) rfl) ?_
  refine zab rfl rfl rfl (zac (.inr rfl) (ev1 rfl)) ?_
  refine zab rfl rfl rfl (zac (.inr rfl) (ev1 rfl)) ?_
  refine zae ?_
  refine zaf ?_
  refine zaf ?_
  refine zad ?_
  refine zab rfl rfl rfl (zac (.inl rfl) (ev1 rfl)) ?_
  refine zab rfl rfl rfl ((op_neq rfl (ev1 rfl) (ev1 rfl)).cast (d' := .val (.bool false)) (by kernel_rfl)) ?_
  refine zae ?_
  refine dwp_if_f rfl (rfl) ?_
  refine zam ?_
  refine zaf ?_
  obtain ⟨hb5, hb5l⟩ := b50 hb
  have hsl := sumL_le ho
  have hrl := sumL_row (fewL x)
  have hLok : okL (rowL (fewL x) ++ b.take (min b.length 50)) := ⟨isB_app.2 ⟨isB_rowL _, hb5⟩, by rw [List.length_append]; omega⟩
  have htk : tRow (rowL (fewL x) ++ b.take (min b.length 50)) = .ok (fewL x) (b.take (min b.length 50)) := (cdRow 110 290).fwd (fewL x) (b.take (min b.length 50)) ⟨hn, ho⟩
  refine zaj 2 (by simp only [holes, List.cons_append, List.nil_append]; exact rfl) ?_
  refine dwp_draw [([], []), ([0], [0]), ([], []), ([], []), ([], []), ([], []), ([], []), ([0, 1], [0, 1]), ([], []), ([], []), ([], []), ([], []), ([], []), ([], []), ([], []), ([], [])] mixed (by kernel_rfl) ?_
  refine lex_r rfl rfl (zac (.inl rfl) (ev1 rfl)) ?_
  refine lex_w rfl rfl (zah [] [] [0] rfl (ev1 rfl) (ec (ev1 rfl) en) rfl rfl (cloneB (rowL (fewL x)) (by omega)) rfl rfl rfl rfl rfl rfl) rfl (by simp only [upd, za, zaa]; exact rfl) ?_
  refine lex_r rfl rfl (zac (.inl rfl) (ev1 rfl)) ?_
  refine lex_r rfl rfl (zac (.inl rfl) (ev1 rfl)) ?_
  refine lex_r rfl rfl (op_len rfl sl30 (ev1 rfl)) ?_
  refine lex_r rfl rfl (op_min rfl (ev1 rfl) (ev1 rfl)) ?_
  refine lex_r rfl rfl (op_sltk (j := min b.length 50) rfl sl30 (ev1 rfl) (bd_some (ev1 rfl)) (fun _ => by omega) (fun _ => by omega) (fun _ => rfl)) ?_
  refine lex_w rfl rfl (((op_app (j := 1) rfl sl30 zr5 rfl (ev1 rfl) (ev1 rfl) src_slf rfl rfl (fun _ => flat_oc (fun _ => rfl) _) (fun _ => ⟨by omega, by omega⟩)).giveA2 rfl rfl).cast (d' := .slf 1 (rowL (fewL x) ++ b.take (min b.length 50)).length ((rowL (fewL x) ++ b.take (min b.length 50)).flatMap uc8)) (by rw [List.length_append, List.flatMap_append])) rfl (by simp only [upd, za, zaa]; exact rfl) ?_
  refine lex_r rfl rfl (zah [] [] [] rfl (ev1 rfl) (ec (ev1 rfl) en) rfl rfl (takeOps_ok (rowL (fewL x) ++ b.take (min b.length 50)) hLok (by rw [List.length_append]; omega) (fewL x) (b.take (min b.length 50)) htk (by rw [List.length_append]; omega)) rfl rfl rfl rfl rfl rfl) ?_
  refine lex_r rfl rfl (zac (.inl rfl) (ev1 rfl)) ?_
  refine lex_r rfl rfl (zar rfl (ev1 rfl) rfl) ?_
  refine lex_r rfl rfl (zar rfl (ev1 rfl) rfl) ?_
  refine lex_r rfl rfl (zar rfl (ev1 rfl) rfl) ?_
  refine lex_r rfl rfl (zac (.inr rfl) (ev1 rfl)) ?_
  refine lex_r rfl rfl (zac (.inr rfl) (ev1 rfl)) ?_
  refine lex_r rfl rfl (zac (.inr rfl) (ev1 rfl)) ?_
  refine lex_nil ?_
  refine zaf ?_
  refine zaf ?_
  refine zad ?_
  refine zab rfl rfl rfl (zac (.inl rfl) (ev1 rfl)) ?_
  refine zab rfl rfl rfl ((op_neq rfl (ev1 rfl) (ev1 rfl)).cast (d' := .val (.bool false)) (by kernel_rfl)) ?_
  refine zab rfl rfl rfl (zac (.inl rfl) (ev1 rfl)) ?_
  refine zai (gd_f (b := false) rfl rfl rfl) rfl rfl rfl (zac (.inl rfl) (ev1 rfl)) (by simp only [upd, za, zaa]; exact rfl) ?_
  refine zai (gd_f (b := false) rfl rfl rfl) rfl rfl rfl (zac (.inl rfl) (ev1 rfl)) (by simp only [upd, za, zaa]; exact rfl) ?_
  refine zai (gd_f (b := false) rfl rfl rfl) rfl rfl rfl (op_len rfl sl30 (ev2 rfl)) (by simp only [upd, za, zaa]; exact rfl) ?_
  refine zai (gd_f (b := false) rfl rfl rfl) rfl rfl rfl ((op_neq rfl (ev2 rfl) (ev2 rfl)).cast (d' := .val (.bool false)) (by rw [show (((rowL (fewL x) ++ b.take (min b.length 50)).length : Int) - ((b.take (min b.length 50)).length : Int)) = ((rowL (fewL x)).length : Int) by rw [List.length_append]; omega]; simp)) (by simp only [upd, za, zaa]; exact rfl) ?_
  refine zab rfl rfl rfl ((op_or rfl (ev1 rfl) (ev3 rfl (fun _ => rfl))).cast (d' := .val (.bool false)) (by rfl)) ?_
  refine zab rfl rfl rfl (zac (.inl rfl) (ev1 rfl)) ?_
  refine zai (gd_f (b := false) rfl rfl rfl) rfl rfl rfl (zac (.inl rfl) (ev1 rfl)) (by simp only [upd, za, zaa]; exact rfl) ?_
  refine zai (gd_f (b := false) rfl rfl rfl) rfl rfl rfl (zac (.inl rfl) (ev1 rfl)) (by simp only [upd, za, zaa]; exact rfl) ?_
  refine zai (gd_f (b := false) rfl rfl rfl) rfl rfl rfl ((zah [] [] [] rfl (ev1 rfl) (ec (ev2 rfl) (ec (ev2 rfl) (ec (ev1 rfl) en))) rfl rfl (equalO (fewL x) (fewL x)) rfl rfl rfl rfl rfl rfl).cast (d' := .val (.bool true)) (by rw [all2_refl sameO_refl])) (by simp only [upd, za, zaa]; exact rfl) ?_
  refine zai (gd_f (b := false) rfl rfl rfl) rfl rfl rfl ((op_not rfl (ev2 rfl)).cast (d' := .val (.bool false)) (by kernel_rfl)) (by simp only [upd, za, zaa]; exact rfl) ?_
  refine zab rfl rfl rfl ((op_or rfl (ev1 rfl) (ev3 rfl (fun _ => rfl))).cast (d' := .val (.bool false)) (by rfl)) ?_
  refine zae ?_
  refine dwp_if_f rfl (rfl) ?_
  refine zam ?_
  refine zaf ?_
  refine zad ?_
  refine zab rfl rfl rfl (zac (.inr rfl) (ev1 rfl)) ?_
  refine zae ?_
  refine zaf ?_
  refine zaf ?_
  refine zad ?_
  refine zab rfl rfl rfl (zac (.inl rfl) (ev1 rfl)) ?_
  refine zab rfl rfl rfl (op_lenm rfl sl26 (ev1 rfl)) ?_
  refine zab rfl rfl rfl (zac (.inl rfl) (ev1 rfl)) ?_
  refine zae ?_
  refine zat ?_
  refine dwp_loopS ⟨hs0, rfl⟩ (α := Nat) (fun j => [(12, .val (.int .i64 ((1 + sumL ((fewL x).take j) : Nat) : Int))), (66, .val (.int .i64 (j : Int)))]) [(1, _), (2, _), (8, _), (64, _), (65, _)] (fun j => []) [_, _] (fun j => j ≤ (fewL x).length) (fun j => (fewL x).length - j) 0 [0, 1] (Nat.zero_le _) rfl ⟨rfl, rfl, rfl, rfl, rfl, trivial⟩ ⟨rfl, rfl, trivial⟩ ⟨rfl, rfl, trivial⟩ ?_
  intro j hx
  simp only [upd, za, zaa, List.cons_append, List.nil_append]
  have hj := hx
  have hs5 : sumL ((fewL x).take j) ≤ 278 * ((fewL x).take j).length := sumL_le fun o h => ho o (List.mem_of_mem_take h)
  rw [List.length_take] at hs5
  refine zaf ?_
  refine zad ?_
  refine zab rfl rfl rfl (op_lss rfl (ev1 rfl) (ev1 rfl)) ?_
  refine zae ?_
  refine zaf ?_
  refine dwp_cond rfl (fun c4 => ?_) (fun c4 => ?_)
  · try simp only [decide_eq_true_eq, decide_eq_false_iff_not, beq_iff_eq, bne_iff_ne, beq_eq_false_iff_ne, bne_eq_false_iff_eq, Bool.not_eq_true', Bool.not_eq_false', Bool.and_eq_true, Bool.or_eq_true, Bool.or_eq_false_iff, ne_eq, Decidable.not_not, Int.not_lt, Int.not_le] at c4
    refine zam ?_
    refine zaf ?_
    refine zat ?_
    refine zaf ?_
    refine zaj 1 (by simp only [holes, List.cons_append, List.nil_append]; exact rfl) ?_
    refine zad ?_
    refine zab rfl rfl rfl (op_ixmr (j) (by decide) rfl sl26 (ev1 rfl) (ev1 rfl) (fun _ => rfl) (by omega) (fun _ => rfl)) ?_
    refine zab rfl rfl rfl (op_lddr rfl tb47 (ev1 rfl) rfl rfl) ?_
    refine zak rfl rfl rfl (zao 2 rfl zr47 rfl) (by simp only [upd, za, zaa]; exact rfl) ?_
    refine walk_s rfl rfl (op_stam rfl tb47 (ev1 rfl) (ev1 rfl) rfl rfl rfl rfl) (by simp only [upd, za, zaa]; exact rfl) ?_
    refine zae ?_
    refine zaf ?_
    refine zad ?_
    refine zab rfl rfl rfl (op_ldmw rfl tb47 (ev1 rfl) rfl rfl) ?_
    refine zab rfl rfl rfl (zah [] [] [] rfl (ev1 rfl) (ec (ev1 rfl) en) rfl rfl (cop_ok (fewL x)[j] (ho _ (List.getElem_mem _))) rfl rfl rfl rfl rfl rfl) ?_
    refine zab rfl rfl rfl (zac (.inl rfl) (ev1 rfl)) ?_
    refine zab rfl rfl rfl (zar rfl (ev1 rfl) rfl) ?_
    refine zab rfl rfl rfl (zar rfl (ev1 rfl) rfl) ?_
    refine zab rfl rfl rfl (zac (.inr rfl) (ev1 rfl)) ?_
    refine zab rfl rfl rfl (zac (.inr rfl) (ev1 rfl)) ?_
    refine zae ?_
    refine zaf ?_
    have hoj := ho (fewL x)[j] (List.getElem_mem _)
    have hol := opL_len hoj
    have hOk : okL (opL (fewL x)[j] ++ b.take (min b.length 50)) := ⟨isB_app.2 ⟨isB_opL _, hb5⟩, by rw [List.length_append]; omega⟩
    have hto : tOp (opL (fewL x)[j] ++ b.take (min b.length 50)) = .ok (fewL x)[j] (b.take (min b.length 50)) := (cdOp 110 290).fwd _ _ hoj
    have hnl : (((opL (fewL x)[j] ++ b.take (min b.length 50)).length : Int) - ((b.take (min b.length 50)).length : Int)) = ((opL (fewL x)[j]).length : Int) := by rw [List.length_append]; omega
    refine zaj 3 (by simp only [holes, List.cons_append, List.nil_append]; exact rfl) ?_
    refine dwp_draw [([], []), ([3], [3]), ([], []), ([], []), ([], []), ([], []), ([], []), ([3, 4], [3, 4]), ([], []), ([], []), ([], []), ([], []), ([], []), ([5], [5]), ([5], [5]), ([], []), ([], [])] mixed (by kernel_rfl) ?_
    refine lex_r rfl rfl (zac (.inl rfl) (ev1 rfl)) ?_
    refine lex_w rfl rfl (zah [] [] [3] rfl (ev1 rfl) (ec (ev1 rfl) en) rfl rfl (cloneB (opL (fewL x)[j]) (by omega)) rfl rfl rfl rfl rfl rfl) rfl (by simp only [upd, za, zaa]; exact rfl) ?_
    refine lex_r rfl rfl (zac (.inl rfl) (ev1 rfl)) ?_
    refine lex_r rfl rfl (zac (.inl rfl) (ev1 rfl)) ?_
    refine lex_r rfl rfl (op_len rfl sl30 (ev1 rfl)) ?_
    refine lex_r rfl rfl (op_min rfl (ev1 rfl) (ev1 rfl)) ?_
    refine lex_r rfl rfl (op_sltk (j := min b.length 50) rfl sl30 (ev1 rfl) (bd_some (ev1 rfl)) (fun _ => by omega) (fun _ => by omega) (fun _ => rfl)) ?_
    refine lex_w rfl rfl (((op_app (j := 4) rfl sl30 zr5 rfl (ev1 rfl) (ev1 rfl) src_slf rfl rfl (fun _ => flat_oc (fun _ => rfl) _) (fun _ => ⟨by omega, by omega⟩)).giveA2 rfl rfl).cast (d' := .slf 1 (opL (fewL x)[j] ++ b.take (min b.length 50)).length ((opL (fewL x)[j] ++ b.take (min b.length 50)).flatMap uc8)) (by rw [List.length_append, List.flatMap_append])) rfl (by simp only [upd, za, zaa]; exact rfl) ?_
    refine lex_r rfl rfl (zah [] [] [] rfl (ev1 rfl) (ec (ev1 rfl) en) rfl rfl (takeOp_ok (opL (fewL x)[j] ++ b.take (min b.length 50)) hOk (by rw [List.length_append]; omega) (fewL x)[j] (b.take (min b.length 50)) hto (by rw [List.length_append]; omega)) rfl rfl rfl rfl rfl rfl) ?_
    refine lex_r rfl rfl (zac (.inl rfl) (ev1 rfl)) ?_
    refine lex_r rfl rfl (zar rfl (ev1 rfl) rfl) ?_
    refine lex_r rfl rfl (zar rfl (ev1 rfl) rfl) ?_
    refine lex_r rfl rfl (zar rfl (ev1 rfl) rfl) ?_
    refine lex_w rfl rfl (zao 5 rfl zr47 rfl) rfl (by simp only [upd, za, zaa]; exact rfl) ?_
    refine lex_s rfl rfl (op_stam rfl tb47 (ev1 rfl) (ev1 rfl) rfl rfl rfl rfl) rfl (by simp only [upd, za, zaa]; exact rfl) ?_
    refine lex_r rfl rfl (zac (.inr rfl) (ev1 rfl)) ?_
    refine lex_r rfl rfl (zac (.inr rfl) (ev1 rfl)) ?_
    refine lex_nil ?_
    refine zaf ?_
    refine zaf ?_
    refine zad ?_
    refine zab rfl rfl rfl (zac (.inl rfl) (ev1 rfl)) ?_
    refine zab rfl rfl rfl ((op_neq rfl (ev1 rfl) (ev1 rfl)).cast (d' := .val (.bool false)) (by kernel_rfl)) ?_
    refine zab rfl rfl rfl (zac (.inl rfl) (ev1 rfl)) ?_
    refine zai (gd_f (b := false) rfl rfl rfl) rfl rfl rfl (zac (.inl rfl) (ev1 rfl)) (by simp only [upd, za, zaa]; exact rfl) ?_
    refine zai (gd_f (b := false) rfl rfl rfl) rfl rfl rfl ((op_neq rfl (ev2 rfl) (ev1 rfl)).cast (d' := .val (.bool false)) (by kernel_rfl)) (by simp only [upd, za, zaa]; exact rfl) ?_
    refine zab rfl rfl rfl ((op_or rfl (ev1 rfl) (ev3 rfl (fun _ => rfl))).cast (d' := .val (.bool false)) (by rfl)) ?_
    refine zab rfl rfl rfl (zac (.inl rfl) (ev1 rfl)) ?_
    refine zai (gd_f (b := false) rfl rfl rfl) rfl rfl rfl (zac (.inl rfl) (ev1 rfl)) (by simp only [upd, za, zaa]; exact rfl) ?_
    refine zai (gd_f (b := false) rfl rfl rfl) rfl rfl rfl (zac (.inl rfl) (ev1 rfl)) (by simp only [upd, za, zaa]; exact rfl) ?_
    refine zai (gd_f (b := false) rfl rfl rfl) rfl rfl rfl (op_len rfl sl30 (ev2 rfl)) (by simp only [upd, za, zaa]; exact rfl) ?_
    refine zai (gd_f (b := false) rfl rfl rfl) rfl rfl rfl ((op_neq rfl (ev2 rfl) (ev2 rfl)).cast (d' := .val (.bool false)) (by rw [hnl]; simp)) (by simp only [upd, za, zaa]; exact rfl) ?_
    refine zab rfl rfl rfl ((op_or rfl (ev1 rfl) (ev3 rfl (fun _ => rfl))).cast (d' := .val (.bool false)) (by rfl)) ?_
    refine zab rfl rfl rfl (zac (.inl rfl) (ev1 rfl)) ?_
    refine zai (gd_f (b := false) rfl rfl rfl) rfl rfl rfl (op_ldmw rfl tb47 (ev1 rfl) rfl rfl) (by simp only [upd, za, zaa]; exact rfl) ?_
    refine zai (gd_f (b := false) rfl rfl rfl) rfl rfl rfl (zah [] [] [] rfl (ev1 rfl) (ec (ev2 rfl) en) rfl rfl (csize_ok (fewL x)[j] hoj) rfl rfl rfl rfl rfl rfl) (by simp only [upd, za, zaa]; exact rfl) ?_
    refine zai (gd_f (b := false) rfl rfl rfl) rfl rfl rfl (zac (.inl rfl) (ev1 rfl)) (by simp only [upd, za, zaa]; exact rfl) ?_
    refine zai (gd_f (b := false) rfl rfl rfl) rfl rfl rfl ((op_neq rfl (ev2 rfl) (ev2 rfl)).cast (d' := .val (.bool false)) (by rw [hnl]; simp)) (by simp only [upd, za, zaa]; exact rfl) ?_
    refine zab rfl rfl rfl ((op_or rfl (ev1 rfl) (ev3 rfl (fun _ => rfl))).cast (d' := .val (.bool false)) (by rfl)) ?_
    refine zab rfl rfl rfl (zac (.inl rfl) (ev1 rfl)) ?_
    refine zai (gd_f (b := false) rfl rfl rfl) rfl rfl rfl (op_ldmw rfl tb47 (ev1 rfl) rfl rfl) (by simp only [upd, za, zaa]; exact rfl) ?_
    refine zai (gd_f (b := false) rfl rfl rfl) rfl rfl rfl (op_ldmw rfl tb47 (ev1 rfl) rfl rfl) (by simp only [upd, za, zaa]; exact rfl) ?_
    refine zai (gd_f (b := false) rfl rfl rfl) rfl rfl rfl ((zah [] [] [] rfl (ev1 rfl) (ec (ev2 rfl) (ec (ev2 rfl) en)) rfl rfl (osame_d (fewL x)[j] (fewL x)[j]) rfl rfl rfl rfl rfl rfl).cast (d' := .val (.bool true)) (by rw [sameO_refl])) (by simp only [upd, za, zaa]; exact rfl) ?_
    refine zai (gd_f (b := false) rfl rfl rfl) rfl rfl rfl ((op_not rfl (ev2 rfl)).cast (d' := .val (.bool false)) (by kernel_rfl)) (by simp only [upd, za, zaa]; exact rfl) ?_
    refine zab rfl rfl rfl ((op_or rfl (ev1 rfl) (ev3 rfl (fun _ => rfl))).cast (d' := .val (.bool false)) (by rfl)) ?_
    refine zae ?_
    refine dwp_if_f rfl (rfl) ?_
    refine zam ?_
    refine zad ?_
    refine zab rfl rfl rfl (zac (.inl rfl) (ev1 rfl)) ?_
    refine zab rfl rfl rfl (zac (.inl rfl) (ev1 rfl)) ?_
    refine zab rfl rfl rfl (op_add' rfl (ev1 rfl) (ev1 rfl) (fun _ => IntWalk.i64_in _ (by rw [hnl]; omega))) ?_
    refine zab rfl rfl rfl (zac (.inr rfl) (ev1 rfl)) ?_
    refine zae ?_
    refine zad ?_
    refine zab rfl rfl rfl (op_add' rfl (ev1 rfl) (ev1 rfl) (fun _ => IntWalk.i64_in _ (by omega))) ?_
    refine zab rfl rfl rfl (zac (.inl rfl) (ev1 rfl)) ?_
    refine zae ?_
    refine ⟨j + 1, [0, 1], by omega, by simp only []; omega, rfl, ⟨congrArg (fun z => some (D.val (Value.int .i64 z))) (by rw [sumL_step (by omega), hnl]; omega), rfl, rfl, rfl, rfl, rfl, rfl, trivial⟩, ⟨rfl, rfl, trivial⟩⟩
  · try simp only [decide_eq_true_eq, decide_eq_false_iff_not, beq_iff_eq, bne_iff_ne, beq_eq_false_iff_ne, bne_eq_false_iff_eq, Bool.not_eq_true', Bool.not_eq_false', Bool.and_eq_true, Bool.or_eq_true, Bool.or_eq_false_iff, ne_eq, Decidable.not_not, Int.not_lt, Int.not_le] at c4
    refine dwp_exit ?_
    refine zaf ?_
    obtain ⟨hcw, kc, hkc, hkl⟩ := cut_rng c (rowL (fewL x)).length (by omega)
    have hjl : j = (fewL x).length := by omega
    have hts : tRow ((rowL (fewL x)).take kc) = .err 110 := (cdRow 110 290).sh (fewL x) kc ⟨hn, ho⟩ hkl
    have hLk : okL ((rowL (fewL x)).take kc) := ⟨fun y hy => isB_rowL _ y (List.mem_of_mem_take hy), by rw [List.length_take]; omega⟩
    refine zad ?_
    refine zab rfl rfl rfl (zac (.inl rfl) (ev1 rfl)) ?_
    refine zab rfl rfl rfl (zac (.inl rfl) (ev1 rfl)) ?_
    refine zab rfl rfl rfl (op_conv ty3 kn62 rfl (ev1 rfl)) ?_
    refine zab rfl rfl rfl (zac (.inl rfl) (ev1 rfl)) ?_
    refine zab rfl rfl rfl (op_len rfl sl30 (ev1 rfl)) ?_
    refine zab rfl rfl rfl (op_conv' ty3 kn62 rfl (ev1 rfl) (fun _ => IntWalk.u64_in _ (by omega))) ?_
    refine zab rfl rfl rfl ((op_rem' rfl (ev1 rfl) (ev1 rfl) (fun _ => ⟨by omega, hcw⟩)).cast (d' := .val (.int .u64 (kc : Int))) (by rw [hkc])) ?_
    refine zab rfl rfl rfl (op_conv' ty62 kn3 rfl (ev1 rfl) (fun _ => IntWalk.i64_in _ (by omega))) ?_
    refine zab rfl rfl rfl (op_sltk (j := kc) rfl sl30 (ev1 rfl) (bd_some (ev1 rfl)) (fun _ => rfl) (fun _ => by omega) (fun _ => rfl)) ?_
    refine zab rfl rfl rfl (zah [] [] [] rfl (ev1 rfl) (ec (ev1 rfl) en) rfl rfl (takeOps_no ((rowL (fewL x)).take kc) hLk (by rw [List.length_take]; omega) 110 hts) rfl rfl rfl rfl rfl rfl) ?_
    refine zab rfl rfl rfl (zac (.inl rfl) (ev1 rfl)) ?_
    refine zab rfl rfl rfl (zar rfl (ev1 rfl) rfl) ?_
    refine zab rfl rfl rfl (zar rfl (ev1 rfl) rfl) ?_
    refine zab rfl rfl rfl (zar rfl (ev1 rfl) rfl) ?_
    refine zab rfl rfl rfl (zac (.inr rfl) (ev1 rfl)) ?_
    refine zab rfl rfl rfl (zac (.inr rfl) (ev1 rfl)) ?_
    refine zab rfl rfl rfl (zac (.inr rfl) (ev1 rfl)) ?_
    refine zae ?_
    refine zaf ?_
    refine zad ?_
    refine zab rfl rfl rfl (zac (.inl rfl) (ev1 rfl)) ?_
    refine zab rfl rfl rfl (zac (.inl rfl) (ev1 rfl)) ?_
    refine zab rfl rfl rfl (op_len rfl sl30 (ev1 rfl)) ?_
    refine zab rfl rfl rfl ((op_eql rfl (ev1 rfl) (ev1 rfl)).cast (d' := .val (.bool true)) (by rw [hrl, hjl, List.take_length]; simp)) ?_
    refine zab rfl rfl rfl (zac (.inl rfl) (ev1 rfl)) ?_
    refine zai (gd_t (b := true) rfl rfl rfl) rfl rfl rfl (zac (.inl rfl) (ev1 rfl)) (by simp only [upd, za, zaa]; exact rfl) ?_
    refine zai (gd_t (b := true) rfl rfl rfl) rfl rfl rfl ((op_eql rfl (ev2 rfl) (ev1 rfl)).cast (d' := .val (.bool true)) (by kernel_rfl)) (by simp only [upd, za, zaa]; exact rfl) ?_
    refine zab rfl rfl rfl ((op_and rfl (ev1 rfl) (ev3 rfl (fun _ => rfl))).cast (d' := .val (.bool true)) (by rfl)) ?_
    refine zab rfl rfl rfl (zac (.inl rfl) (ev1 rfl)) ?_
    refine zai (gd_t (b := true) rfl rfl rfl) rfl rfl rfl (zac (.inl rfl) (ev1 rfl)) (by simp only [upd, za, zaa]; exact rfl) ?_
    refine zai (gd_t (b := true) rfl rfl rfl) rfl rfl rfl ((op_eql rfl (ev2 rfl) (ev1 rfl)).cast (d' := .val (.bool true)) (by kernel_rfl)) (by simp only [upd, za, zaa]; exact rfl) ?_
    refine zab rfl rfl rfl ((op_and rfl (ev1 rfl) (ev3 rfl (fun _ => rfl))).cast (d' := .val (.bool true)) (by rfl)) ?_
    refine zab rfl rfl rfl (zac (.inl rfl) (ev1 rfl)) ?_
    refine zai (gd_t (b := true) rfl rfl rfl) rfl rfl rfl (zac (.inl rfl) (ev1 rfl)) (by simp only [upd, za, zaa]; exact rfl) ?_
    refine zai (gd_t (b := true) rfl rfl rfl) rfl rfl rfl (op_len rfl sl26 (evwk (ev2 rfl) (Wk.slf0 19))) (by simp only [upd, za, zaa]; exact rfl) ?_
    refine zai (gd_t (b := true) rfl rfl rfl) rfl rfl rfl ((op_eql rfl (ev2 rfl) (ev1 rfl)).cast (d' := .val (.bool true)) (by kernel_rfl)) (by simp only [upd, za, zaa]; exact rfl) ?_
    refine zab rfl rfl rfl ((op_and rfl (ev1 rfl) (ev3 rfl (fun _ => rfl))).cast (d' := .val (.bool true)) (by rfl)) ?_
    refine zab rfl rfl rfl (zac (.inr rfl) (ev1 rfl)) ?_
    refine zae ?_
    refine zan ?_
    refine kend0 (rs1 rfl (rv_t rfl)) rfl ?_
    rfl
theorem back_d (x : List OpM) (b : List Int) (c : Int) (hx : ∀ o ∈ x, okX o) (hb : isB b) : DFun Tryz.prog 4 [.slm 19 x.length (x.flatMap opD), .slf 1 (b).length ((b).flatMap uc8), .val (.int .i64 c)] [] (.val (.bool true)) [] := by
  by_cases h : 64 < (fewL x).length
  · exact back_long x b c h
  · rcases ops_split (fewL_ok hx) with ho | ⟨i, hi, h1, h2⟩
    · exact back_ok x b c hb (by omega) ho
    · exact back_bad x b c i hi h1 h2 (by omega)
end Go.Proofs.YtmacjicebemgoaaGreat
namespace Go.Proofs.YtmacjicebemgoaaGreat
set_option linter.unusedVariables false
set_option linter.unusedSimpArgs false
open Go.RowKit
open Go.ChangeShapes Go.WideShapes Go.ChangeAt Go.Joins Go.Deep
theorem fits_prim_i64 {v : Value} (h : (Prim.int .i64).is v) : ∃ a : Int, (-9223372036854775808 ≤ a ∧ a ≤ 9223372036854775807) ∧ v = .int .i64 a := by
  obtain ⟨x, rfl, w⟩ := h
  exact ⟨x, by simpa [Lit.wf, IntKind.min, IntKind.max, IntKind.signed, IntKind.bits] using w, rfl⟩
theorem fits_prim_u64 {v : Value} (h : (Prim.int .u64).is v) : ∃ a : Int, (0 ≤ a ∧ a ≤ 18446744073709551615) ∧ v = .int .u64 a := by
  obtain ⟨x, rfl, w⟩ := h
  exact ⟨x, by simpa [Lit.wf, IntKind.min, IntKind.max, IntKind.signed, IntKind.bits] using w, rfl⟩
theorem fitsP_cons {p : Prim} {ps : List Prim} {cs : List Value} (h : fitsP (p :: ps) cs) : ∃ v r, cs = v :: r ∧ p.is v ∧ fitsP ps r := by
  cases cs with
  | nil => cases h
  | cons v r => exact ⟨v, r, rfl, h.1, h.2⟩
theorem fitsP_nil {cs : List Value} (h : fitsP [] cs) : cs = [] := by
  cases cs with
  | nil => rfl
  | cons v r => cases h
theorem fits_id (cs : List Value) (h : fitsP [.int .u64, .int .i64, .int .u64] cs) : ∃ a : I3, True ∧ cs = idc a := by
  obtain ⟨x0, r, rfl, h0, h⟩ := fitsP_cons h
  obtain ⟨x1, r, rfl, h1, h⟩ := fitsP_cons h
  obtain ⟨x2, r, rfl, h2, h⟩ := fitsP_cons h
  obtain rfl := fitsP_nil h
  obtain ⟨a0, _, rfl⟩ := fits_prim_u64 h0
  obtain ⟨a1, _, rfl⟩ := fits_prim_i64 h1
  obtain ⟨a2, _, rfl⟩ := fits_prim_u64 h2
  exact ⟨⟨a0, a1, a2⟩, trivial, rfl⟩
theorem fits_c4 (cs : List Value) (h : fitsP [.int .u8, .int .u8, .int .u8, .int .u8] cs) : ∃ a : C4, okC a ∧ cs = c4 a := by
  obtain ⟨x0, r, rfl, h0, h⟩ := fitsP_cons h
  obtain ⟨x1, r, rfl, h1, h⟩ := fitsP_cons h
  obtain ⟨x2, r, rfl, h2, h⟩ := fitsP_cons h
  obtain ⟨x3, r, rfl, h3, h⟩ := fitsP_cons h
  obtain rfl := fitsP_nil h
  obtain ⟨a0, w0, rfl⟩ := fits_b h0
  obtain ⟨a1, w1, rfl⟩ := fits_b h1
  obtain ⟨a2, w2, rfl⟩ := fits_b h2
  obtain ⟨a3, w3, rfl⟩ := fits_b h3
  have e1 : ((256 ^ 1 : Nat) : Int) = 256 := by decide
  refine ⟨⟨a0, a1, a2, a3⟩, ?_, rfl⟩
  unfold okC
  rw [e1]
  exact ⟨⟨w0.1, show a0 < 256 by omega⟩, ⟨w1.1, show a1 < 256 by omega⟩, ⟨w2.1, show a2 < 256 by omega⟩, ⟨w3.1, show a3 < 256 by omega⟩⟩
theorem fits_i64 : ∀ cs, fitsP [.int .i64] cs → ∃ a : Int, (-9223372036854775808 ≤ a ∧ a ≤ 9223372036854775807) ∧ cs = inI a
  | [c0], h => by
    obtain ⟨h0, _⟩ := h
    obtain ⟨a, w, rfl⟩ := fits_prim_i64 h0
    exact ⟨a, w, rfl⟩
  | [], h => by cases h
  | _ :: _ :: _, h => by obtain ⟨_, h⟩ := h; cases h
theorem opens_i64 {w : World} : Opens Tryz.prog w 3 (fun a : Int => [.val (.int .i64 a)]) (fun a => -9223372036854775808 ≤ a ∧ a ≤ 9223372036854775807) := opens_flat 1 (fun a : Int => [.int .i64 a]) _ fits_i64 (by kernel_rfl)
theorem opens_id {w : World} : Opens Tryz.prog w 29 (fun a : I3 => (idc a).map .val) (fun _ => True) := opens_flat 4 idc _ fits_id (by kernel_rfl)
theorem opens_co {w : World} : Opens Tryz.prog w 42 (fun a : C4 => (c4 a).map .val) okC := opens_flat 4 c4 _ fits_c4 (by kernel_rfl)
theorem opens_px {w : World} : Opens Tryz.prog w 43 (fun l : List C4 => [.slf 4 l.length (l.flatMap c4)]) (fun l => ∀ x ∈ l, okC x) :=
  opens_row 4 c4 okC fits_c4 Tryz.underlying43 (show flatT Tryz.prog 4 42 = some [.int .u8, .int .u8, .int .u8, .int .u8] by kernel_rfl) (by kernel_rfl) (by decide) (fun _ => rfl)
theorem opens_st {w : World} : Opens Tryz.prog w 45 (fun a : Int × Int × List C4 => [iD a.1, iD a.2.1, pxD a.2.2]) (fun a => ∀ x ∈ a.2.2, okC x) :=
  opens_map (fun a : Int × Int × List C4 × Unit => (a.1, a.2.1, a.2.2.1)) (opens_struct Tryz.underlying45 (by kernel_rfl) (opensF_cons (k := 1) rfl (by kernel_rfl) opens_i64 (opensF_cons (k := 1) rfl (by kernel_rfl) opens_i64 (opensF_cons (k := 1) rfl (by kernel_rfl) opens_px opensF_nil)))) (fun _ => rfl) (fun _ h => h.2.2.1)
theorem opens_op {w : World} : Opens Tryz.prog w 47 opD okX :=
  opens_map (fun a : I3 × Int × Int × Int × Int × Int × Int × C4 × (Int × Int × List C4) × I3 × Unit => (⟨a.1, a.2.1, a.2.2.1, a.2.2.2.1, a.2.2.2.2.1, a.2.2.2.2.2.1, a.2.2.2.2.2.2.1, a.2.2.2.2.2.2.2.1, a.2.2.2.2.2.2.2.2.1.1, a.2.2.2.2.2.2.2.2.1.2.1, a.2.2.2.2.2.2.2.2.1.2.2, a.2.2.2.2.2.2.2.2.2.1⟩ : OpM)) (opens_struct Tryz.underlying47 (by kernel_rfl) (opensF_cons (k := 3) rfl (by kernel_rfl) opens_id (opensF_cons (k := 1) rfl (by kernel_rfl) opens_i64 (opensF_cons (k := 1) rfl (by kernel_rfl) opens_i64 (opensF_cons (k := 1) rfl (by kernel_rfl) opens_i64 (opensF_cons (k := 1) rfl (by kernel_rfl) opens_i64 (opensF_cons (k := 1) rfl (by kernel_rfl) opens_i64 (opensF_cons (k := 1) rfl (by kernel_rfl) opens_i64 (opensF_cons (k := 4) rfl (by kernel_rfl) opens_co (opensF_cons (k := 3) rfl (by kernel_rfl) opens_st (opensF_cons (k := 3) rfl (by kernel_rfl) opens_id opensF_nil))))))))))) (fun _ => rfl) (fun _ h => ⟨h.2.2.2.2.2.2.2.1, h.2.2.2.2.2.2.2.2.1⟩)
end Go.Proofs.YtmacjicebemgoaaGreat
