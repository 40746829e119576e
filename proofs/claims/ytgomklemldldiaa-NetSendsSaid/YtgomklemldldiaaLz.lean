/- Arguments whose elements are slices themselves, opened, as deep as their types go. No condition but the kernel's look at the types. -/
import Derived.Test.YtgomklemldldiaaLs
import Derived.Test.YtgomklemldldiaaLon
namespace Go.Proofs.Ytgomklemldldiaa
set_option linter.unusedVariables false
set_option linter.unusedSimpArgs false
open Go.ChangeShapes Go.WideShapes Go.ChangeAt Go.RowKit Go.Joins Go.Deep

/-- cells that read as data, side by side, at the start -/
def Opens (P : Program) (w : World) {α : Type} (t : TypeId) (mk : α → List D) (ok : α → Prop) : Prop :=
  ∀ (H : Type) (enc : TypeId × Value → H) (base : Nat) (spare : Nat → Bool) (held : Bool) (n : Nat) (cs : List Value) (x : DataW H × List MemPlace), DataW.trod enc P w base spare held n t cs = some x → ∃ a, ok a ∧ Reps (st0 w) (mk a) cs

section
variable {P : Program} {w : World}
theorem reps_app2 {s : St} {d1 d2 : List D} {v1 v2 : List Value} (h1 : Reps s d1 v1) (h2 : Reps s d2 v2) : Reps s (d1 ++ d2) (v1 ++ v2) := by
  refine ⟨by simp [h1.1, h2.1], fun j d v hd hv => ?_⟩
  by_cases hj : j < d1.length
  · rw [List.getElem?_append_left hj] at hd
    rw [List.getElem?_append_left (by rw [h1.1]; exact hj)] at hv
    exact h1.2 j d v hd hv
  · rw [List.getElem?_append_right (by omega)] at hd
    rw [List.getElem?_append_right (by rw [h1.1]; omega), h1.1] at hv
    exact h2.2 _ d v hd hv
/-- a type that holds no address -/
theorem opens_flat {α : Type} {t : TypeId} {ps : List Prim} (f : Nat) (en : α → List Value) (ok : α → Prop) (hP : ∀ cs, fitsP ps cs → ∃ a, ok a ∧ cs = en a) (hf : flatT P f t = some ps) : Opens P w t (fun a => (en a).map .val) ok := by
  intro H enc base spare held n cs x hx
  obtain ⟨a, hok, rfl⟩ := hP cs (flat_trod f _ _ _ _ _ hf hx)
  refine ⟨a, hok, by simp, fun j d v hd hv => ?_⟩
  rw [List.getElem?_map, hv] at hd
  obtain rfl := Option.some.inj hd
  exact .val v
/-- a slice whose elements hold no address -/
theorem opens_row {α : Type} {t e : TypeId} {ps : List Prim} (f : Nat) (en : α → List Value) (ok : α → Prop) (hP : ∀ cs, fitsP ps cs → ∃ a, ok a ∧ cs = en a) (ht : P.underlying t = some (.slice e)) (hf : flatT P f e = some ps) (hc : P.cellsOf e = ps.length) (hpos : 0 < ps.length)
    (hen : ∀ a, (en a).length = ps.length) : Opens P w t (fun l : List α => [.slf ps.length l.length (l.flatMap en)]) (fun l => ∀ a ∈ l, ok a) := by
  intro H enc base spare held n cs x hx
  have hone : ∃ a len cap, cs = [.slice a len cap] := by
    rcases open_slice ht hx with ⟨hcs, _⟩ | ⟨a, len', cap', _, _, _, _, hcs, _⟩
    · exact ⟨_, _, _, hcs⟩
    · exact ⟨_, _, _, hcs⟩
  obtain ⟨a, len, cap, rfl⟩ := hone
  obtain ⟨l, h1, h2, h3, h4, h5⟩ := open_row f en ok hP ht hf hc hpos (d := x.1) (p := x.2) (show DataW.Trod enc P w base spare held t (.slice a len cap) x.1 x.2 from ⟨n, hx⟩)
  exact ⟨l, h2, reps_cons (rep_row h1 h3 h4 h5 hen) reps_nil⟩
theorem reps_flat {α : Type} {s : St} {mk : α → List D} : ∀ (l : List α) (css : List (List Value)), css.length = l.length → (∀ (i : Nat) (h : i < l.length) (h2 : i < css.length), Reps s (mk l[i]) css[i]) → Reps s (l.flatMap mk) css.flatten
  | [], [], _, _ => reps_nil
  | a :: l, cs :: css, hl, h => by
    rw [List.flatMap_cons, List.flatten_cons]
    exact reps_app2 (h 0 (by simp) (by simp)) (reps_flat l css (by simpa using hl) fun i h1 h2 => h (i + 1) (by simpa using h1) (by simpa using h2))
  | [], _ :: _, h, _ => by simp at h
  | _ :: _, [], h, _ => by simp at h
theorem nlL_app : ∀ {a b : List D}, D.nlL a = true → D.nlL b = true → D.nlL (a ++ b) = true
  | [], _, _, h => h
  | d :: a, b, h, h' => by
    rw [D.nlL, Bool.and_eq_true] at h
    rw [List.cons_append, D.nlL, h.1, nlL_app h.2 h']
    rfl
theorem nlL_flat {α : Type} {mk : α → List D} (h : ∀ a, D.nlL (mk a) = true) : ∀ l : List α, D.nlL (l.flatMap mk) = true
  | [] => rfl
  | a :: l => by rw [List.flatMap_cons]; exact nlL_app (h a) (nlL_flat h l)
theorem flatM_len {α β : Type} {en : α → List β} {sz : Nat} (hen : ∀ a, (en a).length = sz) : ∀ l : List α, (l.flatMap en).length = l.length * sz
  | [] => by simp
  | a :: l => by rw [List.flatMap_cons, List.length_append, hen, flatM_len hen l, List.length_cons, Nat.succ_mul]; omega
/-- a slice of whatever opens -/
theorem opens_rows {α : Type} {t e : TypeId} {sz : Nat} {mk : α → List D} {ok : α → Prop} (he : Opens P w e mk ok) (ht : P.underlying t = some (.slice e)) (hc : P.cellsOf e = sz) (hpos : 0 < sz) (hmk : ∀ a, (mk a).length = sz) (hnl : ∀ a, D.nlL (mk a) = true) :
    Opens P w t (fun l : List α => [.slm sz l.length (l.flatMap mk)]) (fun l => ∀ a ∈ l, ok a) := by
  intro H enc base spare held n cs x hx
  rcases open_slice ht hx with ⟨hcs, _⟩ | ⟨a, len, cap, m, n', D', Pl, hcs, _, hl, hm, hmm, _, hel⟩
  · subst hcs
    exact ⟨[], by simp, reps_cons (.slm (vs := []) rfl (by simp) (Nat.le_refl _) (Nat.zero_le _) (fun _ => rfl) rfl (fun j d v hd => by simp at hd) (.inl rfl)) reps_nil⟩
  · subst hcs
    have hlm : len ≤ m := by rw [hmm]; split <;> omega
    rw [hc] at hel
    obtain ⟨l, hll, hp⟩ := list_of' len (fun i (c : α × List Value) => ok c.1 ∧ Reps (st0 w) (mk c.1) c.2 ∧ w.cells? base (a.add (i * sz)) sz = some c.2) (by
      intro i hi
      obtain ⟨cs, h1, h2⟩ := hel i (by omega)
      obtain ⟨c, hok, hr⟩ := he H enc base spare held _ cs _ h2
      exact ⟨(c, cs), hok, hr, h1⟩)
    refine ⟨l.map (·.1), fun c hcm => ?_, reps_cons ?_ reps_nil⟩
    · obtain ⟨q, hq, rfl⟩ := List.mem_map.1 hcm
      obtain ⟨i, hi, rfl⟩ := List.getElem_of_mem hq
      exact (hp i hi).1
    · have hreps : Reps (st0 w) ((l.map (·.1)).flatMap mk) (l.map (·.2)).flatten := reps_flat _ _ (by simp) fun i h1 h2 => by
        simp only [List.getElem_map]
        exact (hp i (by simpa using h1)).2.1
      have hlen : (l.map (·.1)).length = len := by simp [hll]
      have hflat : ((l.map (·.1)).flatMap mk).length = len * sz := by rw [flatM_len hmk, hlen]
      have hcslen : ∀ i (h : i < l.length), (l[i].2).length = sz := fun i h => ((World.cells?_some (hp i h).2.2).2.1)
      rw [hlen]
      refine .slm (vs := (l.map (·.2)).flatten) (nlL_flat hnl _) hflat hl hm (fun e => by cases e) hreps.1 hreps.2 ?_
      by_cases h0 : l = []
      · left; subst h0; rfl
      · right
        have hlp : 0 < l.length := List.length_pos_iff.2 h0
        obtain ⟨b, off, spot⟩ := a
        have hg := World.cells?_some (hp 0 hlp).2.2
        have hc0 := hg.2.2 0 hpos
        rw [List.getElem?_eq_getElem (by rw [hg.2.1]; exact hpos)] at hc0
        replace hc0 : ∃ v0, w.cell? (((⟨b, off, spot⟩ : Addr).add (0 * sz)).add 0) = some v0 := ⟨_, hc0⟩
        obtain ⟨v0, hc0⟩ := hc0
        have hs := World.cell?_spot hc0
        have hspot : spot = none := by simpa [Addr.add] using hs
        subst hspot
        have hpl : ∀ o k, (⟨b, o, none⟩ : Addr).add k = ⟨b, o + k, none⟩ := fun o k => by simp [Addr.add]
        rw [hpl, hpl] at hc0
        refine ⟨b, off, rfl, World.block_lt_of_cell? _ _ hc0, fun j u hj => ?_⟩
        show w.cell? ⟨b, off + j, none⟩ = some u
        have hfl : ∀ q : α × List Value, q ∈ l → q.2.length = sz := fun q hq => by
          obtain ⟨i, hi, rfl⟩ := List.getElem_of_mem hq
          exact hcslen i hi
        have key : ∀ (l' : List (α × List Value)), (∀ q ∈ l', q.2.length = sz) → ∀ j u, ((l'.map (·.2)).flatten)[j]? = some u → ∃ (i : Nat) (h : i < l'.length), j / sz = i ∧ (l'[i].2)[j % sz]? = some u := by
          intro l'
          induction l' with
          | nil => intro _ j u h; simp at h
          | cons q l' ih =>
            intro hq j u h
            have hq0 := hq q (List.mem_cons_self ..)
            rw [List.map_cons, List.flatten_cons] at h
            by_cases hj : j < sz
            · rw [List.getElem?_append_left (by omega)] at h
              exact ⟨0, by simp, Nat.div_eq_of_lt hj, by rw [Nat.mod_eq_of_lt hj]; exact h⟩
            · rw [List.getElem?_append_right (by omega), hq0] at h
              obtain ⟨i, hi, e1, e2⟩ := ih (fun q' hq' => hq q' (List.mem_cons_of_mem _ hq')) _ _ h
              refine ⟨i + 1, by simpa using hi, ?_, ?_⟩
              · rw [← e1, ← Nat.add_div_right _ hpos, Nat.sub_add_cancel (by omega)]
              · rw [Nat.mod_eq_sub_mod (by omega)]
                simpa using e2
        obtain ⟨i, hi, e1, e2⟩ := key l hfl j u hj
        have hr := Nat.mod_lt j hpos
        have h3 := (World.cells?_some (hp i hi).2.2).2.2 (j % sz) hr
        rw [hpl, hpl, e2] at h3
        have e : i * sz + j % sz = j := by rw [← e1, Nat.mul_comm]; exact Nat.div_add_mod j sz
        rw [Nat.add_assoc, e] at h3
        exact h3
end
/-- an argument that opens -/
theorem open_any {H : Type} {enc : TypeId × Value → H} {w : World} {base : Nat} {spare : Nat → Bool} {held : Bool} {α : Type} {t : TypeId} {mk : α → D} {ok : α → Prop} {v : Value} {d : DataW H} {p : List MemPlace} (ho : Opens Try.prog w t (fun a => [mk a]) ok) (hv : v.cells = #[v]) (h : DataW.Trod enc Try.prog w base spare held t v d p) :
    ∃ a, ok a ∧ Rep (st0 w) (mk a) v := by
  obtain ⟨fuel, hfu⟩ := h
  obtain ⟨a, hok, hr⟩ := ho H enc base spare held _ _ _ hfu
  rw [hv] at hr
  exact ⟨a, hok, hr.2 0 _ _ rfl rfl⟩

end Go.Proofs.Ytgomklemldldiaa
