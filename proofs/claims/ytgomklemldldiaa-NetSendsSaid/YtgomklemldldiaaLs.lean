/- From a contract to the statement: a law whose call returns true whatever its arguments read as; with listed variables, too. No condition but the kernel's look at the program. -/
import Derived.Test.YtgomklemldldiaaLift
import Derived.Test.YtgomklemldldiaaLr
import Derived.LaidMore
import Derived.Handed
import Derived.LaidHandle
import Derived.Stop.Joined
namespace Go.Proofs.Ytgomklemldldiaa
set_option linter.unusedVariables false
set_option linter.unusedSimpArgs false
open Go.ChangeShapes Go.WideShapes Go.ChangeAt Go.RowKit Go.Joins Go.Deep
set_option maxRecDepth 100000

/-- the state in which a law is called -/
def st0 (W : World) : St := ⟨[], fun b => b < W.heap.size, [], W⟩
theorem ok_st0 (W : World) : Ok (st0 W) := by
  refine ⟨rfl, fun i k h hk => ?_, fun b hb => ?_, fun i j k k' h h' b hk => ?_, fun b hb => hb⟩
  · simp [st0] at hk
  · obtain ⟨i, k, h, hk, _⟩ := hb
    simp [st0] at hk
  · simp [st0] at hk
theorem walked_of {f : FuncId} {ts : List TypeId} (h : ∀ (H : Type) (enc : TypeId × Value → H) (W : World) (base : Nat) (args : Array Value) (ds : List (DataW H)) (p : List MemPlace),
    DataW.TrodAll enc Try.prog W 0 (fun _ => true) true ts args.toList ds p → (∀ (j : Nat) t v, ts[j]? = some t → args[j]? = some v → Value.okWide Try.prog W .any base t v) →
    ∃ Ds : List D, Reps (st0 W) Ds args.toList ∧ DFun Try.prog f Ds [] (.val (.bool true)) []) : Walked f ts := by
  intro H enc W base args ds p hA hval
  obtain ⟨Ds, hr, hf⟩ := h H enc W base args ds p hA hval
  have := hf.2 (st0 W) args.toList (ok_st0 W) rfl hr
  rw [Array.toArray_toList] at this
  refine this.mono ?_
  rintro e w' ⟨s', rfl, ht, hor⟩
  rcases hor with ⟨d, v, rfl, hrep, rfl, _⟩ | ⟨_, _, _, _, hf⟩
  · refine ⟨by rw [hrep.val_eq], ht.os, ht.tape, ht.output, ht.size, fun k hk => ht.keep k hk fun ⟨i, kk, h, hk, _⟩ => ?_⟩
    simp [st0] at hk
  · exact hf.elim
theorem reps_cons {s : St} {d : D} {v : Value} {ds : List D} {vs : List Value} (h : Rep s d v) (h' : Reps s ds vs) : Reps s (d :: ds) (v :: vs) := by
  refine ⟨by simp [h'.1], fun j e u hj hu => ?_⟩
  cases j with
  | zero => simp at hj hu; subst hj hu; exact h
  | succ j => exact h'.2 j e u (by simpa using hj) (by simpa using hu)
theorem reps_nil {s : St} : Reps s [] [] := ⟨rfl, fun j e u hj => by simp at hj⟩

section
variable {H : Type} {enc : TypeId × Value → H} {w : World} {base b0 : Nat} {r : Reach} {spare : Nat → Bool} {held : Bool} {v : Value} {d : DataW H} {p : List MemPlace}
theorem open_struct {α : Type} {t : TypeId} {fs : Array Field} {ps : List Prim} (f : Nat) (en : α → List Value) (ok : α → Prop) (hP : ∀ cs, fitsP ps cs → ∃ a, ok a ∧ cs = en a) (hu : Try.prog.underlying t = some (.struct fs)) (hf : flatT Try.prog f t = some ps)
    (hv : Value.okWide Try.prog w r b0 t v) (h : DataW.Trod enc Try.prog w base spare held t v d p) : ∃ a, ok a ∧ v = .agg (en a).toArray := by
  obtain ⟨cs, rfl, hsz⟩ := okWide_struct hu hv
  obtain ⟨fuel, hfu⟩ := h
  obtain ⟨a, hr, e⟩ := hP _ (flat_trod f _ _ _ _ _ hf hfu)
  refine ⟨a, hr, ?_⟩
  have e2 : cs.toList = en a := e
  rw [← e2]
theorem open_arrayT {α : Type} {t e : TypeId} {n : Nat} {ps : List Prim} (f : Nat) (en : α → List Value) (ok : α → Prop) (hP : ∀ cs, fitsP ps cs → ∃ a, ok a ∧ cs = en a) (hu : Try.prog.underlying t = some (.array n e)) (hf : flatT Try.prog f t = some ps)
    (hv : Value.okWide Try.prog w r b0 t v) (h : DataW.Trod enc Try.prog w base spare held t v d p) : ∃ a, ok a ∧ v = .agg (en a).toArray := by
  simp only [Value.okWide, hu] at hv
  obtain ⟨cs, rfl, hsz, _⟩ := hv
  obtain ⟨fuel, hfu⟩ := h
  obtain ⟨a, hr, e⟩ := hP _ (flat_trod f _ _ _ _ _ hf hfu)
  refine ⟨a, hr, ?_⟩
  have e2 : cs.toList = en a := e
  rw [← e2]
theorem open_prim {α : Type} {t : TypeId} {q : Prim} (mk : α → Value) (ok : α → Prop) (hP : ∀ v, q.is v → ∃ a, ok a ∧ v = mk a) (hf : flatT Try.prog 1 t = some [q]) (hv : ∃ u : Value, v = u ∧ u.cells = #[u]) (h : DataW.Trod enc Try.prog w base spare held t v d p) : ∃ a, ok a ∧ v = mk a := by
  obtain ⟨u, rfl, hc⟩ := hv
  obtain ⟨fuel, hfu⟩ := h
  have hfit := flat_trod 1 _ _ _ _ _ hf hfu
  rw [hc] at hfit
  exact hP v hfit.1
theorem rep_row {α : Type} {W : World} {a : Option Addr} {n cap sz : Nat} {en : α → List Value} {l : List α} (hx : rowV W a n sz en l) (hc : n ≤ cap) (hm : cap ≤ maxLen) (hnil : a = none → cap = 0) (hen : ∀ a, (en a).length = sz) : Rep (st0 W) (.slf sz l.length (l.flatMap en)) (.slice a n cap) := by
  obtain ⟨rfl, hx⟩ := hx
  refine .slf (flat_len hen l) hc hm hnil ?_
  rcases hx with rfl | ⟨b, off, rfl, hlt, hcell⟩
  · exact .inl rfl
  · refine .inr ⟨b, off, rfl, hlt, fun j u hj => ?_⟩
    show W.cell? ⟨b, off + j, none⟩ = some u
    have hjl : j < l.length * sz := by rw [← flat_len hen l]; exact (List.getElem?_eq_some_iff.1 hj).1
    have hsz : 0 < sz := by
      rcases Nat.eq_zero_or_pos sz with e | e
      · rw [e] at hjl; omega
      · exact e
    have hq : j / sz < l.length := (Nat.div_lt_iff_lt_mul hsz).2 hjl
    have hr := Nat.mod_lt j hsz
    have e : j = j / sz * sz + j % sz := by rw [Nat.mul_comm]; exact (Nat.div_add_mod j sz).symm
    rw [e, flat_cell hen hq hr] at hj
    have := hcell (j / sz) hq (j % sz) hr
    rw [hj] at this
    rw [e, ← Nat.add_assoc]
    exact this
end

theorem lift_laid {s : ChangeSpec} {f : FuncId} {fn : Func} {laid : List (String × DataW Unit)} {conds : List PathCond} {os : Os} (started : os.Started) {H : Type} {enc : TypeId × Value → H} (noInit : Try.checked.prog.inits.idxOf? f = none) (hfn : Try.checked.prog.funcs[f]? = some fn)
    (witness : ∃ (w : World) (tape : Tape) (i : Input), w.os = os ∧ (w.forCall tape i).Shaped Try.checked.prog ∧ i.vars = [] ∧ Input.okWide Try.checked.prog (w.forCall tape i) .any w.heap.size f i ∧
      ((s.pre enc Try.checked.prog fn conds false (w.forCall tape i).memory i.args ∧ laidMetH Try.prog laid (w.forCall tape i).memory) ∧ sizedMet enc Try.checked.prog fn (OpenSpec.ofChange s) false (w.forCall tape i).memory i.args) ∧ ({} : Assume).holds Try.checked.prog (lone (Frame.enter Try.checked.prog f i.args .normal) [] (w.forCall tape i)))
    (ts : List TypeId) (tb : TypeId) (hts : fn.params.toList = ts) (hr : fn.resultTypes.toList = [tb]) (hb : Try.prog.underlying tb = some .bool) (hrow : ts.all (fun t => Try.prog.readableRec t && decide (t < Try.prog.types.size)) = true)
    (hvars : s.vars = []) (hs : ∀ ds : List (DataW H), ds.length = ts.length → s.fn H ds = { results := [.lit (.bool true)], args := ds }) (hw : Walked f ts) :
    ReturnsInHanded {} Try.checked os f .any (fun w args => (s.pre enc Try.prog fn conds false w args ∧ laidMetH Try.prog laid w) ∧ sizedMet enc Try.prog fn (OpenSpec.ofChange s) false w args) (s.post enc Try.prog fn false true false false) := by
  refine returnsInHanded_of_change_and (C := Try.checked) (X := fun w _ => laidMetH Try.prog laid w) (fun _ _ _ hh h => h.of_heap hh) ownKnobN started noInit hfn witness ?_
  intro W base args ds gs before hval0 hW _ _ _ _
  have hval : ∀ (j : Nat) t v, fn.params[j]? = some t → args[j]? = some v → Value.okWide Try.prog W .any base t v := hval0
  have hW' := hW
  obtain ⟨p, q, hA0, hV, rfl, hnf, hap⟩ := hW
  have hA : DataW.TrodAll enc Try.prog W 0 (fun _ => true) true ts args.toList ds p := by rw [← hts]; exact hA0
  rw [hvars] at hV
  obtain ⟨rfl, rfl⟩ := trodVars_none hV
  simp only [List.append_nil] at hW'
  have hlt : ∀ x ∈ p, x.block < W.heap.size := fun x hx => by simpa using hW'.lt x hx
  have hlen := trodAll_len _ _ _ _ hA
  have hsz : fn.resultTypes.size = 1 := by rw [← Array.length_toList, hr]; rfl
  refine (hw H enc W base args ds p hA (fun j t v h1 h2 => hval j t v (by rw [← Array.getElem?_toList, hts]; exact h1) h2)).mono fun e W' ⟨he, hB⟩ => ?_
  subst he
  refine ⟨_, rfl, ds, [], p, [], p, [], ?_, ?_, ?_, ?_, hB.frame _, fun h => by cases h⟩
  · exact hW'
  · rw [List.append_nil, hs ds hlen, hr, hsz]
    exact trodAll_mk1 (shut_bool hb true)
  · rw [List.append_nil, hs ds hlen, hts]
    exact trodAll_stays laidOutN ts args.toList ds p hrow hA hB hlt
  · rw [List.append_nil, hs ds hlen, hvars]
    rfl
end Go.Proofs.Ytgomklemldldiaa
