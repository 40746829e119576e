/- Parts of structs of data that hold plain values. No condition. -/
import Derived.Test.YtgomklemldldiaaLdp
namespace Go.Proofs.Ytgomklemldldiaa
set_option linter.unusedVariables false
set_option linter.unusedSimpArgs false
open Go.RowKit
section
variable {P : Program} {pc : Bool} {o : Oper} {F : Fr} {M : List Blk}
/-- a part of a struct's variable, all of whose cells are plain -/
theorem op_ldmv {T T' : TypeId} {x : Operand} {i p k : Nat} {l : List D} {R : List Value} (ho : o.op = .load T x) (hT : tyB P T = some (true, k)) (hx : Ev pc F x (.loc i p)) (hM : M[i]? = some (.mix T' l)) (hR : (l.drop p).take k = R.map .val) (hl : R.length = k) : DOp P pc o F M [i] (.val (.agg R.toArray)) [] := by
  intro hp a s hok hops hfp
  have hr := ev_at hp hx (by simp [ho, Op.operands]) hops
  generalize hv : a.eval x = vx at hr
  cases hr with
  | @loc _ _ b h =>
    obtain ⟨b', vs, e1, e2, e3, e4⟩ := hok.blk i _ _ (by rw [hfp i (by simp)]; exact hM) h
    cases e1
    have hvs : (vs.drop p).take k = R := by
      have hlen : ((vs.drop p).take k).length = R.length := by
        have h1 := congrArg List.length hR
        rw [List.length_take, List.length_drop, List.length_map] at h1
        rw [List.length_take, List.length_drop, e3, h1]
      refine List.ext_getElem hlen fun j h1 h2 => ?_
      have h3 : ((l.drop p).take k)[j]? = some (.val R[j]) := by rw [hR, List.getElem?_map, List.getElem?_eq_getElem h2]; rfl
      have hjk : j < k := by omega
      rw [List.getElem?_take, if_pos hjk, List.getElem?_drop] at h3
      have h5 : vs[p + j]? = some ((vs.drop p).take k)[j] := by
        have := List.getElem?_eq_getElem h1
        rw [List.getElem?_take, if_pos hjk, List.getElem?_drop] at this
        exact this
      exact (e4 _ _ _ h3 h5).val_eq
    have hc : cellsAt s.w b 0 vs := cellsAt_block e2 0
    have hr := cellsAt_range hc p k hvs
    rw [Nat.zero_add] at hr
    exact dg_val hok (run_load_row ho hT hv hr hl) (.val _)
/-- a struct of plain values, as one of data -/
theorem ev_ofagg {x : Operand} {L : List Value} (h : Ev pc F x (.val (.agg L.toArray))) : Ev pc F x (.agg (L.map .val)) := by
  obtain ⟨d, h1, h2⟩ := h
  refine ⟨d, h1, fun s v hp hr => ?_⟩
  have hr := h2 s v hp hr
  cases hr
  exact .agg (by simp) fun j d v h1 h2 => by
    rw [List.getElem?_map, h2] at h1
    cases h1
    exact .val v
/-- .. and back -/
theorem ev_toagg {x : Operand} {L : List Value} (h : Ev pc F x (.agg (L.map .val))) : Ev pc F x (.val (.agg L.toArray)) := by
  obtain ⟨d, h1, h2⟩ := h
  refine ⟨d, h1, fun s v hp hr => ?_⟩
  have hr := h2 s v hp hr
  cases hr with
  | @agg _ vs hl hel =>
    have e : vs = L := by
      refine List.ext_getElem (by simpa using hl) fun j h1 h2 => ?_
      exact (hel j (.val L[j]) _ (by rw [List.getElem?_map, List.getElem?_eq_getElem h2]; rfl) (List.getElem?_eq_getElem h1)).val_eq
    subst e
    exact .val _
end
theorem vwL_cons' {σ : List Nat} {V : Nat → Bool} {M : List Blk} {d d' : D} {l l' : List D} (h1 : vw σ V M d = some d') (h2 : vwL σ V M l = some l') : vwL σ V M (d :: l) = some (d' :: l') := by rw [vwL, h1, h2]
/-- a row of one's own that holds data, looked at -/
theorem vw_arrV {σ : List Nat} {V : Nat → Bool} {M : List Blk} {i : Nat} {T : TypeId} {sz n : Nat} {l : List D} (hp : pos σ i = none) (hV : V i = true) (hM : M[i]? = some (.arx T sz n l)) (h : D.nlL l = true) : vw σ V M (.arr i) = some (.slm sz n l) := by
  rw [vw, hp]
  show vwArr σ V M i = _
  unfold vwArr
  rw [hV, hM]
  show (vw1L σ V M _).map _ = _
  rw [vw1L_nl σ V M l h]; rfl
end Go.Proofs.Ytgomklemldldiaa
