/- The law for regions one of whose operations changes memory that was there, inside a round of a range over a function. -/
import Derived.RangeFuncNested
import Derived.RangeFuncCalls
import Derived.OrdersIn
import Derived.TacticsIn
import Derived.Test.YtjpgabpicfcapaaDepIn
import Derived.Test.YtjpgabpicfcapaaDep3
namespace Go.Proofs.Ytjpgabpicfcapaa.Wild
open Go.RowKit

theorem wpIn_region_dep (M : Nat → Prop) (J : World → Prop) (B n : Nat) {ln m : Nat} {P : Program} {id : Nat} {Q : Exit → Act → World → Prop} {a : Act} {w : World} {l : List Oper} (hm : P.follows .mixedOrders = true) (hB : depB l.toArray n = true)
    (hdf : l.all noDefer = true) (hsz : slotsB l.toArray n a.tmps.size = true) (hBw : B ≤ w.heap.size) (hJ : Stays J) (hJ0 : J w)
    (h : wpDep P l.toArray M J B w (fun hid aE => ∀ (f : Tmp → Value) (x : NearM M B w), (∀ h ∈ hid, h.φ (f h.t) x.u) → Apart w hid f → wpListIn (Fence.wide.inRound ln) m P l.toArray Q (l.drop n) (fillV hid f aE) x.u) false (l.take n) [] a) :
    (Code.region id l.toArray true).wpIn (Fence.wide.inRound ln) m P Q a w := by
  have hdl : (l.drop n).length = l.toArray.size - n := by simp
  refine wpIn_region_any hm (region_core M J B n (wpAnyIn (Fence.wide.inRound ln) m P .any l.toArray Q) (fun b v => wpListIn (Fence.wide.inRound ln) m P l.toArray Q (l.drop n) b v) hB hsz hBw hJ hJ0 (fun k listed b v hne hall => ?_) (fun b v hgo => ?_) h)
  · refine ⟨fun e => absurd e hne, fun i hi => ?_⟩
    obtain ⟨o, ho, hcase⟩ := hall i hi
    have hnd : ∀ c, o.op ≠ .defer c := fun c e => by
      have hmem : o ∈ l := by simpa using List.mem_of_getElem? (by simpa using ho)
      have := List.all_eq_true.1 hdf o hmem
      simp [noDefer, e] at this
    unfold wpOpIn
    simp only [ho]
    rcases hcase with ⟨hw, φ, hg, next⟩ | ⟨hw, next⟩
    · rw [if_pos hw]
      refine ⟨fun _ _ => trivial, ?_⟩
      rw [Oper.semAt_eq _ _ _ hnd]
      generalize (execOp b.eval o).run P v = res at hg
      cases res with
      | ok nx v' =>
        cases nx <;> simp only [givesW] at hg <;> simp only [Oper.uponIn]
        case value u => exact next u v' hg
        case skip => exact next undef v' hg
        case enter g args =>
          obtain ⟨rfl, hcall⟩ := hg
          refine ⟨fun e => (by cases e), ?_⟩
          exact (CallsIn.inRound ln (callsIn_wide.2 hcall)).mono fun e v'' ⟨u, he, hphi⟩ => by subst he; exact next u v'' hphi
      | halt x v' => simp only [givesW] at hg
    · rw [hw]
      simp only [Bool.false_eq_true, if_false]
      exact ⟨fun _ _ => trivial, next⟩
  · rw [← hdl]
    exact wpAnyIn_of_seq (md := .any) (l.drop n) n _ b v (fun j => by simp [List.getElem?_drop]) (by rw [hdl]; exact depB_seq hB) hgo
end Go.Proofs.Ytjpgabpicfcapaa.Wild
