/- The law for regions that draw their order, inside a round of a range over a function. -/
import Derived.RangeFuncNested
import Derived.RangeFuncCalls
import Derived.OrdersIn
import Derived.TacticsIn
import Derived.Test.YtjpgabpicfcapaaDep
namespace Go.Proofs.Ytjpgabpicfcapaa
open Go.RowKit

def noDefer (o : Oper) : Bool := match o.op with | .defer _ => false | _ => true

theorem wpAnyIn_of_seq {F : Fence} {m : Nat} {P : Program} {md : Region.Mode} {ops : Array Oper} {Q : Exit → Act → World → Prop} (l : List Oper) : ∀ (k : Nat) (listed : Array Bool) (a : Act) (w : World), (∀ j, l[j]? = ops[k + j]?) →
    Region.seqB md ops l.length k listed = true → wpListIn F m P ops Q l a w → wpAnyIn F m P md ops Q l.length listed a w := by
  induction l with
  | nil => intro k listed a w _ hB h; exact ⟨by simpa [Region.seqB] using hB, h⟩
  | cons o l ih =>
    intro k listed a w hl hB h
    have h0 : ops[k]? = some o := by simpa using (hl 0).symm
    simp only [List.length_cons, Region.seqB, Bool.and_eq_true, decide_eq_true_eq] at hB
    refine ⟨fun e => by rw [hB.1] at e; exact absurd e (by simp), fun i hi => ?_⟩
    rw [hB.1] at hi
    obtain rfl : i = k := by simpa using hi
    have hw : wpOpIn F m P ops Q i (wpListIn F m P ops Q l) a w := by unfold wpOpIn; simp only [h0]; exact h
    exact wpOpIn_mono (fun a' w' h' => ih (i + 1) _ a' w' (fun j => by have := hl (j + 1); simpa [Nat.add_assoc, Nat.add_comm 1 j] using this) hB.2 h') hw

theorem wpIn_region_dep (B n : Nat) {ln m : Nat} {P : Program} {id : Nat} {Q : Exit → Act → World → Prop} {a : Act} {w : World} {l : List Oper} (hm : P.follows .mixedOrders = true) (hB : depB l.toArray n = true)
    (hdf : l.all noDefer = true) (hsz : slotsB l.toArray n a.tmps.size = true) (hBw : B ≤ w.heap.size)
    (h : wpDep P l.toArray B w (fun hid aE => ∀ (f : Tmp → Value) (x : Near B w), (∀ h ∈ hid, h.φ (f h.t) x.u) → wpListIn (Fence.wide.inRound ln) m P l.toArray Q (l.drop n) (fillV hid f aE) x.u) (l.take n) [] a) :
    (Code.region id l.toArray true).wpIn (Fence.wide.inRound ln) m P Q a w := by
  have hdl : (l.drop n).length = l.toArray.size - n := by simp
  refine wpIn_region_any hm (region_core B n (wpAnyIn (Fence.wide.inRound ln) m P .any l.toArray Q) (fun b v => wpListIn (Fence.wide.inRound ln) m P l.toArray Q (l.drop n) b v) hB hsz hBw (fun k listed b v hne hall => ?_) (fun b v hgo => ?_) h)
  · refine ⟨fun e => absurd e hne, fun i hi => ?_⟩
    obtain ⟨o, ho, hcase⟩ := hall i hi
    have hnd : ∀ c, o.op ≠ .defer c := fun c e => by
      have hmem : o ∈ l := by simpa using List.mem_of_getElem? (by simpa using ho)
      have := List.all_eq_true.1 hdf o hmem
      simp [noDefer, e] at this
    unfold wpOpIn
    simp only [ho]
    rcases hcase with ⟨hw, φ, hg, next⟩ | ⟨hw, next⟩
    · rw [if_pos hw]
      refine ⟨fun _ _ => trivial, ?_⟩
      rw [Oper.semAt_eq _ _ _ hnd]
      generalize (execOp b.eval o).run P v = res at hg
      cases res with
      | ok nx v' =>
        cases nx <;> simp only [gives] at hg <;> simp only [Oper.uponIn]
        case value u => exact next u v' hg.1 hg.2
        case skip => exact next undef v' hg.1 hg.2
        case enter g args =>
          obtain ⟨rfl, hcall⟩ := hg
          refine ⟨fun e => (by cases e), ?_⟩
          exact (CallsIn.inRound ln (callsIn_wide.2 hcall)).mono fun e v'' ⟨u, he, hb, hphi⟩ => by subst he; exact next u v'' hb hphi
      | halt x v' => simp only [gives] at hg
    · rw [hw]
      simp only [Bool.false_eq_true, if_false]
      exact ⟨fun _ _ => trivial, next⟩
  · rw [← hdl]
    exact wpAnyIn_of_seq (md := .any) (l.drop n) n _ b v (fun j => by simp [List.getElem?_drop]) (by rw [hdl]; exact depB_seq hB) hgo
end Go.Proofs.Ytjpgabpicfcapaa
