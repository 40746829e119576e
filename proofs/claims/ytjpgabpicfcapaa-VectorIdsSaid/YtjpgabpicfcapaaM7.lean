/- ids as they stand: cmp.Compare, cmp.Or, ident.Compare, ident.Less, and what is handed to the sort. -/
import Derived.Test.YtjpgabpicfcapaaM1
import Derived.Test.YtjpgabpicfcapaaOwn
namespace Go.Proofs.Ytjpgabpicfcapaa
open Go.RowKit

def cmpI (a b : Int) : Int := if a < b then -1 else if b < a then 1 else 0
def orL : List Int → Int
  | [] => 0
  | x :: l => if x = 0 then orL l else x
def cmpId (a b : I3) : Int := orL [cmpI a.t b.t, cmpI a.s b.s, cmpI a.q b.q]
def ltId (a b : I3) : Bool := decide (cmpId a b < 0)
def I3.same (a b : I3) : Bool := (a.t == b.t) && ((a.s == b.s) && (a.q == b.q))
theorem cmpI_self (a : Int) : cmpI a a = 0 := by unfold cmpI; rw [if_neg (by omega), if_neg (by omega)]
theorem cmpId_same {a b : I3} (h : a.same b = true) : cmpId a b = 0 := by
  unfold I3.same at h
  simp only [Bool.and_eq_true, beq_iff_eq] at h
  obtain ⟨h1, h2, h3⟩ := h
  unfold cmpId
  rw [h1, h2, h3, cmpI_self, cmpI_self, cmpI_self]; rfl
theorem eql_id (a b : I3) (w : World) : (binOp .eql 29 (.agg #[.int .u64 a.t, .int .i64 a.s, .int .u64 a.q]) (.agg #[.int .u64 b.t, .int .i64 b.s, .int .u64 b.q])).run Try.prog w = .ok (.bool (a.same b)) w := by
  unfold I3.same
  by_cases h1 : a.t = b.t <;> by_cases h2 : a.s = b.s <;> by_cases h3 : a.q = b.q <;> simp [go_sem, h1, h2, h3]

theorem isNaNU_any (n : Int) (w : World) : Calls Try.prog 65 #[.int .u64 n] w fun e w' => e = .returned (.bool false) ∧ w = w' := by
  go_enter Try.func65, Try.ntmps65
  go_wp2
  go_ret
  exact ⟨by simp, rfl⟩
theorem cmpU_any (a b : Int) (w : World) : Calls Try.prog 61 #[.int .u64 a, .int .u64 b] w fun e w' => e = .returned (.int .i64 (cmpI a b)) ∧ w = w' := by
  by_cases h1 : a < b
  · have H := Lib.hid (show cmpI a b = -1 by unfold cmpI; exact if_pos h1)
    go_enter Try.func61, Try.ntmps61
    go_wp2_with (first | (go_at_call 65; refine (isNaNU_any _ _).mono ?_; rintro e w' ⟨rfl, rfl⟩))
    go_ret
    exact ⟨by rw [H.out]; rfl, rfl⟩
  · by_cases h2 : b < a
    · have H := Lib.hid (show cmpI a b = 1 by unfold cmpI; rw [if_neg h1, if_pos h2])
      go_enter Try.func61, Try.ntmps61
      go_wp2_with (first | (go_at_call 65; refine (isNaNU_any _ _).mono ?_; rintro e w' ⟨rfl, rfl⟩))
      go_ret
      exact ⟨by rw [H.out]; rfl, rfl⟩
    · have H := Lib.hid (show cmpI a b = 0 by unfold cmpI; rw [if_neg h1, if_neg h2])
      go_enter Try.func61, Try.ntmps61
      go_wp2_with (first | (go_at_call 65; refine (isNaNU_any _ _).mono ?_; rintro e w' ⟨rfl, rfl⟩))
      go_ret
      exact ⟨by rw [H.out]; rfl, rfl⟩
theorem isNaNN_any (n : Int) (w : World) : Calls Try.prog 66 #[.int .i64 n] w fun e w' => e = .returned (.bool false) ∧ w = w' := by
  go_enter Try.func66, Try.ntmps66
  go_wp2
  go_ret
  exact ⟨by simp, rfl⟩
theorem cmpN_any (a b : Int) (w : World) : Calls Try.prog 62 #[.int .i64 a, .int .i64 b] w fun e w' => e = .returned (.int .i64 (cmpI a b)) ∧ w = w' := by
  by_cases h1 : a < b
  · have H := Lib.hid (show cmpI a b = -1 by unfold cmpI; exact if_pos h1)
    go_enter Try.func62, Try.ntmps62
    go_wp2_with (first | (go_at_call 66; refine (isNaNN_any _ _).mono ?_; rintro e w' ⟨rfl, rfl⟩))
    go_ret
    exact ⟨by rw [H.out]; rfl, rfl⟩
  · by_cases h2 : b < a
    · have H := Lib.hid (show cmpI a b = 1 by unfold cmpI; rw [if_neg h1, if_pos h2])
      go_enter Try.func62, Try.ntmps62
      go_wp2_with (first | (go_at_call 66; refine (isNaNN_any _ _).mono ?_; rintro e w' ⟨rfl, rfl⟩))
      go_ret
      exact ⟨by rw [H.out]; rfl, rfl⟩
    · have H := Lib.hid (show cmpI a b = 0 by unfold cmpI; rw [if_neg h1, if_neg h2])
      go_enter Try.func62, Try.ntmps62
      go_wp2_with (first | (go_at_call 66; refine (isNaNN_any _ _).mono ?_; rintro e w' ⟨rfl, rfl⟩))
      go_ret
      exact ⟨by rw [H.out]; rfl, rfl⟩

abbrev enN (n : Int) : List Value := [.int .i64 n]
theorem or_any (l : List Int) (a0 : Option Addr) (cap : Nat) (w : World) (h : rowV w a0 l.length 1 enN l) (hmax : l.length ≤ 1000000) : Calls Try.prog 60 #[.slice a0 l.length cap] w fun e w' => e = .returned (.int .i64 (orL l)) ∧ w = w' := by
  have HR := Lib.hid h
  clear h
  go_enter Try.func60, Try.ntmps60
  go_wp2_with fail
  go_loop [5, 8] (fun _ i => ∃ k : Nat, k ≤ l.length ∧ i = .int .i64 k ∧ orL l = orL (l.drop k)) (fun _ i => l.length - (intOf i).toNat)
  case atStart => exact ⟨0, Nat.zero_le _, rfl, by simp⟩
  case round =>
    obtain ⟨k, hk, rfl, hS⟩ := hrel
    have HS := Lib.hid hS
    clear hS
    by_cases hlt : k < l.length
    · obtain ⟨b, off, rfl, hc⟩ := HR.out.2.resolve_left (by intro e; subst e; simp at hlt)
      have d0 := hc.2 k hlt 0 (by omega)
      simp only [enN, List.getElem?_cons_zero, Nat.add_zero, Nat.mul_one] at d0
      have HD := Lib.hid (List.drop_eq_getElem_cons hlt)
      clear hc
      generalize l[k] = x at *
      by_cases h0 : x = 0
      · have hz : (x != 0) = false := by simp [h0]
        have HF := Lib.hid (show orL l = orL (l.drop (k + 1)) by rw [HS.out, HD.out]; show (if x = 0 then _ else x) = _; rw [if_pos h0])
        clear h0
        go_wp2_with fail
        refine ⟨⟨k + 1, hlt, by go_num, HF.out⟩, ?_⟩
        simp [intOf]; omega
      · have hz : (x != 0) = true := by simp [h0]
        have HF := Lib.hid (show orL l = x by rw [HS.out, HD.out]; show (if x = 0 then _ else x) = _; rw [if_neg h0])
        clear h0
        go_wp2_with fail
        go_ret
        exact ⟨by rw [HF.out]; rfl, rfl⟩
    · obtain rfl : k = l.length := by omega
      have HF := Lib.hid (show orL l = 0 by rw [HS.out, List.drop_length]; rfl)
      go_wp2
      go_ret
      exact ⟨by rw [HF.out]; rfl, rfl⟩

def isThree (x y z : Int) (v : Value) (W : World) : Prop := ∃ g, v = .slice (some ⟨g, 0, none⟩) 3 3 ∧ rowV W (some ⟨g, 0, none⟩) 3 1 enN [x, y, z]
theorem isThree_stays (x y z : Int) (v : Value) : Stays (isThree x y z v) := fun _ _ hk ⟨g, e, hr⟩ => ⟨g, e, rowV_below hr hk⟩
theorem row_three (x y z : Int) (w : World) (T : TypeId) : rowV (w.alloc (.cells #[.int .i64 x, .int .i64 y, .int .i64 z] T)) (some ⟨w.heap.size, 0, none⟩) 3 1 enN [x, y, z] := by
  refine ⟨rfl, .inr ⟨w.heap.size, 0, rfl, by simp, fun k hk j hj => ?_⟩⟩
  obtain rfl : j = 0 := by omega
  rw [cell_of_row _ _ _ _ _ _ (heap_alloc_new w _)]
  match k, hk with
  | 0, _ => rfl
  | 1, _ => rfl
  | 2, _ => rfl
set_option maxRecDepth 4000 in
set_option maxHeartbeats 2000000 in
theorem compare_any (a b : I3) (w : World) : Calls Try.prog 58 #[a.val, b.val] w fun e w' => e = .returned (.int .i64 (cmpId a b)) ∧ Below w.heap.size w w' := by
  have hq := eql_id a b
  cases hs : a.same b with
  | true =>
    have H := Lib.hid (cmpId_same hs)
    simp only [hs] at hq
    clear hs
    go_enter Try.func58, Try.ntmps58
    go_wp2
    go_ret
    exact ⟨by rw [H.out]; rfl, ((Below.refl _ _).alloc (Nat.le_refl _) _).alloc (by simp) _⟩
  | false =>
    simp only [hs] at hq
    clear hs
    have hB0 := Lib.hid (show Below w.heap.size w ((w.alloc (.cells #[.int .u64 a.t, .int .i64 a.s, .int .u64 a.q] 29)).alloc (.cells #[.int .u64 b.t, .int .i64 b.s, .int .u64 b.q] 29)) from ((Below.refl _ _).alloc (Nat.le_refl _) _).alloc (by simp) _)
    have HA := Lib.hid (show holds ((w.alloc (.cells #[.int .u64 a.t, .int .i64 a.s, .int .u64 a.q] 29)).alloc (.cells #[.int .u64 b.t, .int .i64 b.s, .int .u64 b.q] 29)) w.heap.size (enI a) from holds_alloc (holds_new w _ _) _)
    have HB := Lib.hid (show holds ((w.alloc (.cells #[.int .u64 a.t, .int .i64 a.s, .int .u64 a.q] 29)).alloc (.cells #[.int .u64 b.t, .int .i64 b.s, .int .u64 b.q] 29)) (w.heap.size + 1) (enI b) by
      have := holds_new (w.alloc (.cells #[.int .u64 a.t, .int .i64 a.s, .int .u64 a.q] 29)) #[.int .u64 b.t, .int .i64 b.s, .int .u64 b.q] 29
      rwa [World.size_alloc] at this)
    have HC := Lib.hid (show cmpId a b = orL [cmpI a.t b.t, cmpI a.s b.s, cmpI a.q b.q] from rfl)
    go_enter Try.func58, Try.ntmps58
    go_wp2_with fail
    clear hq
    obtain ⟨W, hW⟩ : ∃ W, ((w.alloc (.cells #[.int .u64 a.t, .int .i64 a.s, .int .u64 a.q] 29)).alloc (.cells #[.int .u64 b.t, .int .i64 b.s, .int .u64 b.q] 29)) = W := ⟨_, rfl⟩
    rw [hW] at hB0 HA HB
    try rw [hW]
    clear hW
    have E := HA.out
    have e0 := E.cell 0 (by simp)
    have e1 := E.cell 1 (by simp)
    have e2 := E.cell 2 (by simp)
    have la := E.lt
    have F := HB.out
    have f0 := F.cell 0 (by simp)
    have f1 := F.cell 1 (by simp)
    have f2 := F.cell 2 (by simp)
    have lb := F.lt
    simp only [enI, List.getElem_cons_zero, List.getElem_cons_succ] at e0 e1 e2 f0 f1 f2
    clear E F
    have hna := fun (n : Near W.heap.size W) (j : Nat) => near_cell W.heap.size n w.heap.size j la
    have hnb := fun (n : Near W.heap.size W) (j : Nat) => near_cell W.heap.size n (w.heap.size + 1) j lb
    have c1 := fun W => cmpU_any a.t b.t W
    have c2 := fun W => cmpN_any a.s b.s W
    have c3 := fun W => cmpU_any a.q b.q W
    obtain ⟨x, hx⟩ : ∃ x, cmpI a.t b.t = x := ⟨_, rfl⟩
    obtain ⟨y, hy⟩ : ∃ y, cmpI a.s b.s = y := ⟨_, rfl⟩
    obtain ⟨z, hz⟩ : ∃ z, cmpI a.q b.q = z := ⟨_, rfl⟩
    simp only [hx] at c1
    simp only [hy] at c2
    simp only [hz] at c3
    rw [hx, hy, hz] at HC
    clear hx hy hz
    refine wp_region_dep W.heap.size 18 (by kernel_rfl) (by kernel_rfl) (by rfl) (Nat.le_refl _) ?_
    simp only [List.take_succ_cons, List.take_zero, List.drop_succ_cons, List.drop_zero]
    iterate 4 (refine wpDep_plain (by rfl) (fun K hK => ?_); go_simp; (refine hK _ ?_; clear hK K))
    refine wpDep_plain (by rfl) (fun K hK => ?_); go_simp; refine ⟨_, fun n => callsTo_same (c1 _), ?_⟩; (refine hK _ ?_; clear hK K)
    iterate 4 (refine wpDep_plain (by rfl) (fun K hK => ?_); go_simp; (refine hK _ ?_; clear hK K))
    refine wpDep_plain (by rfl) (fun K hK => ?_); go_simp; refine ⟨_, fun n => callsTo_same (c2 _), ?_⟩; (refine hK _ ?_; clear hK K)
    iterate 4 (refine wpDep_plain (by rfl) (fun K hK => ?_); go_simp; (refine hK _ ?_; clear hK K))
    refine wpDep_plain (by rfl) (fun K hK => ?_); go_simp; refine ⟨_, fun n => callsTo_same (c3 _), ?_⟩; (refine hK _ ?_; clear hK K)
    refine wpDep_make (isThree x y z) (by rfl) (by rfl) (isThree_stays x y z) (by rfl) ?_ ?_
    · intro n
      have hr := row_three x y z n.u 3
      go_simp
      first | exact ⟨(Below.refl _ _).alloc (Nat.le_refl _) _, _, rfl, hr⟩ | exact ⟨_, rfl, hr⟩
    refine wpDep_use (t := 23) (List.mem_cons_self ..) (by rfl) (show 23 < 25 by decide) (by rfl) (.int .i64 (orL [x, y, z])) ?_ ?_
    · rintro v n ⟨g, rfl, h⟩
      go_simp
      exact callsTo_same (or_any [x, y, z] _ 3 n.u h (by simp))
    iterate 1 (refine wpDep_plain (by rfl) (fun K hK => ?_); go_simp; (refine hK _ ?_; clear hK K))
    refine wpDep_nil ?_
    intro f m _
    simp only [fillV]
    have HE := Lib.hid (hB0.out.trans (m.h.mono hB0.out.size))
    clear hna hnb c1 c2 c3 e0 e1 e2 f0 f1 f2 la lb
    go_wp2_with fail
    go_ret
    exact ⟨by rw [HC.out]; rfl, HE.out⟩

theorem less_any (a b : I3) (w : World) : Calls Try.prog 50 #[a.val, b.val] w fun e w' => e = .returned (.bool (ltId a b)) ∧ Below w.heap.size w w' := by
  have hc := fun W => compare_any a b W
  have HC := Lib.hid hc
  clear hc
  go_enter Try.func50, Try.ntmps50
  go_wp2_with fail
  refine (HC.out _).mono ?_
  rintro e w1 ⟨rfl, hB⟩
  have HB := Lib.hid ((((Below.refl w.heap.size w).alloc (Nat.le_refl _) _).alloc (by simp) _).trans (hB.mono (by simp <;> omega)))
  clear hB
  go_wp2_with fail
  go_ret
  exact ⟨by first | rfl | (unfold ltId; rfl), HB.out⟩

theorem sorted1_any (a b : I3) (w : World) : Calls Try.prog 49 #[a.val, b.val] w fun e w' => e = .returned (.bool (ltId a b)) ∧ Below w.heap.size w w' := by
  have hc := fun W => less_any a b W
  have HC := Lib.hid hc
  clear hc
  go_enter Try.func49, Try.ntmps49
  go_wp2_with fail
  refine (HC.out _).mono ?_
  rintro e w1 ⟨rfl, hB⟩
  have HB := Lib.hid ((((Below.refl w.heap.size w).alloc (Nat.le_refl _) _).alloc (by simp) _).trans (hB.mono (by simp <;> omega)))
  clear hB
  go_wp2_with fail
  go_ret
  exact ⟨by first | rfl | (unfold ltId; rfl), HB.out⟩

def cfI (a b : I3) : Int := match ltId a b with | true => -1 | false => match ltId b a with | true => 1 | false => 0
/-- what is handed to the sort; c: the cell that holds what stands ahead -/
theorem cmpf_any (a b : I3) (c : Nat) (w : World) (hc : holds w c [.func (.func 49) #[] #[]]) : Calls Try.prog 57 #[a.val, b.val, .pointer (some ⟨c, 0, none⟩)] w fun e w' => e = .returned (.int .i64 (cfI a b)) ∧ Below w.heap.size w w' := by
  have lc := hc.lt
  have HA := Lib.hid (show holds ((w.alloc (.cells #[.int .u64 a.t, .int .i64 a.s, .int .u64 a.q] 29)).alloc (.cells #[.int .u64 b.t, .int .i64 b.s, .int .u64 b.q] 29)) w.heap.size (enI a) from holds_alloc (holds_new w _ _) _)
  have HB := Lib.hid (show holds ((w.alloc (.cells #[.int .u64 a.t, .int .i64 a.s, .int .u64 a.q] 29)).alloc (.cells #[.int .u64 b.t, .int .i64 b.s, .int .u64 b.q] 29)) (w.heap.size + 1) (enI b) by
    have := holds_new (w.alloc (.cells #[.int .u64 a.t, .int .i64 a.s, .int .u64 a.q] 29)) #[.int .u64 b.t, .int .i64 b.s, .int .u64 b.q] 29
    rwa [World.size_alloc] at this)
  have HC := Lib.hid hc
  have q0 := hc.cell 0 (by simp)
  simp only [List.getElem_cons_zero] at q0
  clear hc
  have s1 := fun W => sorted1_any a b W
  have s2 := fun W => sorted1_any b a W
  cases h1 : ltId a b
  all_goals
    simp only [h1] at s1
    have S1 := Lib.hid s1
    have S2 := Lib.hid s2
    have H1 := Lib.hid h1
    clear s1 s2 h1
    go_enter Try.func57, Try.ntmps57
    go_wp2_with fail
    refine (S1.out _).mono ?_
    rintro e w1 ⟨rfl, hB⟩
    have B1 := Lib.hid ((((Below.refl w.heap.size w).alloc (Nat.le_refl _) _).alloc (by simp) _).trans (hB.mono (by simp <;> omega)))
    have A1 := holds_below HA.out hB (by simp <;> omega)
    have C1 := holds_below HB.out hB (by simp <;> omega)
    have D1 := holds_below HC.out B1.out lc
    have e0 := A1.cell 0 (by simp)
    have e1 := A1.cell 1 (by simp)
    have e2 := A1.cell 2 (by simp)
    have f0 := C1.cell 0 (by simp)
    have f1 := C1.cell 1 (by simp)
    have f2 := C1.cell 2 (by simp)
    have g0 := D1.cell 0 (by simp)
    simp only [enI, List.getElem_cons_zero, List.getElem_cons_succ] at e0 e1 e2 f0 f1 f2 g0
    clear hB q0 A1 C1 D1
  · cases h2 : ltId b a
    all_goals
      have s2 := S2.out
      simp only [h2] at s2
      have S3 := Lib.hid s2
      have H2 := Lib.hid h2
      clear s2 h2 S2
      go_wp2_with fail
      refine (S3.out _).mono ?_
      rintro e w2 ⟨rfl, hB⟩
      have B2 := Lib.hid (B1.out.trans (hB.mono B1.out.size))
      clear hB e0 e1 e2 f0 f1 f2 g0
      go_wp2_with fail
      go_ret
      exact ⟨by unfold cfI; rw [H1.out, H2.out]; rfl, B2.out⟩
  · go_wp2_with fail
    go_ret
    exact ⟨by unfold cfI; rw [H1.out]; rfl, B1.out⟩
end Go.Proofs.Ytjpgabpicfcapaa
