/- the document: tiles that are read; the document: canvases that are read; what the law says, by cases; tiles as bytes, and read; canvases as bytes, and read. No condition. -/
import Derived.Test.YtcbfnbfhlofkiaaQFc1x1
import Derived.Test.YtcbfnbfhlofkiaaRows
namespace Go.Proofs.Ytcbfnbfhlofkiaa
set_option maxRecDepth 4000
set_option linter.unusedVariables false
set_option linter.unusedSimpArgs false
open Go.RowKit
attribute [local irreducible] runG bytesG posG tileB tilesB padT rdP rdN mayG rdQ
theorem rdd_y (B : List Int) (hB : B.length ≤ 4000000000000000000) (hi : isB B) (l : List C4) (q : Nat) (h0 : rdN B 0 = some (l, q)) : DFun Try.prog 15 [.slf 1 (B).length ((B).flatMap u8V)] [] (.tup [.val (.agg (tc (padT l)).toArray), .val (.int .i64 (q : Nat))]) [] := by
  obtain ⟨g1, g2, g3, g4⟩ := rdN_bytes h0
  have hp : rdP B 64 [] 0 = some (l, q) := by unfold rdN at h0; exact h0
  refine rdd_1 B hB hi l q (rdQ_of (by decide) hp) ⟨g2.symm, ?_⟩
  have h1 := congrArg (List.take (tileB (padT l)).length) g1
  rw [List.take_left'] at h1
  · exact h1
  · rfl
theorem rdd_n (B : List Int) (hB : B.length ≤ 4000000000000000000) (hi : isB B) (h0 : rdN B 0 = none) : DFun Try.prog 15 [.slf 1 (B).length ((B).flatMap u8V)] [] (.tup [.val (.agg (tc zT).toArray), .val (.int .i64 0)]) [] := by
  cases hx : rdQ B 64 [] 0 with
  | none => exact rdd_0 B hB hi hx
  | some x =>
    obtain ⟨l, q⟩ := x
    refine rdd_2 B hB hi l q hx fun hc => ?_
    rw [doc_y (rdQ_len hx) hc.1 hc.2] at h0
    cases h0
theorem bAt_drop (B : List Int) (p j : Nat) : bAt (B.drop p) j = bAt B (p + j) := by
  unfold bAt
  rw [List.getD_eq_getElem?_getD, List.getD_eq_getElem?_getD, List.getElem?_drop]
theorem rdP_drop (B : List Int) (p : Nat) (hp : p ≤ B.length) : ∀ (f : Nat) (acc : List C4) (j : Nat), rdP (B.drop p) f acc j = (rdP B f acc (p + j)).map fun x => (x.1, x.2 - p)
  | 0, _, _ => by rw [rdP, rdP]; rfl
  | f + 1, acc, j => by
    have e : runAt (B.drop p) j = runAt B (p + j) := by
      unfold runAt
      simp only [bAt_drop, Nat.add_assoc]
    rw [rdP, rdP, e, List.length_drop]
    by_cases h5 : p + j + 5 ≤ B.length
    · rw [if_pos (by omega), if_pos h5]
      split
      · split
        · exact congrArg some (Prod.ext rfl (by show j + 5 = p + j + 5 - p; omega))
        · exact rdP_drop B p hp f _ (j + 5)
      · rfl
    · rw [if_neg (by omega), if_neg h5]; rfl
theorem rdN_drop {B : List Int} {p : Nat} (hp : p ≤ B.length) : rdN (B.drop p) 0 = (rdN B p).map fun x => (x.1, x.2 - p) := by
  unfold rdN
  exact rdP_drop B p hp 64 [] 0
theorem rdN_lt {B : List Int} {p q : Nat} {l : List C4} (h : rdN B p = some (l, q)) : p < q := by
  unfold rdN at h
  obtain ⟨h5, hm, h1, h2⟩ := rdP_some h
  by_cases h6 : ([] : List C4).length + (runAt B p).1.toNat = 64
  · obtain ⟨_, rfl⟩ := h1 h6; omega
  · have := rdP_le (h2 h6); omega
theorem zr_t {B : List Int} {p : Nat} (hz : zrB B p = true) : (decide ((p : Int) < (B.length : Int)) && (B.getD p 0 == 0)) = true := by
  obtain ⟨h1, h2⟩ := zrB_iff.1 hz
  have h3 : B.getD p 0 = 0 := h2
  rw [h3]
  simp
  omega
theorem zr_f {B : List Int} {p : Nat} (hz : ¬ zrB B p = true) : (decide ((p : Int) < (B.length : Int)) && (B.getD p 0 == 0)) = false := by
  rw [Bool.eq_false_iff]
  intro h
  rw [Bool.and_eq_true] at h
  exact hz (zrB_iff.2 ⟨by have := of_decide_eq_true h.1; omega, by have := h.2; exact eq_of_beq this⟩)
theorem isB_drop {a : List Int} (ha : isB a) (n : Nat) : isB (a.drop n) := fun z hz => ha z (List.mem_of_mem_drop hz)
set_option maxRecDepth 4000 in
set_option maxHeartbeats 1000000 in
theorem dtl_a (B : List Int) (hB : B.length ≤ 4000000000000000000) (hi : isB B) (n : Nat) (hn16 : n ≤ 100) (z : Int) (hz0 : z = (n : Int)) (h2 : 2 ≤ B.length) (ts : List TL) (q : Nat) (h0 : rdNs aheadK B n [] 2 = some (ts, q)) : DFun Try.prog 47 [.slf 1 (B).length ((B).flatMap u8V), .val (.int .i64 z), .slf 256 0 []] [] (.tup [.arr 0, .val (.int .i64 (q : Nat))]) [.arr 29 256 (ts).length ((ts).flatMap tc)] := by
  refine dcalls_go (N := 78) 0 (by kernel_rfl) Try.func47 rfl rfl rfl (by simp only [fr0, Nat.zero_add, Nat.reduceAdd]; exact rfl) rfl fun s0 hs0 => ?_
  refine dwp_len (t := 0) rfl fun hl0 hL0 => ?_
  refine dwp_len (t := 2) rfl fun hl2 hL2 => ?_
  refine zaf ?_
  refine zad ?_
  refine zab rfl rfl rfl (zac (.inr rfl) (ev1 rfl)) ?_
  refine zab rfl rfl rfl (zac (.inr rfl) (ev1 rfl)) ?_
  refine zae ?_
  refine zaf ?_
  refine zad ?_
  refine zab rfl rfl rfl (zac (.inr rfl) (ev1 rfl)) ?_
  refine zae ?_
  refine zaf ?_
  refine zad ?_
  refine zab rfl rfl rfl (zac (.inr rfl) (ev1 rfl)) ?_
  refine zae ?_
  refine zaf ?_
  refine zaf ?_
  refine zad ?_
  refine zab rfl rfl rfl (zac (.inl rfl) (ev1 rfl)) ?_
  refine zab rfl rfl rfl (zac (.inl rfl) (ev1 rfl)) ?_
  refine zae ?_
  refine dwp_block ?_
  refine dwp_adopt 8 29 256 rfl rfl rfl ?_
  refine dwp_loopS ⟨hs0, rfl⟩ (α := List TL × Nat) (fun x => [(9, .val (.int .i64 (x.2 : Int))), (15, .val (.int .i64 (x.1.length : Int)))]) [(0, _), (2, _), (8, _), (14, _)] (fun x => [(0, .arr 29 256 (x.1).length ((x.1).flatMap tc))]) [.hole] (fun x => x.1.length ≤ n ∧ x.2 ≤ B.length ∧ rdNs aheadK B (n - x.1.length) x.1 x.2 = some (ts, q)) (fun x => n - x.1.length) ([], 2) [0] (⟨Nat.zero_le _, h2, h0⟩) rfl ⟨rfl, rfl, rfl, rfl, trivial⟩ ⟨rfl, rfl, trivial⟩ ⟨rfl, trivial⟩ ?_
  intro x hx
  simp only [upd, za, zaa, List.cons_append, List.nil_append]
  obtain ⟨us, p⟩ := x
  obtain ⟨hul, hp, hrd⟩ := hx
  dsimp only at hul hp hrd ⊢
  have hus : us.length ≤ 5000 := by omega
  refine zaf ?_
  refine zad ?_
  refine zab rfl rfl rfl (op_lss rfl (ev1 rfl) (ev1 rfl)) ?_
  refine zae ?_
  refine zaf ?_
  refine dwp_cond rfl (fun c1 => ?_) (fun c1 => ?_)
  · try simp only [yg, ya, beq_iff_eq, bne_iff_ne, yb, yc, yf, ye, yh, yi, yd, ne_eq, yj, Int.not_lt, Int.not_le] at c1
    have hlt : us.length < n := by omega
    refine dwp_skip ?_
    refine zaf ?_
    refine dwp_block ?_
    refine zaf ?_
    refine zad ?_
    refine zab rfl rfl rfl (zac (.inl rfl) (ev1 rfl)) ?_
    refine zab rfl rfl rfl (zac (.inr rfl) (ev1 rfl)) ?_
    refine zae ?_
    refine zaf ?_
    refine zah 1 (by simp only [holes, List.cons_append, List.nil_append]; exact rfl) ?_
    refine zad ?_
    refine zab rfl rfl rfl (op_build0a rfl ar29 zr29) ?_
    refine walk_w rfl rfl rfl (op_alloc 1 rfl zr29 rfl) (by simp only [upd, za, zaa]; exact rfl) ?_
    refine walk_s rfl rfl (op_stwa rfl tb29 (ev1 rfl) (ev1 rfl) rfl (tc_len _) (tc_oc _) ((tc_len _).trans (tc_len _).symm)) (by simp only [upd, za, zaa]; exact rfl) ?_
    refine zae ?_
    refine zaf ?_
    refine zaf ?_
    refine zad ?_
    refine zab rfl rfl rfl (zac (.inl rfl) (ev1 rfl)) ?_
    refine zab rfl rfl rfl (op_len rfl sl22 (ev1 rfl)) ?_
    refine zab rfl rfl rfl (op_gtr rfl (ev1 rfl) (ev1 rfl)) ?_
    refine zae ?_
    refine dwp_if_f rfl (rfl) ?_
    refine zaf ?_
    refine zad ?_
    refine zab rfl rfl rfl (zac (.inl rfl) (ev1 rfl)) ?_
    refine zab rfl rfl rfl (op_gtr rfl (ev1 rfl) (ev1 rfl)) ?_
    refine zae ?_
    refine dwp_cond rfl (fun c7 => ?_) (fun c7 => ?_)
    · try simp only [yg, ya, beq_iff_eq, bne_iff_ne, yb, yc, yf, ye, yh, yi, yd, ne_eq, yj, Int.not_lt, Int.not_le] at c7
      refine zad ?_
      refine zab rfl rfl rfl (zac (.inl rfl) (ev1 rfl)) ?_
      refine zab rfl rfl rfl (zac (.inl rfl) (ev1 rfl)) ?_
      refine zab rfl rfl rfl (op_sub' rfl (ev1 rfl) (ev1 rfl) (fun _ => IntWalk.i64_in _ (by omega))) ?_
      refine zab rfl rfl rfl (op_ixar (j := us.length - 1) rfl sl22 (ev1 rfl) (ev1 rfl) rfl (fun _ => by first | rfl | omega) (fun _ => by omega)) ?_
      refine zab rfl rfl rfl (op_ldar rfl tb29 (ev1 rfl) rfl (tc_len) (by omega)) ?_
      refine walk_s rfl rfl (op_stwa rfl tb29 (ev1 rfl) (ev1 rfl) rfl (tc_len _) (tc_oc _) ((tc_len _).trans (tc_len _).symm)) (by simp only [upd, za, zaa]; exact rfl) ?_
      refine zae ?_
      refine zaf ?_
      refine zaf ?_
      by_cases hz : zrB B p = true
      · refine dwp_eqB 1 (show Blk.flat 29 (tc (us[us.length - 1])) = .flat 29 (tc (aheadK us)) from by rw [aheadK_at (by omega)]) rfl (by simp only [List.cons_append, List.nil_append, za, zaa]; exact rfl) ?_
        refine zad ?_
        refine zab rfl rfl rfl (zac (.inl rfl) (ev1 rfl)) ?_
        refine zab rfl rfl rfl (zac (.inl rfl) (ev1 rfl)) ?_
        refine zab rfl rfl rfl (op_len rfl sl23 (ev1 rfl)) ?_
        refine zab rfl rfl rfl (op_lss rfl (ev1 rfl) (ev1 rfl)) ?_
        refine zab rfl rfl rfl (zac (.inl rfl) (ev1 rfl)) ?_
        refine zai (gd_t rfl rfl rfl) rfl rfl rfl (zac (.inl rfl) (ev1 rfl)) ?_
        refine zai (gd_t rfl rfl rfl) rfl rfl rfl (zac (.inl rfl) (ev1 rfl)) ?_
        refine zai (gd_t rfl rfl rfl) rfl rfl rfl (op_ixsg (j := p) ((0 : Int)) rfl sl23 (ev2 rfl) (ev2 rfl) (fun _ => rfl) (by decide) (fun hp => by first | omega | (simp at hp; omega)) (fun hp => by first | omega | (simp at hp; omega))) ?_
        refine zai (gd_t rfl rfl rfl) rfl rfl rfl (op_ldod rfl tb5 (ev2 rfl) rfl) ?_
        refine zai (gd_t rfl rfl rfl) rfl rfl rfl (op_eql rfl (ev2 rfl) (ev1 rfl)) ?_
        refine zab rfl rfl rfl (op_and rfl (ev1 rfl) (ev3 rfl id)) ?_
        refine zae ?_
        refine dwp_if_t rfl (zr_t hz) ?_
        refine zaf ?_
        refine zah 2 (by simp only [holes, List.cons_append, List.nil_append]; exact rfl) ?_
        refine zad ?_
        refine zab rfl rfl rfl (zac (.inl rfl) (ev1 rfl)) ?_
        refine zab rfl rfl rfl (op_ldw rfl tb29 (ev1 rfl) rfl (tc_len _)) ?_
        refine walk_w rfl rfl rfl (op_bsa (ps := [(0, .tmp 45)]) 2 rfl sl22 zr29 rfl (vc (ev1 rfl) vn) (tc_sz _) (by decide) (by decide) rfl) (by simp only [upd, za, zaa]; exact rfl) ?_
        refine walk_w rfl rfl rfl (op_app (j := 3) rfl sl22 zr29 rfl (ev1 rfl) (ev1 rfl) (src_arr rfl) rfl rfl (fun _ => tc_oc1 _) (fun _ => ⟨by omega, by omega⟩)) (by simp only [upd, za, zaa]; exact rfl) ?_
        refine zab rfl rfl rfl (zac (.inr rfl) (ev1 rfl)) ?_
        refine zae ?_
        refine zaf ?_
        refine zad ?_
        refine zab rfl rfl rfl (zac (.inl rfl) (ev1 rfl)) ?_
        refine zab rfl rfl rfl (op_add' rfl (ev1 rfl) (ev1 rfl) (fun _ => IntWalk.i64_in _ (by omega))) ?_
        refine zab rfl rfl rfl (zac (.inr rfl) (ev1 rfl)) ?_
        refine zae ?_
        refine dwp_exit ?_
        refine zad ?_
        refine zab rfl rfl rfl (op_add' rfl (ev1 rfl) (ev1 rfl) (fun _ => IntWalk.i64_in _ (by omega))) ?_
        refine zab rfl rfl rfl (zac (.inl rfl) (ev1 rfl)) ?_
        refine zae ?_
        refine ⟨(us ++ [aheadK us], p + 1), [3], ⟨by rw [List.length_append]; exact hlt, (zrB_iff.1 hz).1, by rw [List.length_append]; exact rdNs_z (n := n - us.length) (by omega) hz hrd⟩, by simp only [List.length_append, List.length_cons, List.length_nil]; omega, rfl, ⟨rfl, by rw [List.length_append]; rfl, rfl, rfl, rfl, rfl, trivial⟩, ⟨arr_eq (by rw [List.length_append]; rfl) (tk_app us _), trivial⟩⟩
      · refine dwp_eqB 1 (show Blk.flat 29 (tc (us[us.length - 1])) = .flat 29 (tc (aheadK us)) from by rw [aheadK_at (by omega)]) rfl (by simp only [List.cons_append, List.nil_append, za, zaa]; exact rfl) ?_
        refine zad ?_
        refine zab rfl rfl rfl (zac (.inl rfl) (ev1 rfl)) ?_
        refine zab rfl rfl rfl (zac (.inl rfl) (ev1 rfl)) ?_
        refine zab rfl rfl rfl (op_len rfl sl23 (ev1 rfl)) ?_
        refine zab rfl rfl rfl (op_lss rfl (ev1 rfl) (ev1 rfl)) ?_
        refine zab rfl rfl rfl (zac (.inl rfl) (ev1 rfl)) ?_
        refine zai (gd_t rfl rfl rfl) rfl rfl rfl (zac (.inl rfl) (ev1 rfl)) ?_
        refine zai (gd_t rfl rfl rfl) rfl rfl rfl (zac (.inl rfl) (ev1 rfl)) ?_
        refine zai (gd_t rfl rfl rfl) rfl rfl rfl (op_ixsg (j := p) ((0 : Int)) rfl sl23 (ev2 rfl) (ev2 rfl) (fun _ => rfl) (by decide) (fun hp => by first | omega | (simp at hp; omega)) (fun hp => by first | omega | (simp at hp; omega))) ?_
        refine zai (gd_t rfl rfl rfl) rfl rfl rfl (op_ldod rfl tb5 (ev2 rfl) rfl) ?_
        refine zai (gd_t rfl rfl rfl) rfl rfl rfl (op_eql rfl (ev2 rfl) (ev1 rfl)) ?_
        refine zab rfl rfl rfl (op_and rfl (ev1 rfl) (ev3 rfl id)) ?_
        refine zae ?_
        refine dwp_if_f rfl (zr_f hz) ?_
        refine dwp_skip ?_
        refine zaf ?_
        refine zaf ?_
        refine zad ?_
        refine zab rfl rfl rfl (zac (.inl rfl) (ev1 rfl)) ?_
        refine zab rfl rfl rfl (zac (.inl rfl) (ev1 rfl)) ?_
        refine zab rfl rfl rfl (op_len rfl sl23 (ev1 rfl)) ?_
        refine zab rfl rfl rfl (op_gtr rfl (ev1 rfl) (ev1 rfl)) ?_
        refine zae ?_
        refine dwp_if_f rfl (by simp; omega) ?_
        refine dwp_skip ?_
        refine zaf ?_
        obtain ⟨l, q1, hl0, hne⟩ := rdNs_some (n := n - us.length) (by omega) hz hrd
        have hlt2 := rdN_lt hl0
        have hqp : p + (q1 - p) = q1 := by omega
        have hle2 := (rdN_le hl0).1
        have hld : rdN (B.drop p) 0 = some (l, q1 - p) := by rw [rdN_drop hp, hl0]; rfl
        refine zah 1 (by simp only [holes, List.cons_append, List.nil_append]; exact rfl) ?_
        refine zad ?_
        refine zab rfl rfl rfl (zac (.inl rfl) (ev1 rfl)) ?_
        refine zab rfl rfl rfl (zac (.inl rfl) (ev1 rfl)) ?_
        refine zab rfl rfl rfl (op_sldr (i := p) rfl sl23 (ev1 rfl) (bd_some (ev1 rfl)) (fun _ => by omega) (fun _ => by omega) (fun _ => rfl)) ?_
        refine zab rfl rfl rfl (zaj [] [] [] rfl (ev1 rfl) (ec (ev1 rfl) en) rfl rfl (rdd_y (B.drop p) (by rw [List.length_drop]; omega) (isB_drop hi p) l (q1 - p) hld) rfl rfl rfl rfl rfl rfl) ?_
        refine zab rfl rfl rfl (zac (.inl rfl) (ev1 rfl)) ?_
        refine zab rfl rfl rfl (op_ext rfl (ev1 rfl) rfl) ?_
        refine zab rfl rfl rfl (op_ext rfl (ev1 rfl) rfl) ?_
        refine walk_w rfl rfl rfl (op_alloc 2 rfl zr29 rfl) (by simp only [upd, za, zaa]; exact rfl) ?_
        refine walk_s rfl rfl (op_stwa rfl tb29 (ev1 rfl) (ev1 rfl) rfl (tc_len _) (tc_oc _) ((tc_len _).trans (tc_len _).symm)) (by simp only [upd, za, zaa]; exact rfl) ?_
        refine zab rfl rfl rfl (zac (.inr rfl) (ev1 rfl)) ?_
        refine zae ?_
        refine zaf ?_
        refine zaf ?_
        refine zad ?_
        refine zab rfl rfl rfl (zac (.inl rfl) (ev1 rfl)) ?_
        refine zab rfl rfl rfl (op_eql rfl (ev1 rfl) (ev1 rfl)) ?_
        refine zab rfl rfl rfl (zac (.inl rfl) (ev1 rfl)) ?_
        refine zai (gd_f rfl rfl rfl) rfl rfl rfl (op_ldw rfl tb29 (ev1 rfl) rfl (tc_len _)) ?_
        refine zai (gd_f rfl rfl rfl) rfl rfl rfl (op_ldw rfl tb29 (ev1 rfl) rfl (tc_len _)) ?_
        refine zai (gd_f rfl rfl rfl) rfl rfl rfl (op_eqr eq29 rfl gd29 tb29 (ev2 rfl) (ev2 rfl)) ?_
        refine zab rfl rfl rfl (op_or rfl (ev1 rfl) (ev3 rfl id)) ?_
        refine zae ?_
        refine dwp_if_f rfl (by simp [hne]; omega) ?_
        refine dwp_skip ?_
        refine zaf ?_
        refine zah 2 (by simp only [holes, List.cons_append, List.nil_append]; exact rfl) ?_
        refine zad ?_
        refine zab rfl rfl rfl (zac (.inl rfl) (ev1 rfl)) ?_
        refine zab rfl rfl rfl (op_ldw rfl tb29 (ev1 rfl) rfl (tc_len _)) ?_
        refine walk_w rfl rfl rfl (op_bsa (ps := [(0, .tmp 69)]) 3 rfl sl22 zr29 rfl (vc (ev1 rfl) vn) (tc_sz _) (by decide) (by decide) rfl) (by simp only [upd, za, zaa]; exact rfl) ?_
        refine walk_w rfl rfl rfl (op_app (j := 4) rfl sl22 zr29 rfl (ev1 rfl) (ev1 rfl) (src_arr rfl) rfl rfl (fun _ => tc_oc1 _) (fun _ => ⟨by omega, by omega⟩)) (by simp only [upd, za, zaa]; exact rfl) ?_
        refine zab rfl rfl rfl (zac (.inr rfl) (ev1 rfl)) ?_
        refine zae ?_
        refine zad ?_
        refine zab rfl rfl rfl (zac (.inl rfl) (ev1 rfl)) ?_
        refine zab rfl rfl rfl (zac (.inl rfl) (ev1 rfl)) ?_
        refine zab rfl rfl rfl (op_add' rfl (ev1 rfl) (ev1 rfl) (fun _ => IntWalk.i64_in _ (by omega))) ?_
        refine zab rfl rfl rfl (zac (.inr rfl) (ev1 rfl)) ?_
        refine zae ?_
        refine zad ?_
        refine zab rfl rfl rfl (op_add' rfl (ev1 rfl) (ev1 rfl) (fun _ => IntWalk.i64_in _ (by omega))) ?_
        refine zab rfl rfl rfl (zac (.inl rfl) (ev1 rfl)) ?_
        refine zae ?_
        refine ⟨(us ++ [padT l], q1), [4], ⟨by rw [List.length_append]; exact hlt, (rdN_le hl0).1, by rw [List.length_append]; exact rdNs_t (n := n - us.length) (by omega) hz hl0 hne hrd⟩, by simp only [List.length_append, List.length_cons, List.length_nil]; omega, rfl, ⟨congrArg (fun z => some (D.val (.int .i64 z))) (show (p : Int) + ((q1 - p : Nat) : Int) = (q1 : Int) by omega), by rw [List.length_append]; rfl, rfl, rfl, rfl, rfl, trivial⟩, ⟨arr_eq (by rw [List.length_append]; rfl) (tk_app us _), trivial⟩⟩
    · try simp only [yg, ya, beq_iff_eq, bne_iff_ne, yb, yc, yf, ye, yh, yi, yd, ne_eq, yj, Int.not_lt, Int.not_le] at c7
      refine dwp_skip ?_
      refine zaf ?_
      refine zaf ?_
      by_cases hz : zrB B p = true
      · refine dwp_eqB 1 (show .flat 29 (tc zT) = .flat 29 (tc (aheadK us)) from by rw [show us = [] from List.eq_nil_of_length_eq_zero (by omega)]; rfl) rfl (by simp only [List.cons_append, List.nil_append, za, zaa]; exact rfl) ?_
        refine zad ?_
        refine zab rfl rfl rfl (zac (.inl rfl) (ev1 rfl)) ?_
        refine zab rfl rfl rfl (zac (.inl rfl) (ev1 rfl)) ?_
        refine zab rfl rfl rfl (op_len rfl sl23 (ev1 rfl)) ?_
        refine zab rfl rfl rfl (op_lss rfl (ev1 rfl) (ev1 rfl)) ?_
        refine zab rfl rfl rfl (zac (.inl rfl) (ev1 rfl)) ?_
        refine zai (gd_t rfl rfl rfl) rfl rfl rfl (zac (.inl rfl) (ev1 rfl)) ?_
        refine zai (gd_t rfl rfl rfl) rfl rfl rfl (zac (.inl rfl) (ev1 rfl)) ?_
        refine zai (gd_t rfl rfl rfl) rfl rfl rfl (op_ixsg (j := p) ((0 : Int)) rfl sl23 (ev2 rfl) (ev2 rfl) (fun _ => rfl) (by decide) (fun hp => by first | omega | (simp at hp; omega)) (fun hp => by first | omega | (simp at hp; omega))) ?_
        refine zai (gd_t rfl rfl rfl) rfl rfl rfl (op_ldod rfl tb5 (ev2 rfl) rfl) ?_
        refine zai (gd_t rfl rfl rfl) rfl rfl rfl (op_eql rfl (ev2 rfl) (ev1 rfl)) ?_
        refine zab rfl rfl rfl (op_and rfl (ev1 rfl) (ev3 rfl id)) ?_
        refine zae ?_
        refine dwp_if_t rfl (zr_t hz) ?_
        refine zaf ?_
        refine zah 2 (by simp only [holes, List.cons_append, List.nil_append]; exact rfl) ?_
        refine zad ?_
        refine zab rfl rfl rfl (zac (.inl rfl) (ev1 rfl)) ?_
        refine zab rfl rfl rfl (op_ldw rfl tb29 (ev1 rfl) rfl (tc_len _)) ?_
        refine walk_w rfl rfl rfl (op_bsa (ps := [(0, .tmp 45)]) 2 rfl sl22 zr29 rfl (vc (ev1 rfl) vn) (tc_sz _) (by decide) (by decide) rfl) (by simp only [upd, za, zaa]; exact rfl) ?_
        refine walk_w rfl rfl rfl (op_app (j := 3) rfl sl22 zr29 rfl (ev1 rfl) (ev1 rfl) (src_arr rfl) rfl rfl (fun _ => tc_oc1 _) (fun _ => ⟨by omega, by omega⟩)) (by simp only [upd, za, zaa]; exact rfl) ?_
        refine zab rfl rfl rfl (zac (.inr rfl) (ev1 rfl)) ?_
        refine zae ?_
        refine zaf ?_
        refine zad ?_
        refine zab rfl rfl rfl (zac (.inl rfl) (ev1 rfl)) ?_
        refine zab rfl rfl rfl (op_add' rfl (ev1 rfl) (ev1 rfl) (fun _ => IntWalk.i64_in _ (by omega))) ?_
        refine zab rfl rfl rfl (zac (.inr rfl) (ev1 rfl)) ?_
        refine zae ?_
        refine dwp_exit ?_
        refine zad ?_
        refine zab rfl rfl rfl (op_add' rfl (ev1 rfl) (ev1 rfl) (fun _ => IntWalk.i64_in _ (by omega))) ?_
        refine zab rfl rfl rfl (zac (.inl rfl) (ev1 rfl)) ?_
        refine zae ?_
        refine ⟨(us ++ [aheadK us], p + 1), [3], ⟨by rw [List.length_append]; exact hlt, (zrB_iff.1 hz).1, by rw [List.length_append]; exact rdNs_z (n := n - us.length) (by omega) hz hrd⟩, by simp only [List.length_append, List.length_cons, List.length_nil]; omega, rfl, ⟨rfl, by rw [List.length_append]; rfl, rfl, rfl, rfl, rfl, trivial⟩, ⟨arr_eq (by rw [List.length_append]; rfl) (tk_app us _), trivial⟩⟩
      · refine dwp_eqB 1 (show .flat 29 (tc zT) = .flat 29 (tc (aheadK us)) from by rw [show us = [] from List.eq_nil_of_length_eq_zero (by omega)]; rfl) rfl (by simp only [List.cons_append, List.nil_append, za, zaa]; exact rfl) ?_
        refine zad ?_
        refine zab rfl rfl rfl (zac (.inl rfl) (ev1 rfl)) ?_
        refine zab rfl rfl rfl (zac (.inl rfl) (ev1 rfl)) ?_
        refine zab rfl rfl rfl (op_len rfl sl23 (ev1 rfl)) ?_
        refine zab rfl rfl rfl (op_lss rfl (ev1 rfl) (ev1 rfl)) ?_
        refine zab rfl rfl rfl (zac (.inl rfl) (ev1 rfl)) ?_
        refine zai (gd_t rfl rfl rfl) rfl rfl rfl (zac (.inl rfl) (ev1 rfl)) ?_
        refine zai (gd_t rfl rfl rfl) rfl rfl rfl (zac (.inl rfl) (ev1 rfl)) ?_
        refine zai (gd_t rfl rfl rfl) rfl rfl rfl (op_ixsg (j := p) ((0 : Int)) rfl sl23 (ev2 rfl) (ev2 rfl) (fun _ => rfl) (by decide) (fun hp => by first | omega | (simp at hp; omega)) (fun hp => by first | omega | (simp at hp; omega))) ?_
        refine zai (gd_t rfl rfl rfl) rfl rfl rfl (op_ldod rfl tb5 (ev2 rfl) rfl) ?_
        refine zai (gd_t rfl rfl rfl) rfl rfl rfl (op_eql rfl (ev2 rfl) (ev1 rfl)) ?_
        refine zab rfl rfl rfl (op_and rfl (ev1 rfl) (ev3 rfl id)) ?_
        refine zae ?_
        refine dwp_if_f rfl (zr_f hz) ?_
        refine dwp_skip ?_
        refine zaf ?_
        refine zaf ?_
        refine zad ?_
        refine zab rfl rfl rfl (zac (.inl rfl) (ev1 rfl)) ?_
        refine zab rfl rfl rfl (zac (.inl rfl) (ev1 rfl)) ?_
        refine zab rfl rfl rfl (op_len rfl sl23 (ev1 rfl)) ?_
        refine zab rfl rfl rfl (op_gtr rfl (ev1 rfl) (ev1 rfl)) ?_
        refine zae ?_
        refine dwp_if_f rfl (by simp; omega) ?_
        refine dwp_skip ?_
        refine zaf ?_
        obtain ⟨l, q1, hl0, hne⟩ := rdNs_some (n := n - us.length) (by omega) hz hrd
        have hlt2 := rdN_lt hl0
        have hqp : p + (q1 - p) = q1 := by omega
        have hle2 := (rdN_le hl0).1
        have hld : rdN (B.drop p) 0 = some (l, q1 - p) := by rw [rdN_drop hp, hl0]; rfl
        refine zah 1 (by simp only [holes, List.cons_append, List.nil_append]; exact rfl) ?_
        refine zad ?_
        refine zab rfl rfl rfl (zac (.inl rfl) (ev1 rfl)) ?_
        refine zab rfl rfl rfl (zac (.inl rfl) (ev1 rfl)) ?_
        refine zab rfl rfl rfl (op_sldr (i := p) rfl sl23 (ev1 rfl) (bd_some (ev1 rfl)) (fun _ => by omega) (fun _ => by omega) (fun _ => rfl)) ?_
        refine zab rfl rfl rfl (zaj [] [] [] rfl (ev1 rfl) (ec (ev1 rfl) en) rfl rfl (rdd_y (B.drop p) (by rw [List.length_drop]; omega) (isB_drop hi p) l (q1 - p) hld) rfl rfl rfl rfl rfl rfl) ?_
        refine zab rfl rfl rfl (zac (.inl rfl) (ev1 rfl)) ?_
        refine zab rfl rfl rfl (op_ext rfl (ev1 rfl) rfl) ?_
        refine zab rfl rfl rfl (op_ext rfl (ev1 rfl) rfl) ?_
        refine walk_w rfl rfl rfl (op_alloc 2 rfl zr29 rfl) (by simp only [upd, za, zaa]; exact rfl) ?_
        refine walk_s rfl rfl (op_stwa rfl tb29 (ev1 rfl) (ev1 rfl) rfl (tc_len _) (tc_oc _) ((tc_len _).trans (tc_len _).symm)) (by simp only [upd, za, zaa]; exact rfl) ?_
        refine zab rfl rfl rfl (zac (.inr rfl) (ev1 rfl)) ?_
        refine zae ?_
        refine zaf ?_
        refine zaf ?_
        refine zad ?_
        refine zab rfl rfl rfl (zac (.inl rfl) (ev1 rfl)) ?_
        refine zab rfl rfl rfl (op_eql rfl (ev1 rfl) (ev1 rfl)) ?_
        refine zab rfl rfl rfl (zac (.inl rfl) (ev1 rfl)) ?_
        refine zai (gd_f rfl rfl rfl) rfl rfl rfl (op_ldw rfl tb29 (ev1 rfl) rfl (tc_len _)) ?_
        refine zai (gd_f rfl rfl rfl) rfl rfl rfl (op_ldw rfl tb29 (ev1 rfl) rfl (tc_len _)) ?_
        refine zai (gd_f rfl rfl rfl) rfl rfl rfl (op_eqr eq29 rfl gd29 tb29 (ev2 rfl) (ev2 rfl)) ?_
        refine zab rfl rfl rfl (op_or rfl (ev1 rfl) (ev3 rfl id)) ?_
        refine zae ?_
        refine dwp_if_f rfl (by simp [hne]; omega) ?_
        refine dwp_skip ?_
        refine zaf ?_
        refine zah 2 (by simp only [holes, List.cons_append, List.nil_append]; exact rfl) ?_
        refine zad ?_
        refine zab rfl rfl rfl (zac (.inl rfl) (ev1 rfl)) ?_
        refine zab rfl rfl rfl (op_ldw rfl tb29 (ev1 rfl) rfl (tc_len _)) ?_
        refine walk_w rfl rfl rfl (op_bsa (ps := [(0, .tmp 69)]) 3 rfl sl22 zr29 rfl (vc (ev1 rfl) vn) (tc_sz _) (by decide) (by decide) rfl) (by simp only [upd, za, zaa]; exact rfl) ?_
        refine walk_w rfl rfl rfl (op_app (j := 4) rfl sl22 zr29 rfl (ev1 rfl) (ev1 rfl) (src_arr rfl) rfl rfl (fun _ => tc_oc1 _) (fun _ => ⟨by omega, by omega⟩)) (by simp only [upd, za, zaa]; exact rfl) ?_
        refine zab rfl rfl rfl (zac (.inr rfl) (ev1 rfl)) ?_
        refine zae ?_
        refine zad ?_
        refine zab rfl rfl rfl (zac (.inl rfl) (ev1 rfl)) ?_
        refine zab rfl rfl rfl (zac (.inl rfl) (ev1 rfl)) ?_
        refine zab rfl rfl rfl (op_add' rfl (ev1 rfl) (ev1 rfl) (fun _ => IntWalk.i64_in _ (by omega))) ?_
        refine zab rfl rfl rfl (zac (.inr rfl) (ev1 rfl)) ?_
        refine zae ?_
        refine zad ?_
        refine zab rfl rfl rfl (op_add' rfl (ev1 rfl) (ev1 rfl) (fun _ => IntWalk.i64_in _ (by omega))) ?_
        refine zab rfl rfl rfl (zac (.inl rfl) (ev1 rfl)) ?_
        refine zae ?_
        refine ⟨(us ++ [padT l], q1), [4], ⟨by rw [List.length_append]; exact hlt, (rdN_le hl0).1, by rw [List.length_append]; exact rdNs_t (n := n - us.length) (by omega) hz hl0 hne hrd⟩, by simp only [List.length_append, List.length_cons, List.length_nil]; omega, rfl, ⟨congrArg (fun z => some (D.val (.int .i64 z))) (show (p : Int) + ((q1 - p : Nat) : Int) = (q1 : Int) by omega), by rw [List.length_append]; rfl, rfl, rfl, rfl, rfl, trivial⟩, ⟨arr_eq (by rw [List.length_append]; rfl) (tk_app us _), trivial⟩⟩
  · try simp only [yg, ya, beq_iff_eq, bne_iff_ne, yb, yc, yf, ye, yh, yi, yd, ne_eq, yj, Int.not_lt, Int.not_le] at c1
    refine dwp_exit ?_
    refine zaf ?_
    refine zad ?_
    refine zab rfl rfl rfl (zac (.inl rfl) (ev1 rfl)) ?_
    refine zab rfl rfl rfl (zac (.inl rfl) (ev1 rfl)) ?_
    refine zab rfl rfl rfl (zac (.inr rfl) (ev1 rfl)) ?_
    refine zab rfl rfl rfl (zac (.inr rfl) (ev1 rfl)) ?_
    refine zae ?_
    refine dwp_ret ?_
    have e0 : n - us.length = 0 := by omega
    rw [e0] at hrd
    have hrd2 : some (us, p) = some (ts, q) := hrd
    cases hrd2
    refine kend [0] (rs2 rfl (rv_t rfl) (rv_t rfl)) rfl rfl ?_ ⟨rfl, trivial⟩
    rfl
theorem dtl_af (B : List Int) (hB : B.length ≤ 4000000000000000000) (hi : isB B) (n : Nat) (hn16 : n ≤ 100) (z : Int) (hz0 : z = (n : Int)) (h2 : 2 ≤ B.length) (ts : List TL) (q : Nat) (h0 : rdNs aheadK B n [] 2 = some (ts, q)) : DFun Try.prog 47 [.slf 1 (B).length ((B).flatMap u8V), .val (.int .i64 z), .slf 256 0 []] [] (.tup [.slf 256 ts.length (ts.flatMap tc), .val (.int .i64 (q : Nat))]) [] := freeze (dtl_a B hB hi n hn16 z hz0 h2 ts q h0) rfl
set_option maxRecDepth 4000 in
set_option maxHeartbeats 1000000 in
theorem dtl_an (B : List Int) (hB : B.length ≤ 4000000000000000000) (hi : isB B) (n : Nat) (hn16 : n ≤ 100) (z : Int) (hz0 : z = (n : Int)) (h2 : 2 ≤ B.length) (h0 : rdNs aheadK B n [] 2 = none) : DFun Try.prog 47 [.slf 1 (B).length ((B).flatMap u8V), .val (.int .i64 z), .slf 256 0 []] [] (.tup [.val (.slice none 0 0), .val (.int .i64 0)]) [] := by
  refine dcalls_go (N := 78) 0 (by kernel_rfl) Try.func47 rfl rfl rfl (by simp only [fr0, Nat.zero_add, Nat.reduceAdd]; exact rfl) rfl fun s0 hs0 => ?_
  refine dwp_len (t := 0) rfl fun hl0 hL0 => ?_
  refine dwp_len (t := 2) rfl fun hl2 hL2 => ?_
  refine zaf ?_
  refine zad ?_
  refine zab rfl rfl rfl (zac (.inr rfl) (ev1 rfl)) ?_
  refine zab rfl rfl rfl (zac (.inr rfl) (ev1 rfl)) ?_
  refine zae ?_
  refine zaf ?_
  refine zad ?_
  refine zab rfl rfl rfl (zac (.inr rfl) (ev1 rfl)) ?_
  refine zae ?_
  refine zaf ?_
  refine zad ?_
  refine zab rfl rfl rfl (zac (.inr rfl) (ev1 rfl)) ?_
  refine zae ?_
  refine zaf ?_
  refine zaf ?_
  refine zad ?_
  refine zab rfl rfl rfl (zac (.inl rfl) (ev1 rfl)) ?_
  refine zab rfl rfl rfl (zac (.inl rfl) (ev1 rfl)) ?_
  refine zae ?_
  refine dwp_block ?_
  refine dwp_adopt 8 29 256 rfl rfl rfl ?_
  refine dwp_loopS ⟨hs0, rfl⟩ (α := List TL × Nat) (fun x => [(9, .val (.int .i64 (x.2 : Int))), (15, .val (.int .i64 (x.1.length : Int)))]) [(0, _), (2, _), (8, _), (14, _)] (fun x => [(0, .arr 29 256 (x.1).length ((x.1).flatMap tc))]) [.hole] (fun x => x.1.length ≤ n ∧ x.2 ≤ B.length ∧ rdNs aheadK B (n - x.1.length) x.1 x.2 = none) (fun x => n - x.1.length) ([], 2) [0] (⟨Nat.zero_le _, h2, h0⟩) rfl ⟨rfl, rfl, rfl, rfl, trivial⟩ ⟨rfl, rfl, trivial⟩ ⟨rfl, trivial⟩ ?_
  intro x hx
  simp only [upd, za, zaa, List.cons_append, List.nil_append]
  obtain ⟨us, p⟩ := x
  obtain ⟨hul, hp, hrd⟩ := hx
  dsimp only at hul hp hrd ⊢
  have hus : us.length ≤ 5000 := by omega
  refine zaf ?_
  refine zad ?_
  refine zab rfl rfl rfl (op_lss rfl (ev1 rfl) (ev1 rfl)) ?_
  refine zae ?_
  refine zaf ?_
  refine dwp_cond rfl (fun c1 => ?_) (fun c1 => ?_)
  · try simp only [yg, ya, beq_iff_eq, bne_iff_ne, yb, yc, yf, ye, yh, yi, yd, ne_eq, yj, Int.not_lt, Int.not_le] at c1
    have hlt : us.length < n := by omega
    refine dwp_skip ?_
    refine zaf ?_
    refine dwp_block ?_
    refine zaf ?_
    refine zad ?_
    refine zab rfl rfl rfl (zac (.inl rfl) (ev1 rfl)) ?_
    refine zab rfl rfl rfl (zac (.inr rfl) (ev1 rfl)) ?_
    refine zae ?_
    refine zaf ?_
    refine zah 1 (by simp only [holes, List.cons_append, List.nil_append]; exact rfl) ?_
    refine zad ?_
    refine zab rfl rfl rfl (op_build0a rfl ar29 zr29) ?_
    refine walk_w rfl rfl rfl (op_alloc 1 rfl zr29 rfl) (by simp only [upd, za, zaa]; exact rfl) ?_
    refine walk_s rfl rfl (op_stwa rfl tb29 (ev1 rfl) (ev1 rfl) rfl (tc_len _) (tc_oc _) ((tc_len _).trans (tc_len _).symm)) (by simp only [upd, za, zaa]; exact rfl) ?_
    refine zae ?_
    refine zaf ?_
    refine zaf ?_
    refine zad ?_
    refine zab rfl rfl rfl (zac (.inl rfl) (ev1 rfl)) ?_
    refine zab rfl rfl rfl (op_len rfl sl22 (ev1 rfl)) ?_
    refine zab rfl rfl rfl (op_gtr rfl (ev1 rfl) (ev1 rfl)) ?_
    refine zae ?_
    refine dwp_if_f rfl (rfl) ?_
    refine zaf ?_
    refine zad ?_
    refine zab rfl rfl rfl (zac (.inl rfl) (ev1 rfl)) ?_
    refine zab rfl rfl rfl (op_gtr rfl (ev1 rfl) (ev1 rfl)) ?_
    refine zae ?_
    refine dwp_cond rfl (fun c7 => ?_) (fun c7 => ?_)
    · try simp only [yg, ya, beq_iff_eq, bne_iff_ne, yb, yc, yf, ye, yh, yi, yd, ne_eq, yj, Int.not_lt, Int.not_le] at c7
      refine zad ?_
      refine zab rfl rfl rfl (zac (.inl rfl) (ev1 rfl)) ?_
      refine zab rfl rfl rfl (zac (.inl rfl) (ev1 rfl)) ?_
      refine zab rfl rfl rfl (op_sub' rfl (ev1 rfl) (ev1 rfl) (fun _ => IntWalk.i64_in _ (by omega))) ?_
      refine zab rfl rfl rfl (op_ixar (j := us.length - 1) rfl sl22 (ev1 rfl) (ev1 rfl) rfl (fun _ => by first | rfl | omega) (fun _ => by omega)) ?_
      refine zab rfl rfl rfl (op_ldar rfl tb29 (ev1 rfl) rfl (tc_len) (by omega)) ?_
      refine walk_s rfl rfl (op_stwa rfl tb29 (ev1 rfl) (ev1 rfl) rfl (tc_len _) (tc_oc _) ((tc_len _).trans (tc_len _).symm)) (by simp only [upd, za, zaa]; exact rfl) ?_
      refine zae ?_
      refine zaf ?_
      refine zaf ?_
      by_cases hz : zrB B p = true
      · refine dwp_eqB 1 (show Blk.flat 29 (tc (us[us.length - 1])) = .flat 29 (tc (aheadK us)) from by rw [aheadK_at (by omega)]) rfl (by simp only [List.cons_append, List.nil_append, za, zaa]; exact rfl) ?_
        refine zad ?_
        refine zab rfl rfl rfl (zac (.inl rfl) (ev1 rfl)) ?_
        refine zab rfl rfl rfl (zac (.inl rfl) (ev1 rfl)) ?_
        refine zab rfl rfl rfl (op_len rfl sl23 (ev1 rfl)) ?_
        refine zab rfl rfl rfl (op_lss rfl (ev1 rfl) (ev1 rfl)) ?_
        refine zab rfl rfl rfl (zac (.inl rfl) (ev1 rfl)) ?_
        refine zai (gd_t rfl rfl rfl) rfl rfl rfl (zac (.inl rfl) (ev1 rfl)) ?_
        refine zai (gd_t rfl rfl rfl) rfl rfl rfl (zac (.inl rfl) (ev1 rfl)) ?_
        refine zai (gd_t rfl rfl rfl) rfl rfl rfl (op_ixsg (j := p) ((0 : Int)) rfl sl23 (ev2 rfl) (ev2 rfl) (fun _ => rfl) (by decide) (fun hp => by first | omega | (simp at hp; omega)) (fun hp => by first | omega | (simp at hp; omega))) ?_
        refine zai (gd_t rfl rfl rfl) rfl rfl rfl (op_ldod rfl tb5 (ev2 rfl) rfl) ?_
        refine zai (gd_t rfl rfl rfl) rfl rfl rfl (op_eql rfl (ev2 rfl) (ev1 rfl)) ?_
        refine zab rfl rfl rfl (op_and rfl (ev1 rfl) (ev3 rfl id)) ?_
        refine zae ?_
        refine dwp_if_t rfl (zr_t hz) ?_
        refine zaf ?_
        refine zah 2 (by simp only [holes, List.cons_append, List.nil_append]; exact rfl) ?_
        refine zad ?_
        refine zab rfl rfl rfl (zac (.inl rfl) (ev1 rfl)) ?_
        refine zab rfl rfl rfl (op_ldw rfl tb29 (ev1 rfl) rfl (tc_len _)) ?_
        refine walk_w rfl rfl rfl (op_bsa (ps := [(0, .tmp 45)]) 2 rfl sl22 zr29 rfl (vc (ev1 rfl) vn) (tc_sz _) (by decide) (by decide) rfl) (by simp only [upd, za, zaa]; exact rfl) ?_
        refine walk_w rfl rfl rfl (op_app (j := 3) rfl sl22 zr29 rfl (ev1 rfl) (ev1 rfl) (src_arr rfl) rfl rfl (fun _ => tc_oc1 _) (fun _ => ⟨by omega, by omega⟩)) (by simp only [upd, za, zaa]; exact rfl) ?_
        refine zab rfl rfl rfl (zac (.inr rfl) (ev1 rfl)) ?_
        refine zae ?_
        refine zaf ?_
        refine zad ?_
        refine zab rfl rfl rfl (zac (.inl rfl) (ev1 rfl)) ?_
        refine zab rfl rfl rfl (op_add' rfl (ev1 rfl) (ev1 rfl) (fun _ => IntWalk.i64_in _ (by omega))) ?_
        refine zab rfl rfl rfl (zac (.inr rfl) (ev1 rfl)) ?_
        refine zae ?_
        refine dwp_exit ?_
        refine zad ?_
        refine zab rfl rfl rfl (op_add' rfl (ev1 rfl) (ev1 rfl) (fun _ => IntWalk.i64_in _ (by omega))) ?_
        refine zab rfl rfl rfl (zac (.inl rfl) (ev1 rfl)) ?_
        refine zae ?_
        refine ⟨(us ++ [aheadK us], p + 1), [3], ⟨by rw [List.length_append]; exact hlt, (zrB_iff.1 hz).1, by rw [List.length_append]; exact rdNs_z (n := n - us.length) (by omega) hz hrd⟩, by simp only [List.length_append, List.length_cons, List.length_nil]; omega, rfl, ⟨rfl, by rw [List.length_append]; rfl, rfl, rfl, rfl, rfl, trivial⟩, ⟨arr_eq (by rw [List.length_append]; rfl) (tk_app us _), trivial⟩⟩
      · refine dwp_eqB 1 (show Blk.flat 29 (tc (us[us.length - 1])) = .flat 29 (tc (aheadK us)) from by rw [aheadK_at (by omega)]) rfl (by simp only [List.cons_append, List.nil_append, za, zaa]; exact rfl) ?_
        refine zad ?_
        refine zab rfl rfl rfl (zac (.inl rfl) (ev1 rfl)) ?_
        refine zab rfl rfl rfl (zac (.inl rfl) (ev1 rfl)) ?_
        refine zab rfl rfl rfl (op_len rfl sl23 (ev1 rfl)) ?_
        refine zab rfl rfl rfl (op_lss rfl (ev1 rfl) (ev1 rfl)) ?_
        refine zab rfl rfl rfl (zac (.inl rfl) (ev1 rfl)) ?_
        refine zai (gd_t rfl rfl rfl) rfl rfl rfl (zac (.inl rfl) (ev1 rfl)) ?_
        refine zai (gd_t rfl rfl rfl) rfl rfl rfl (zac (.inl rfl) (ev1 rfl)) ?_
        refine zai (gd_t rfl rfl rfl) rfl rfl rfl (op_ixsg (j := p) ((0 : Int)) rfl sl23 (ev2 rfl) (ev2 rfl) (fun _ => rfl) (by decide) (fun hp => by first | omega | (simp at hp; omega)) (fun hp => by first | omega | (simp at hp; omega))) ?_
        refine zai (gd_t rfl rfl rfl) rfl rfl rfl (op_ldod rfl tb5 (ev2 rfl) rfl) ?_
        refine zai (gd_t rfl rfl rfl) rfl rfl rfl (op_eql rfl (ev2 rfl) (ev1 rfl)) ?_
        refine zab rfl rfl rfl (op_and rfl (ev1 rfl) (ev3 rfl id)) ?_
        refine zae ?_
        refine dwp_if_f rfl (zr_f hz) ?_
        refine dwp_skip ?_
        refine zaf ?_
        refine zaf ?_
        refine zad ?_
        refine zab rfl rfl rfl (zac (.inl rfl) (ev1 rfl)) ?_
        refine zab rfl rfl rfl (zac (.inl rfl) (ev1 rfl)) ?_
        refine zab rfl rfl rfl (op_len rfl sl23 (ev1 rfl)) ?_
        refine zab rfl rfl rfl (op_gtr rfl (ev1 rfl) (ev1 rfl)) ?_
        refine zae ?_
        refine dwp_if_f rfl (by simp; omega) ?_
        refine dwp_skip ?_
        refine zaf ?_
        by_cases hno : ∀ l q, rdN B p = some (l, q) → padT l = aheadK us
        · by_cases hn0 : rdN B p = none
          · have hld : rdN (B.drop p) 0 = none := by rw [rdN_drop hp, hn0]; rfl
            refine zah 1 (by simp only [holes, List.cons_append, List.nil_append]; exact rfl) ?_
            refine zad ?_
            refine zab rfl rfl rfl (zac (.inl rfl) (ev1 rfl)) ?_
            refine zab rfl rfl rfl (zac (.inl rfl) (ev1 rfl)) ?_
            refine zab rfl rfl rfl (op_sldr (i := p) rfl sl23 (ev1 rfl) (bd_some (ev1 rfl)) (fun _ => by omega) (fun _ => by omega) (fun _ => rfl)) ?_
            refine zab rfl rfl rfl (zaj [] [] [] rfl (ev1 rfl) (ec (ev1 rfl) en) rfl rfl (rdd_n (B.drop p) (by rw [List.length_drop]; omega) (isB_drop hi p) hld) rfl rfl rfl rfl rfl rfl) ?_
            refine zab rfl rfl rfl (zac (.inl rfl) (ev1 rfl)) ?_
            refine zab rfl rfl rfl (op_ext rfl (ev1 rfl) rfl) ?_
            refine zab rfl rfl rfl (op_ext rfl (ev1 rfl) rfl) ?_
            refine walk_w rfl rfl rfl (op_alloc 2 rfl zr29 rfl) (by simp only [upd, za, zaa]; exact rfl) ?_
            refine walk_s rfl rfl (op_stwa rfl tb29 (ev1 rfl) (ev1 rfl) rfl (tc_len _) (tc_oc _) ((tc_len _).trans (tc_len _).symm)) (by simp only [upd, za, zaa]; exact rfl) ?_
            refine zab rfl rfl rfl (zac (.inr rfl) (ev1 rfl)) ?_
            refine zae ?_
            refine zaf ?_
            refine zaf ?_
            refine zad ?_
            refine zab rfl rfl rfl (zac (.inl rfl) (ev1 rfl)) ?_
            refine zab rfl rfl rfl (op_eql rfl (ev1 rfl) (ev1 rfl)) ?_
            refine zab rfl rfl rfl (zac (.inl rfl) (ev1 rfl)) ?_
            refine zai (gd_f rfl rfl rfl) rfl rfl rfl (op_ldw rfl tb29 (ev1 rfl) rfl (tc_len _)) ?_
            refine zai (gd_f rfl rfl rfl) rfl rfl rfl (op_ldw rfl tb29 (ev1 rfl) rfl (tc_len _)) ?_
            refine zai (gd_f rfl rfl rfl) rfl rfl rfl (op_eqr eq29 rfl gd29 tb29 (ev2 rfl) (ev2 rfl)) ?_
            refine zab rfl rfl rfl (op_or rfl (ev1 rfl) (ev3 rfl id)) ?_
            refine zae ?_
            refine dwp_if_t rfl (rfl) ?_
            refine zaf ?_
            refine zad ?_
            refine zab rfl rfl rfl (zac (.inr rfl) (ev1 rfl)) ?_
            refine zab rfl rfl rfl (zac (.inr rfl) (ev1 rfl)) ?_
            refine zae ?_
            refine dwp_ret ?_
            refine kend0 (rs2 rfl (rv_t rfl) (rv_t rfl)) rfl ?_
            rfl
          · obtain ⟨⟨l, q1⟩, hl0⟩ : ∃ x, rdN B p = some x := by
              cases h1 : rdN B p with
              | none => exact absurd h1 hn0
              | some x => exact ⟨x, rfl⟩
            have heq := hno l q1 hl0
            have hld : rdN (B.drop p) 0 = some (l, q1 - p) := by rw [rdN_drop hp, hl0]; rfl
            refine zah 1 (by simp only [holes, List.cons_append, List.nil_append]; exact rfl) ?_
            refine zad ?_
            refine zab rfl rfl rfl (zac (.inl rfl) (ev1 rfl)) ?_
            refine zab rfl rfl rfl (zac (.inl rfl) (ev1 rfl)) ?_
            refine zab rfl rfl rfl (op_sldr (i := p) rfl sl23 (ev1 rfl) (bd_some (ev1 rfl)) (fun _ => by omega) (fun _ => by omega) (fun _ => rfl)) ?_
            refine zab rfl rfl rfl (zaj [] [] [] rfl (ev1 rfl) (ec (ev1 rfl) en) rfl rfl (rdd_y (B.drop p) (by rw [List.length_drop]; omega) (isB_drop hi p) l (q1 - p) hld) rfl rfl rfl rfl rfl rfl) ?_
            refine zab rfl rfl rfl (zac (.inl rfl) (ev1 rfl)) ?_
            refine zab rfl rfl rfl (op_ext rfl (ev1 rfl) rfl) ?_
            refine zab rfl rfl rfl (op_ext rfl (ev1 rfl) rfl) ?_
            refine walk_w rfl rfl rfl (op_alloc 2 rfl zr29 rfl) (by simp only [upd, za, zaa]; exact rfl) ?_
            refine walk_s rfl rfl (op_stwa rfl tb29 (ev1 rfl) (ev1 rfl) rfl (tc_len _) (tc_oc _) ((tc_len _).trans (tc_len _).symm)) (by simp only [upd, za, zaa]; exact rfl) ?_
            refine zab rfl rfl rfl (zac (.inr rfl) (ev1 rfl)) ?_
            refine zae ?_
            refine zaf ?_
            refine zaf ?_
            refine zad ?_
            refine zab rfl rfl rfl (zac (.inl rfl) (ev1 rfl)) ?_
            refine zab rfl rfl rfl (op_eql rfl (ev1 rfl) (ev1 rfl)) ?_
            refine zab rfl rfl rfl (zac (.inl rfl) (ev1 rfl)) ?_
            refine zai (gd_f rfl rfl rfl) rfl rfl rfl (op_ldw rfl tb29 (ev1 rfl) rfl (tc_len _)) ?_
            refine zai (gd_f rfl rfl rfl) rfl rfl rfl (op_ldw rfl tb29 (ev1 rfl) rfl (tc_len _)) ?_
            refine zai (gd_f rfl rfl rfl) rfl rfl rfl (op_eqr eq29 rfl gd29 tb29 (ev2 rfl) (ev2 rfl)) ?_
            refine zab rfl rfl rfl (op_or rfl (ev1 rfl) (ev3 rfl id)) ?_
            refine zae ?_
            refine dwp_if_t rfl (by simp [heq]) ?_
            refine zaf ?_
            refine zad ?_
            refine zab rfl rfl rfl (zac (.inr rfl) (ev1 rfl)) ?_
            refine zab rfl rfl rfl (zac (.inr rfl) (ev1 rfl)) ?_
            refine zae ?_
            refine dwp_ret ?_
            refine kend0 (rs2 rfl (rv_t rfl) (rv_t rfl)) rfl ?_
            rfl
        · obtain ⟨l, q1, hl0, hne⟩ : ∃ l q, rdN B p = some (l, q) ∧ padT l ≠ aheadK us := by simpa using hno
          have hlt2 := rdN_lt hl0
          have hqp : p + (q1 - p) = q1 := by omega
          have hle2 := (rdN_le hl0).1
          have hld : rdN (B.drop p) 0 = some (l, q1 - p) := by rw [rdN_drop hp, hl0]; rfl
          refine zah 1 (by simp only [holes, List.cons_append, List.nil_append]; exact rfl) ?_
          refine zad ?_
          refine zab rfl rfl rfl (zac (.inl rfl) (ev1 rfl)) ?_
          refine zab rfl rfl rfl (zac (.inl rfl) (ev1 rfl)) ?_
          refine zab rfl rfl rfl (op_sldr (i := p) rfl sl23 (ev1 rfl) (bd_some (ev1 rfl)) (fun _ => by omega) (fun _ => by omega) (fun _ => rfl)) ?_
          refine zab rfl rfl rfl (zaj [] [] [] rfl (ev1 rfl) (ec (ev1 rfl) en) rfl rfl (rdd_y (B.drop p) (by rw [List.length_drop]; omega) (isB_drop hi p) l (q1 - p) hld) rfl rfl rfl rfl rfl rfl) ?_
          refine zab rfl rfl rfl (zac (.inl rfl) (ev1 rfl)) ?_
          refine zab rfl rfl rfl (op_ext rfl (ev1 rfl) rfl) ?_
          refine zab rfl rfl rfl (op_ext rfl (ev1 rfl) rfl) ?_
          refine walk_w rfl rfl rfl (op_alloc 2 rfl zr29 rfl) (by simp only [upd, za, zaa]; exact rfl) ?_
          refine walk_s rfl rfl (op_stwa rfl tb29 (ev1 rfl) (ev1 rfl) rfl (tc_len _) (tc_oc _) ((tc_len _).trans (tc_len _).symm)) (by simp only [upd, za, zaa]; exact rfl) ?_
          refine zab rfl rfl rfl (zac (.inr rfl) (ev1 rfl)) ?_
          refine zae ?_
          refine zaf ?_
          refine zaf ?_
          refine zad ?_
          refine zab rfl rfl rfl (zac (.inl rfl) (ev1 rfl)) ?_
          refine zab rfl rfl rfl (op_eql rfl (ev1 rfl) (ev1 rfl)) ?_
          refine zab rfl rfl rfl (zac (.inl rfl) (ev1 rfl)) ?_
          refine zai (gd_f rfl rfl rfl) rfl rfl rfl (op_ldw rfl tb29 (ev1 rfl) rfl (tc_len _)) ?_
          refine zai (gd_f rfl rfl rfl) rfl rfl rfl (op_ldw rfl tb29 (ev1 rfl) rfl (tc_len _)) ?_
          refine zai (gd_f rfl rfl rfl) rfl rfl rfl (op_eqr eq29 rfl gd29 tb29 (ev2 rfl) (ev2 rfl)) ?_
          refine zab rfl rfl rfl (op_or rfl (ev1 rfl) (ev3 rfl id)) ?_
          refine zae ?_
          refine dwp_if_f rfl (by simp [hne]; omega) ?_
          refine dwp_skip ?_
          refine zaf ?_
          refine zah 2 (by simp only [holes, List.cons_append, List.nil_append]; exact rfl) ?_
          refine zad ?_
          refine zab rfl rfl rfl (zac (.inl rfl) (ev1 rfl)) ?_
          refine zab rfl rfl rfl (op_ldw rfl tb29 (ev1 rfl) rfl (tc_len _)) ?_
          refine walk_w rfl rfl rfl (op_bsa (ps := [(0, .tmp 69)]) 3 rfl sl22 zr29 rfl (vc (ev1 rfl) vn) (tc_sz _) (by decide) (by decide) rfl) (by simp only [upd, za, zaa]; exact rfl) ?_
          refine walk_w rfl rfl rfl (op_app (j := 4) rfl sl22 zr29 rfl (ev1 rfl) (ev1 rfl) (src_arr rfl) rfl rfl (fun _ => tc_oc1 _) (fun _ => ⟨by omega, by omega⟩)) (by simp only [upd, za, zaa]; exact rfl) ?_
          refine zab rfl rfl rfl (zac (.inr rfl) (ev1 rfl)) ?_
          refine zae ?_
          refine zad ?_
          refine zab rfl rfl rfl (zac (.inl rfl) (ev1 rfl)) ?_
          refine zab rfl rfl rfl (zac (.inl rfl) (ev1 rfl)) ?_
          refine zab rfl rfl rfl (op_add' rfl (ev1 rfl) (ev1 rfl) (fun _ => IntWalk.i64_in _ (by omega))) ?_
          refine zab rfl rfl rfl (zac (.inr rfl) (ev1 rfl)) ?_
          refine zae ?_
          refine zad ?_
          refine zab rfl rfl rfl (op_add' rfl (ev1 rfl) (ev1 rfl) (fun _ => IntWalk.i64_in _ (by omega))) ?_
          refine zab rfl rfl rfl (zac (.inl rfl) (ev1 rfl)) ?_
          refine zae ?_
          refine ⟨(us ++ [padT l], q1), [4], ⟨by rw [List.length_append]; exact hlt, (rdN_le hl0).1, by rw [List.length_append]; exact rdNs_t (n := n - us.length) (by omega) hz hl0 hne hrd⟩, by simp only [List.length_append, List.length_cons, List.length_nil]; omega, rfl, ⟨congrArg (fun z => some (D.val (.int .i64 z))) (show (p : Int) + ((q1 - p : Nat) : Int) = (q1 : Int) by omega), by rw [List.length_append]; rfl, rfl, rfl, rfl, rfl, trivial⟩, ⟨arr_eq (by rw [List.length_append]; rfl) (tk_app us _), trivial⟩⟩
    · try simp only [yg, ya, beq_iff_eq, bne_iff_ne, yb, yc, yf, ye, yh, yi, yd, ne_eq, yj, Int.not_lt, Int.not_le] at c7
      refine dwp_skip ?_
      refine zaf ?_
      refine zaf ?_
      by_cases hz : zrB B p = true
      · refine dwp_eqB 1 (show .flat 29 (tc zT) = .flat 29 (tc (aheadK us)) from by rw [show us = [] from List.eq_nil_of_length_eq_zero (by omega)]; rfl) rfl (by simp only [List.cons_append, List.nil_append, za, zaa]; exact rfl) ?_
        refine zad ?_
        refine zab rfl rfl rfl (zac (.inl rfl) (ev1 rfl)) ?_
        refine zab rfl rfl rfl (zac (.inl rfl) (ev1 rfl)) ?_
        refine zab rfl rfl rfl (op_len rfl sl23 (ev1 rfl)) ?_
        refine zab rfl rfl rfl (op_lss rfl (ev1 rfl) (ev1 rfl)) ?_
        refine zab rfl rfl rfl (zac (.inl rfl) (ev1 rfl)) ?_
        refine zai (gd_t rfl rfl rfl) rfl rfl rfl (zac (.inl rfl) (ev1 rfl)) ?_
        refine zai (gd_t rfl rfl rfl) rfl rfl rfl (zac (.inl rfl) (ev1 rfl)) ?_
        refine zai (gd_t rfl rfl rfl) rfl rfl rfl (op_ixsg (j := p) ((0 : Int)) rfl sl23 (ev2 rfl) (ev2 rfl) (fun _ => rfl) (by decide) (fun hp => by first | omega | (simp at hp; omega)) (fun hp => by first | omega | (simp at hp; omega))) ?_
        refine zai (gd_t rfl rfl rfl) rfl rfl rfl (op_ldod rfl tb5 (ev2 rfl) rfl) ?_
        refine zai (gd_t rfl rfl rfl) rfl rfl rfl (op_eql rfl (ev2 rfl) (ev1 rfl)) ?_
        refine zab rfl rfl rfl (op_and rfl (ev1 rfl) (ev3 rfl id)) ?_
        refine zae ?_
        refine dwp_if_t rfl (zr_t hz) ?_
        refine zaf ?_
        refine zah 2 (by simp only [holes, List.cons_append, List.nil_append]; exact rfl) ?_
        refine zad ?_
        refine zab rfl rfl rfl (zac (.inl rfl) (ev1 rfl)) ?_
        refine zab rfl rfl rfl (op_ldw rfl tb29 (ev1 rfl) rfl (tc_len _)) ?_
        refine walk_w rfl rfl rfl (op_bsa (ps := [(0, .tmp 45)]) 2 rfl sl22 zr29 rfl (vc (ev1 rfl) vn) (tc_sz _) (by decide) (by decide) rfl) (by simp only [upd, za, zaa]; exact rfl) ?_
        refine walk_w rfl rfl rfl (op_app (j := 3) rfl sl22 zr29 rfl (ev1 rfl) (ev1 rfl) (src_arr rfl) rfl rfl (fun _ => tc_oc1 _) (fun _ => ⟨by omega, by omega⟩)) (by simp only [upd, za, zaa]; exact rfl) ?_
        refine zab rfl rfl rfl (zac (.inr rfl) (ev1 rfl)) ?_
        refine zae ?_
        refine zaf ?_
        refine zad ?_
        refine zab rfl rfl rfl (zac (.inl rfl) (ev1 rfl)) ?_
        refine zab rfl rfl rfl (op_add' rfl (ev1 rfl) (ev1 rfl) (fun _ => IntWalk.i64_in _ (by omega))) ?_
        refine zab rfl rfl rfl (zac (.inr rfl) (ev1 rfl)) ?_
        refine zae ?_
        refine dwp_exit ?_
        refine zad ?_
        refine zab rfl rfl rfl (op_add' rfl (ev1 rfl) (ev1 rfl) (fun _ => IntWalk.i64_in _ (by omega))) ?_
        refine zab rfl rfl rfl (zac (.inl rfl) (ev1 rfl)) ?_
        refine zae ?_
        refine ⟨(us ++ [aheadK us], p + 1), [3], ⟨by rw [List.length_append]; exact hlt, (zrB_iff.1 hz).1, by rw [List.length_append]; exact rdNs_z (n := n - us.length) (by omega) hz hrd⟩, by simp only [List.length_append, List.length_cons, List.length_nil]; omega, rfl, ⟨rfl, by rw [List.length_append]; rfl, rfl, rfl, rfl, rfl, trivial⟩, ⟨arr_eq (by rw [List.length_append]; rfl) (tk_app us _), trivial⟩⟩
      · refine dwp_eqB 1 (show .flat 29 (tc zT) = .flat 29 (tc (aheadK us)) from by rw [show us = [] from List.eq_nil_of_length_eq_zero (by omega)]; rfl) rfl (by simp only [List.cons_append, List.nil_append, za, zaa]; exact rfl) ?_
        refine zad ?_
        refine zab rfl rfl rfl (zac (.inl rfl) (ev1 rfl)) ?_
        refine zab rfl rfl rfl (zac (.inl rfl) (ev1 rfl)) ?_
        refine zab rfl rfl rfl (op_len rfl sl23 (ev1 rfl)) ?_
        refine zab rfl rfl rfl (op_lss rfl (ev1 rfl) (ev1 rfl)) ?_
        refine zab rfl rfl rfl (zac (.inl rfl) (ev1 rfl)) ?_
        refine zai (gd_t rfl rfl rfl) rfl rfl rfl (zac (.inl rfl) (ev1 rfl)) ?_
        refine zai (gd_t rfl rfl rfl) rfl rfl rfl (zac (.inl rfl) (ev1 rfl)) ?_
        refine zai (gd_t rfl rfl rfl) rfl rfl rfl (op_ixsg (j := p) ((0 : Int)) rfl sl23 (ev2 rfl) (ev2 rfl) (fun _ => rfl) (by decide) (fun hp => by first | omega | (simp at hp; omega)) (fun hp => by first | omega | (simp at hp; omega))) ?_
        refine zai (gd_t rfl rfl rfl) rfl rfl rfl (op_ldod rfl tb5 (ev2 rfl) rfl) ?_
        refine zai (gd_t rfl rfl rfl) rfl rfl rfl (op_eql rfl (ev2 rfl) (ev1 rfl)) ?_
        refine zab rfl rfl rfl (op_and rfl (ev1 rfl) (ev3 rfl id)) ?_
        refine zae ?_
        refine dwp_if_f rfl (zr_f hz) ?_
        refine dwp_skip ?_
        refine zaf ?_
        refine zaf ?_
        refine zad ?_
        refine zab rfl rfl rfl (zac (.inl rfl) (ev1 rfl)) ?_
        refine zab rfl rfl rfl (zac (.inl rfl) (ev1 rfl)) ?_
        refine zab rfl rfl rfl (op_len rfl sl23 (ev1 rfl)) ?_
        refine zab rfl rfl rfl (op_gtr rfl (ev1 rfl) (ev1 rfl)) ?_
        refine zae ?_
        refine dwp_if_f rfl (by simp; omega) ?_
        refine dwp_skip ?_
        refine zaf ?_
        by_cases hno : ∀ l q, rdN B p = some (l, q) → padT l = aheadK us
        · by_cases hn0 : rdN B p = none
          · have hld : rdN (B.drop p) 0 = none := by rw [rdN_drop hp, hn0]; rfl
            refine zah 1 (by simp only [holes, List.cons_append, List.nil_append]; exact rfl) ?_
            refine zad ?_
            refine zab rfl rfl rfl (zac (.inl rfl) (ev1 rfl)) ?_
            refine zab rfl rfl rfl (zac (.inl rfl) (ev1 rfl)) ?_
            refine zab rfl rfl rfl (op_sldr (i := p) rfl sl23 (ev1 rfl) (bd_some (ev1 rfl)) (fun _ => by omega) (fun _ => by omega) (fun _ => rfl)) ?_
            refine zab rfl rfl rfl (zaj [] [] [] rfl (ev1 rfl) (ec (ev1 rfl) en) rfl rfl (rdd_n (B.drop p) (by rw [List.length_drop]; omega) (isB_drop hi p) hld) rfl rfl rfl rfl rfl rfl) ?_
            refine zab rfl rfl rfl (zac (.inl rfl) (ev1 rfl)) ?_
            refine zab rfl rfl rfl (op_ext rfl (ev1 rfl) rfl) ?_
            refine zab rfl rfl rfl (op_ext rfl (ev1 rfl) rfl) ?_
            refine walk_w rfl rfl rfl (op_alloc 2 rfl zr29 rfl) (by simp only [upd, za, zaa]; exact rfl) ?_
            refine walk_s rfl rfl (op_stwa rfl tb29 (ev1 rfl) (ev1 rfl) rfl (tc_len _) (tc_oc _) ((tc_len _).trans (tc_len _).symm)) (by simp only [upd, za, zaa]; exact rfl) ?_
            refine zab rfl rfl rfl (zac (.inr rfl) (ev1 rfl)) ?_
            refine zae ?_
            refine zaf ?_
            refine zaf ?_
            refine zad ?_
            refine zab rfl rfl rfl (zac (.inl rfl) (ev1 rfl)) ?_
            refine zab rfl rfl rfl (op_eql rfl (ev1 rfl) (ev1 rfl)) ?_
            refine zab rfl rfl rfl (zac (.inl rfl) (ev1 rfl)) ?_
            refine zai (gd_f rfl rfl rfl) rfl rfl rfl (op_ldw rfl tb29 (ev1 rfl) rfl (tc_len _)) ?_
            refine zai (gd_f rfl rfl rfl) rfl rfl rfl (op_ldw rfl tb29 (ev1 rfl) rfl (tc_len _)) ?_
            refine zai (gd_f rfl rfl rfl) rfl rfl rfl (op_eqr eq29 rfl gd29 tb29 (ev2 rfl) (ev2 rfl)) ?_
            refine zab rfl rfl rfl (op_or rfl (ev1 rfl) (ev3 rfl id)) ?_
            refine zae ?_
            refine dwp_if_t rfl (rfl) ?_
            refine zaf ?_
            refine zad ?_
            refine zab rfl rfl rfl (zac (.inr rfl) (ev1 rfl)) ?_
            refine zab rfl rfl rfl (zac (.inr rfl) (ev1 rfl)) ?_
            refine zae ?_
            refine dwp_ret ?_
            refine kend0 (rs2 rfl (rv_t rfl) (rv_t rfl)) rfl ?_
            rfl
          · obtain ⟨⟨l, q1⟩, hl0⟩ : ∃ x, rdN B p = some x := by
              cases h1 : rdN B p with
              | none => exact absurd h1 hn0
              | some x => exact ⟨x, rfl⟩
            have heq := hno l q1 hl0
            have hld : rdN (B.drop p) 0 = some (l, q1 - p) := by rw [rdN_drop hp, hl0]; rfl
            refine zah 1 (by simp only [holes, List.cons_append, List.nil_append]; exact rfl) ?_
            refine zad ?_
            refine zab rfl rfl rfl (zac (.inl rfl) (ev1 rfl)) ?_
            refine zab rfl rfl rfl (zac (.inl rfl) (ev1 rfl)) ?_
            refine zab rfl rfl rfl (op_sldr (i := p) rfl sl23 (ev1 rfl) (bd_some (ev1 rfl)) (fun _ => by omega) (fun _ => by omega) (fun _ => rfl)) ?_
            refine zab rfl rfl rfl (zaj [] [] [] rfl (ev1 rfl) (ec (ev1 rfl) en) rfl rfl (rdd_y (B.drop p) (by rw [List.length_drop]; omega) (isB_drop hi p) l (q1 - p) hld) rfl rfl rfl rfl rfl rfl) ?_
            refine zab rfl rfl rfl (zac (.inl rfl) (ev1 rfl)) ?_
            refine zab rfl rfl rfl (op_ext rfl (ev1 rfl) rfl) ?_
            refine zab rfl rfl rfl (op_ext rfl (ev1 rfl) rfl) ?_
            refine walk_w rfl rfl rfl (op_alloc 2 rfl zr29 rfl) (by simp only [upd, za, zaa]; exact rfl) ?_
            refine walk_s rfl rfl (op_stwa rfl tb29 (ev1 rfl) (ev1 rfl) rfl (tc_len _) (tc_oc _) ((tc_len _).trans (tc_len _).symm)) (by simp only [upd, za, zaa]; exact rfl) ?_
            refine zab rfl rfl rfl (zac (.inr rfl) (ev1 rfl)) ?_
            refine zae ?_
            refine zaf ?_
            refine zaf ?_
            refine zad ?_
            refine zab rfl rfl rfl (zac (.inl rfl) (ev1 rfl)) ?_
            refine zab rfl rfl rfl (op_eql rfl (ev1 rfl) (ev1 rfl)) ?_
            refine zab rfl rfl rfl (zac (.inl rfl) (ev1 rfl)) ?_
            refine zai (gd_f rfl rfl rfl) rfl rfl rfl (op_ldw rfl tb29 (ev1 rfl) rfl (tc_len _)) ?_
            refine zai (gd_f rfl rfl rfl) rfl rfl rfl (op_ldw rfl tb29 (ev1 rfl) rfl (tc_len _)) ?_
            refine zai (gd_f rfl rfl rfl) rfl rfl rfl (op_eqr eq29 rfl gd29 tb29 (ev2 rfl) (ev2 rfl)) ?_
            refine zab rfl rfl rfl (op_or rfl (ev1 rfl) (ev3 rfl id)) ?_
            refine zae ?_
            refine dwp_if_t rfl (by simp [heq]) ?_
            refine zaf ?_
            refine zad ?_
            refine zab rfl rfl rfl (zac (.inr rfl) (ev1 rfl)) ?_
            refine zab rfl rfl rfl (zac (.inr rfl) (ev1 rfl)) ?_
            refine zae ?_
            refine dwp_ret ?_
            refine kend0 (rs2 rfl (rv_t rfl) (rv_t rfl)) rfl ?_
            rfl
        · obtain ⟨l, q1, hl0, hne⟩ : ∃ l q, rdN B p = some (l, q) ∧ padT l ≠ aheadK us := by simpa using hno
          have hlt2 := rdN_lt hl0
          have hqp : p + (q1 - p) = q1 := by omega
          have hle2 := (rdN_le hl0).1
          have hld : rdN (B.drop p) 0 = some (l, q1 - p) := by rw [rdN_drop hp, hl0]; rfl
          refine zah 1 (by simp only [holes, List.cons_append, List.nil_append]; exact rfl) ?_
          refine zad ?_
          refine zab rfl rfl rfl (zac (.inl rfl) (ev1 rfl)) ?_
          refine zab rfl rfl rfl (zac (.inl rfl) (ev1 rfl)) ?_
          refine zab rfl rfl rfl (op_sldr (i := p) rfl sl23 (ev1 rfl) (bd_some (ev1 rfl)) (fun _ => by omega) (fun _ => by omega) (fun _ => rfl)) ?_
          refine zab rfl rfl rfl (zaj [] [] [] rfl (ev1 rfl) (ec (ev1 rfl) en) rfl rfl (rdd_y (B.drop p) (by rw [List.length_drop]; omega) (isB_drop hi p) l (q1 - p) hld) rfl rfl rfl rfl rfl rfl) ?_
          refine zab rfl rfl rfl (zac (.inl rfl) (ev1 rfl)) ?_
          refine zab rfl rfl rfl (op_ext rfl (ev1 rfl) rfl) ?_
          refine zab rfl rfl rfl (op_ext rfl (ev1 rfl) rfl) ?_
          refine walk_w rfl rfl rfl (op_alloc 2 rfl zr29 rfl) (by simp only [upd, za, zaa]; exact rfl) ?_
          refine walk_s rfl rfl (op_stwa rfl tb29 (ev1 rfl) (ev1 rfl) rfl (tc_len _) (tc_oc _) ((tc_len _).trans (tc_len _).symm)) (by simp only [upd, za, zaa]; exact rfl) ?_
          refine zab rfl rfl rfl (zac (.inr rfl) (ev1 rfl)) ?_
          refine zae ?_
          refine zaf ?_
          refine zaf ?_
          refine zad ?_
          refine zab rfl rfl rfl (zac (.inl rfl) (ev1 rfl)) ?_
          refine zab rfl rfl rfl (op_eql rfl (ev1 rfl) (ev1 rfl)) ?_
          refine zab rfl rfl rfl (zac (.inl rfl) (ev1 rfl)) ?_
          refine zai (gd_f rfl rfl rfl) rfl rfl rfl (op_ldw rfl tb29 (ev1 rfl) rfl (tc_len _)) ?_
          refine zai (gd_f rfl rfl rfl) rfl rfl rfl (op_ldw rfl tb29 (ev1 rfl) rfl (tc_len _)) ?_
          refine zai (gd_f rfl rfl rfl) rfl rfl rfl (op_eqr eq29 rfl gd29 tb29 (ev2 rfl) (ev2 rfl)) ?_
          refine zab rfl rfl rfl (op_or rfl (ev1 rfl) (ev3 rfl id)) ?_
          refine zae ?_
          refine dwp_if_f rfl (by simp [hne]; omega) ?_
          refine dwp_skip ?_
          refine zaf ?_
          refine zah 2 (by simp only [holes, List.cons_append, List.nil_append]; exact rfl) ?_
          refine zad ?_
          refine zab rfl rfl rfl (zac (.inl rfl) (ev1 rfl)) ?_
          refine zab rfl rfl rfl (op_ldw rfl tb29 (ev1 rfl) rfl (tc_len _)) ?_
          refine walk_w rfl rfl rfl (op_bsa (ps := [(0, .tmp 69)]) 3 rfl sl22 zr29 rfl (vc (ev1 rfl) vn) (tc_sz _) (by decide) (by decide) rfl) (by simp only [upd, za, zaa]; exact rfl) ?_
          refine walk_w rfl rfl rfl (op_app (j := 4) rfl sl22 zr29 rfl (ev1 rfl) (ev1 rfl) (src_arr rfl) rfl rfl (fun _ => tc_oc1 _) (fun _ => ⟨by omega, by omega⟩)) (by simp only [upd, za, zaa]; exact rfl) ?_
          refine zab rfl rfl rfl (zac (.inr rfl) (ev1 rfl)) ?_
          refine zae ?_
          refine zad ?_
          refine zab rfl rfl rfl (zac (.inl rfl) (ev1 rfl)) ?_
          refine zab rfl rfl rfl (zac (.inl rfl) (ev1 rfl)) ?_
          refine zab rfl rfl rfl (op_add' rfl (ev1 rfl) (ev1 rfl) (fun _ => IntWalk.i64_in _ (by omega))) ?_
          refine zab rfl rfl rfl (zac (.inr rfl) (ev1 rfl)) ?_
          refine zae ?_
          refine zad ?_
          refine zab rfl rfl rfl (op_add' rfl (ev1 rfl) (ev1 rfl) (fun _ => IntWalk.i64_in _ (by omega))) ?_
          refine zab rfl rfl rfl (zac (.inl rfl) (ev1 rfl)) ?_
          refine zae ?_
          refine ⟨(us ++ [padT l], q1), [4], ⟨by rw [List.length_append]; exact hlt, (rdN_le hl0).1, by rw [List.length_append]; exact rdNs_t (n := n - us.length) (by omega) hz hl0 hne hrd⟩, by simp only [List.length_append, List.length_cons, List.length_nil]; omega, rfl, ⟨congrArg (fun z => some (D.val (.int .i64 z))) (show (p : Int) + ((q1 - p : Nat) : Int) = (q1 : Int) by omega), by rw [List.length_append]; rfl, rfl, rfl, rfl, rfl, trivial⟩, ⟨arr_eq (by rw [List.length_append]; rfl) (tk_app us _), trivial⟩⟩
  · have c2 : ¬ ((us.length : Int) < z) := by simpa using c1
    have e0 : n - us.length = 0 := by omega
    rw [e0] at hrd
    exact absurd (show some (us, p) = none from hrd) (fun e => by cases e)
set_option maxRecDepth 4000 in
set_option maxHeartbeats 1000000 in
theorem dtl_t (B : List Int) (hB : B.length ≤ 4000000000000000000) (hi : isB B) (n : Nat) (hn16 : n ≤ 100) (z : Int) (hz0 : z = (n : Int)) (h2 : 2 ≤ B.length) (old : List TL) (ho : n ≤ old.length) (hol : 0 < old.length) (hol2 : old.length ≤ 5000) (ts : List TL) (q : Nat) (h0 : rdNs (thereK old) B n [] 2 = some (ts, q)) : DFun Try.prog 47 [.slf 1 (B).length ((B).flatMap u8V), .val (.int .i64 z), .slf 256 old.length (old.flatMap tc)] [] (.tup [.arr 0, .val (.int .i64 (q : Nat))]) [.arr 29 256 (ts).length ((ts).flatMap tc)] := by
  refine dcalls_go (N := 78) 0 (by kernel_rfl) Try.func47 rfl rfl rfl (by simp only [fr0, Nat.zero_add, Nat.reduceAdd]; exact rfl) rfl fun s0 hs0 => ?_
  refine dwp_len (t := 0) rfl fun hl0 hL0 => ?_
  refine dwp_len (t := 2) rfl fun hl2 hL2 => ?_
  refine zaf ?_
  refine zad ?_
  refine zab rfl rfl rfl (zac (.inr rfl) (ev1 rfl)) ?_
  refine zab rfl rfl rfl (zac (.inr rfl) (ev1 rfl)) ?_
  refine zae ?_
  refine zaf ?_
  refine zad ?_
  refine zab rfl rfl rfl (zac (.inr rfl) (ev1 rfl)) ?_
  refine zae ?_
  refine zaf ?_
  refine zad ?_
  refine zab rfl rfl rfl (zac (.inr rfl) (ev1 rfl)) ?_
  refine zae ?_
  refine zaf ?_
  refine zaf ?_
  refine zad ?_
  refine zab rfl rfl rfl (zac (.inl rfl) (ev1 rfl)) ?_
  refine zab rfl rfl rfl (zac (.inl rfl) (ev1 rfl)) ?_
  refine zae ?_
  refine dwp_block ?_
  refine dwp_adopt 8 29 256 rfl rfl rfl ?_
  refine dwp_loopS ⟨hs0, rfl⟩ (α := List TL × Nat) (fun x => [(9, .val (.int .i64 (x.2 : Int))), (15, .val (.int .i64 (x.1.length : Int)))]) [(0, _), (2, _), (8, _), (14, _)] (fun x => [(0, .arr 29 256 (x.1).length ((x.1).flatMap tc))]) [.hole] (fun x => x.1.length ≤ n ∧ x.2 ≤ B.length ∧ rdNs (thereK old) B (n - x.1.length) x.1 x.2 = some (ts, q)) (fun x => n - x.1.length) ([], 2) [0] (⟨Nat.zero_le _, h2, h0⟩) rfl ⟨rfl, rfl, rfl, rfl, trivial⟩ ⟨rfl, rfl, trivial⟩ ⟨rfl, trivial⟩ ?_
  intro x hx
  simp only [upd, za, zaa, List.cons_append, List.nil_append]
  obtain ⟨us, p⟩ := x
  obtain ⟨hul, hp, hrd⟩ := hx
  dsimp only at hul hp hrd ⊢
  have hus : us.length ≤ 5000 := by omega
  refine zaf ?_
  refine zad ?_
  refine zab rfl rfl rfl (op_lss rfl (ev1 rfl) (ev1 rfl)) ?_
  refine zae ?_
  refine zaf ?_
  refine dwp_cond rfl (fun c1 => ?_) (fun c1 => ?_)
  · try simp only [yg, ya, beq_iff_eq, bne_iff_ne, yb, yc, yf, ye, yh, yi, yd, ne_eq, yj, Int.not_lt, Int.not_le] at c1
    have hlt : us.length < n := by omega
    refine dwp_skip ?_
    refine zaf ?_
    refine dwp_block ?_
    refine zaf ?_
    refine zad ?_
    refine zab rfl rfl rfl (zac (.inl rfl) (ev1 rfl)) ?_
    refine zab rfl rfl rfl (zac (.inr rfl) (ev1 rfl)) ?_
    refine zae ?_
    refine zaf ?_
    refine zah 1 (by simp only [holes, List.cons_append, List.nil_append]; exact rfl) ?_
    refine zad ?_
    refine zab rfl rfl rfl (op_build0a rfl ar29 zr29) ?_
    refine walk_w rfl rfl rfl (op_alloc 1 rfl zr29 rfl) (by simp only [upd, za, zaa]; exact rfl) ?_
    refine walk_s rfl rfl (op_stwa rfl tb29 (ev1 rfl) (ev1 rfl) rfl (tc_len _) (tc_oc _) ((tc_len _).trans (tc_len _).symm)) (by simp only [upd, za, zaa]; exact rfl) ?_
    refine zae ?_
    refine zaf ?_
    refine zaf ?_
    refine zad ?_
    refine zab rfl rfl rfl (zac (.inl rfl) (ev1 rfl)) ?_
    refine zab rfl rfl rfl (op_len rfl sl22 (ev1 rfl)) ?_
    refine zab rfl rfl rfl (op_gtr rfl (ev1 rfl) (ev1 rfl)) ?_
    refine zae ?_
    refine dwp_if_t rfl (by simp; omega) ?_
    refine zad ?_
    refine zab rfl rfl rfl (zac (.inl rfl) (ev1 rfl)) ?_
    refine zab rfl rfl rfl (zac (.inl rfl) (ev1 rfl)) ?_
    refine zab rfl rfl rfl (op_ixsr (j := us.length) rfl sl22 (ev1 rfl) (ev1 rfl) tc_len (by decide) (by omega) (by omega)) ?_
    refine zab rfl rfl rfl (op_ldwd rfl tb29 (ev1 rfl) (tc_len _)) ?_
    refine walk_s rfl rfl (op_stwa rfl tb29 (ev1 rfl) (ev1 rfl) rfl (tc_len _) (tc_oc _) ((tc_len _).trans (tc_len _).symm)) (by simp only [upd, za, zaa]; exact rfl) ?_
    refine zae ?_
    refine zaf ?_
    refine zaf ?_
    by_cases hz : zrB B p = true
    · refine dwp_eqB 1 (show Blk.flat 29 (tc (old[us.length])) = .flat 29 (tc ((thereK old) us)) from by rw [thereK_at (by omega)]) rfl (by simp only [List.cons_append, List.nil_append, za, zaa]; exact rfl) ?_
      refine zad ?_
      refine zab rfl rfl rfl (zac (.inl rfl) (ev1 rfl)) ?_
      refine zab rfl rfl rfl (zac (.inl rfl) (ev1 rfl)) ?_
      refine zab rfl rfl rfl (op_len rfl sl23 (ev1 rfl)) ?_
      refine zab rfl rfl rfl (op_lss rfl (ev1 rfl) (ev1 rfl)) ?_
      refine zab rfl rfl rfl (zac (.inl rfl) (ev1 rfl)) ?_
      refine zai (gd_t rfl rfl rfl) rfl rfl rfl (zac (.inl rfl) (ev1 rfl)) ?_
      refine zai (gd_t rfl rfl rfl) rfl rfl rfl (zac (.inl rfl) (ev1 rfl)) ?_
      refine zai (gd_t rfl rfl rfl) rfl rfl rfl (op_ixsg (j := p) ((0 : Int)) rfl sl23 (ev2 rfl) (ev2 rfl) (fun _ => rfl) (by decide) (fun hp => by first | omega | (simp at hp; omega)) (fun hp => by first | omega | (simp at hp; omega))) ?_
      refine zai (gd_t rfl rfl rfl) rfl rfl rfl (op_ldod rfl tb5 (ev2 rfl) rfl) ?_
      refine zai (gd_t rfl rfl rfl) rfl rfl rfl (op_eql rfl (ev2 rfl) (ev1 rfl)) ?_
      refine zab rfl rfl rfl (op_and rfl (ev1 rfl) (ev3 rfl id)) ?_
      refine zae ?_
      refine dwp_if_t rfl (zr_t hz) ?_
      refine zaf ?_
      refine zah 2 (by simp only [holes, List.cons_append, List.nil_append]; exact rfl) ?_
      refine zad ?_
      refine zab rfl rfl rfl (zac (.inl rfl) (ev1 rfl)) ?_
      refine zab rfl rfl rfl (op_ldw rfl tb29 (ev1 rfl) rfl (tc_len _)) ?_
      refine walk_w rfl rfl rfl (op_bsa (ps := [(0, .tmp 45)]) 2 rfl sl22 zr29 rfl (vc (ev1 rfl) vn) (tc_sz _) (by decide) (by decide) rfl) (by simp only [upd, za, zaa]; exact rfl) ?_
      refine walk_w rfl rfl rfl (op_app (j := 3) rfl sl22 zr29 rfl (ev1 rfl) (ev1 rfl) (src_arr rfl) rfl rfl (fun _ => tc_oc1 _) (fun _ => ⟨by omega, by omega⟩)) (by simp only [upd, za, zaa]; exact rfl) ?_
      refine zab rfl rfl rfl (zac (.inr rfl) (ev1 rfl)) ?_
      refine zae ?_
      refine zaf ?_
      refine zad ?_
      refine zab rfl rfl rfl (zac (.inl rfl) (ev1 rfl)) ?_
      refine zab rfl rfl rfl (op_add' rfl (ev1 rfl) (ev1 rfl) (fun _ => IntWalk.i64_in _ (by omega))) ?_
      refine zab rfl rfl rfl (zac (.inr rfl) (ev1 rfl)) ?_
      refine zae ?_
      refine dwp_exit ?_
      refine zad ?_
      refine zab rfl rfl rfl (op_add' rfl (ev1 rfl) (ev1 rfl) (fun _ => IntWalk.i64_in _ (by omega))) ?_
      refine zab rfl rfl rfl (zac (.inl rfl) (ev1 rfl)) ?_
      refine zae ?_
      refine ⟨(us ++ [(thereK old) us], p + 1), [3], ⟨by rw [List.length_append]; exact hlt, (zrB_iff.1 hz).1, by rw [List.length_append]; exact rdNs_z (n := n - us.length) (by omega) hz hrd⟩, by simp only [List.length_append, List.length_cons, List.length_nil]; omega, rfl, ⟨rfl, by rw [List.length_append]; rfl, rfl, rfl, rfl, rfl, trivial⟩, ⟨arr_eq (by rw [List.length_append]; rfl) (tk_app us _), trivial⟩⟩
    · refine dwp_eqB 1 (show Blk.flat 29 (tc (old[us.length])) = .flat 29 (tc ((thereK old) us)) from by rw [thereK_at (by omega)]) rfl (by simp only [List.cons_append, List.nil_append, za, zaa]; exact rfl) ?_
      refine zad ?_
      refine zab rfl rfl rfl (zac (.inl rfl) (ev1 rfl)) ?_
      refine zab rfl rfl rfl (zac (.inl rfl) (ev1 rfl)) ?_
      refine zab rfl rfl rfl (op_len rfl sl23 (ev1 rfl)) ?_
      refine zab rfl rfl rfl (op_lss rfl (ev1 rfl) (ev1 rfl)) ?_
      refine zab rfl rfl rfl (zac (.inl rfl) (ev1 rfl)) ?_
      refine zai (gd_t rfl rfl rfl) rfl rfl rfl (zac (.inl rfl) (ev1 rfl)) ?_
      refine zai (gd_t rfl rfl rfl) rfl rfl rfl (zac (.inl rfl) (ev1 rfl)) ?_
      refine zai (gd_t rfl rfl rfl) rfl rfl rfl (op_ixsg (j := p) ((0 : Int)) rfl sl23 (ev2 rfl) (ev2 rfl) (fun _ => rfl) (by decide) (fun hp => by first | omega | (simp at hp; omega)) (fun hp => by first | omega | (simp at hp; omega))) ?_
      refine zai (gd_t rfl rfl rfl) rfl rfl rfl (op_ldod rfl tb5 (ev2 rfl) rfl) ?_
      refine zai (gd_t rfl rfl rfl) rfl rfl rfl (op_eql rfl (ev2 rfl) (ev1 rfl)) ?_
      refine zab rfl rfl rfl (op_and rfl (ev1 rfl) (ev3 rfl id)) ?_
      refine zae ?_
      refine dwp_if_f rfl (zr_f hz) ?_
      refine dwp_skip ?_
      refine zaf ?_
      refine zaf ?_
      refine zad ?_
      refine zab rfl rfl rfl (zac (.inl rfl) (ev1 rfl)) ?_
      refine zab rfl rfl rfl (zac (.inl rfl) (ev1 rfl)) ?_
      refine zab rfl rfl rfl (op_len rfl sl23 (ev1 rfl)) ?_
      refine zab rfl rfl rfl (op_gtr rfl (ev1 rfl) (ev1 rfl)) ?_
      refine zae ?_
      refine dwp_if_f rfl (by simp; omega) ?_
      refine dwp_skip ?_
      refine zaf ?_
      obtain ⟨l, q1, hl0, hne⟩ := rdNs_some (n := n - us.length) (by omega) hz hrd
      have hlt2 := rdN_lt hl0
      have hqp : p + (q1 - p) = q1 := by omega
      have hle2 := (rdN_le hl0).1
      have hld : rdN (B.drop p) 0 = some (l, q1 - p) := by rw [rdN_drop hp, hl0]; rfl
      refine zah 1 (by simp only [holes, List.cons_append, List.nil_append]; exact rfl) ?_
      refine zad ?_
      refine zab rfl rfl rfl (zac (.inl rfl) (ev1 rfl)) ?_
      refine zab rfl rfl rfl (zac (.inl rfl) (ev1 rfl)) ?_
      refine zab rfl rfl rfl (op_sldr (i := p) rfl sl23 (ev1 rfl) (bd_some (ev1 rfl)) (fun _ => by omega) (fun _ => by omega) (fun _ => rfl)) ?_
      refine zab rfl rfl rfl (zaj [] [] [] rfl (ev1 rfl) (ec (ev1 rfl) en) rfl rfl (rdd_y (B.drop p) (by rw [List.length_drop]; omega) (isB_drop hi p) l (q1 - p) hld) rfl rfl rfl rfl rfl rfl) ?_
      refine zab rfl rfl rfl (zac (.inl rfl) (ev1 rfl)) ?_
      refine zab rfl rfl rfl (op_ext rfl (ev1 rfl) rfl) ?_
      refine zab rfl rfl rfl (op_ext rfl (ev1 rfl) rfl) ?_
      refine walk_w rfl rfl rfl (op_alloc 2 rfl zr29 rfl) (by simp only [upd, za, zaa]; exact rfl) ?_
      refine walk_s rfl rfl (op_stwa rfl tb29 (ev1 rfl) (ev1 rfl) rfl (tc_len _) (tc_oc _) ((tc_len _).trans (tc_len _).symm)) (by simp only [upd, za, zaa]; exact rfl) ?_
      refine zab rfl rfl rfl (zac (.inr rfl) (ev1 rfl)) ?_
      refine zae ?_
      refine zaf ?_
      refine zaf ?_
      refine zad ?_
      refine zab rfl rfl rfl (zac (.inl rfl) (ev1 rfl)) ?_
      refine zab rfl rfl rfl (op_eql rfl (ev1 rfl) (ev1 rfl)) ?_
      refine zab rfl rfl rfl (zac (.inl rfl) (ev1 rfl)) ?_
      refine zai (gd_f rfl rfl rfl) rfl rfl rfl (op_ldw rfl tb29 (ev1 rfl) rfl (tc_len _)) ?_
      refine zai (gd_f rfl rfl rfl) rfl rfl rfl (op_ldw rfl tb29 (ev1 rfl) rfl (tc_len _)) ?_
      refine zai (gd_f rfl rfl rfl) rfl rfl rfl (op_eqr eq29 rfl gd29 tb29 (ev2 rfl) (ev2 rfl)) ?_
      refine zab rfl rfl rfl (op_or rfl (ev1 rfl) (ev3 rfl id)) ?_
      refine zae ?_
      refine dwp_if_f rfl (by simp [hne]; omega) ?_
      refine dwp_skip ?_
      refine zaf ?_
      refine zah 2 (by simp only [holes, List.cons_append, List.nil_append]; exact rfl) ?_
      refine zad ?_
      refine zab rfl rfl rfl (zac (.inl rfl) (ev1 rfl)) ?_
      refine zab rfl rfl rfl (op_ldw rfl tb29 (ev1 rfl) rfl (tc_len _)) ?_
      refine walk_w rfl rfl rfl (op_bsa (ps := [(0, .tmp 69)]) 3 rfl sl22 zr29 rfl (vc (ev1 rfl) vn) (tc_sz _) (by decide) (by decide) rfl) (by simp only [upd, za, zaa]; exact rfl) ?_
      refine walk_w rfl rfl rfl (op_app (j := 4) rfl sl22 zr29 rfl (ev1 rfl) (ev1 rfl) (src_arr rfl) rfl rfl (fun _ => tc_oc1 _) (fun _ => ⟨by omega, by omega⟩)) (by simp only [upd, za, zaa]; exact rfl) ?_
      refine zab rfl rfl rfl (zac (.inr rfl) (ev1 rfl)) ?_
      refine zae ?_
      refine zad ?_
      refine zab rfl rfl rfl (zac (.inl rfl) (ev1 rfl)) ?_
      refine zab rfl rfl rfl (zac (.inl rfl) (ev1 rfl)) ?_
      refine zab rfl rfl rfl (op_add' rfl (ev1 rfl) (ev1 rfl) (fun _ => IntWalk.i64_in _ (by omega))) ?_
      refine zab rfl rfl rfl (zac (.inr rfl) (ev1 rfl)) ?_
      refine zae ?_
      refine zad ?_
      refine zab rfl rfl rfl (op_add' rfl (ev1 rfl) (ev1 rfl) (fun _ => IntWalk.i64_in _ (by omega))) ?_
      refine zab rfl rfl rfl (zac (.inl rfl) (ev1 rfl)) ?_
      refine zae ?_
      refine ⟨(us ++ [padT l], q1), [4], ⟨by rw [List.length_append]; exact hlt, (rdN_le hl0).1, by rw [List.length_append]; exact rdNs_t (n := n - us.length) (by omega) hz hl0 hne hrd⟩, by simp only [List.length_append, List.length_cons, List.length_nil]; omega, rfl, ⟨congrArg (fun z => some (D.val (.int .i64 z))) (show (p : Int) + ((q1 - p : Nat) : Int) = (q1 : Int) by omega), by rw [List.length_append]; rfl, rfl, rfl, rfl, rfl, trivial⟩, ⟨arr_eq (by rw [List.length_append]; rfl) (tk_app us _), trivial⟩⟩
  · try simp only [yg, ya, beq_iff_eq, bne_iff_ne, yb, yc, yf, ye, yh, yi, yd, ne_eq, yj, Int.not_lt, Int.not_le] at c1
    refine dwp_exit ?_
    refine zaf ?_
    refine zad ?_
    refine zab rfl rfl rfl (zac (.inl rfl) (ev1 rfl)) ?_
    refine zab rfl rfl rfl (zac (.inl rfl) (ev1 rfl)) ?_
    refine zab rfl rfl rfl (zac (.inr rfl) (ev1 rfl)) ?_
    refine zab rfl rfl rfl (zac (.inr rfl) (ev1 rfl)) ?_
    refine zae ?_
    refine dwp_ret ?_
    have e0 : n - us.length = 0 := by omega
    rw [e0] at hrd
    have hrd2 : some (us, p) = some (ts, q) := hrd
    cases hrd2
    refine kend [0] (rs2 rfl (rv_t rfl) (rv_t rfl)) rfl rfl ?_ ⟨rfl, trivial⟩
    rfl
theorem dtl_tf (B : List Int) (hB : B.length ≤ 4000000000000000000) (hi : isB B) (n : Nat) (hn16 : n ≤ 100) (z : Int) (hz0 : z = (n : Int)) (h2 : 2 ≤ B.length) (old : List TL) (ho : n ≤ old.length) (hol : 0 < old.length) (hol2 : old.length ≤ 5000) (ts : List TL) (q : Nat) (h0 : rdNs (thereK old) B n [] 2 = some (ts, q)) : DFun Try.prog 47 [.slf 1 (B).length ((B).flatMap u8V), .val (.int .i64 z), .slf 256 old.length (old.flatMap tc)] [] (.tup [.slf 256 ts.length (ts.flatMap tc), .val (.int .i64 (q : Nat))]) [] := freeze (dtl_t B hB hi n hn16 z hz0 h2 old ho hol hol2 ts q h0) rfl
set_option maxRecDepth 4000 in
set_option maxHeartbeats 1000000 in
theorem dtl_tn (B : List Int) (hB : B.length ≤ 4000000000000000000) (hi : isB B) (n : Nat) (hn16 : n ≤ 100) (z : Int) (hz0 : z = (n : Int)) (h2 : 2 ≤ B.length) (old : List TL) (ho : n ≤ old.length) (hol : 0 < old.length) (hol2 : old.length ≤ 5000) (h0 : rdNs (thereK old) B n [] 2 = none) : DFun Try.prog 47 [.slf 1 (B).length ((B).flatMap u8V), .val (.int .i64 z), .slf 256 old.length (old.flatMap tc)] [] (.tup [.val (.slice none 0 0), .val (.int .i64 0)]) [] := by
  refine dcalls_go (N := 78) 0 (by kernel_rfl) Try.func47 rfl rfl rfl (by simp only [fr0, Nat.zero_add, Nat.reduceAdd]; exact rfl) rfl fun s0 hs0 => ?_
  refine dwp_len (t := 0) rfl fun hl0 hL0 => ?_
  refine dwp_len (t := 2) rfl fun hl2 hL2 => ?_
  refine zaf ?_
  refine zad ?_
  refine zab rfl rfl rfl (zac (.inr rfl) (ev1 rfl)) ?_
  refine zab rfl rfl rfl (zac (.inr rfl) (ev1 rfl)) ?_
  refine zae ?_
  refine zaf ?_
  refine zad ?_
  refine zab rfl rfl rfl (zac (.inr rfl) (ev1 rfl)) ?_
  refine zae ?_
  refine zaf ?_
  refine zad ?_
  refine zab rfl rfl rfl (zac (.inr rfl) (ev1 rfl)) ?_
  refine zae ?_
  refine zaf ?_
  refine zaf ?_
  refine zad ?_
  refine zab rfl rfl rfl (zac (.inl rfl) (ev1 rfl)) ?_
  refine zab rfl rfl rfl (zac (.inl rfl) (ev1 rfl)) ?_
  refine zae ?_
  refine dwp_block ?_
  refine dwp_adopt 8 29 256 rfl rfl rfl ?_
  refine dwp_loopS ⟨hs0, rfl⟩ (α := List TL × Nat) (fun x => [(9, .val (.int .i64 (x.2 : Int))), (15, .val (.int .i64 (x.1.length : Int)))]) [(0, _), (2, _), (8, _), (14, _)] (fun x => [(0, .arr 29 256 (x.1).length ((x.1).flatMap tc))]) [.hole] (fun x => x.1.length ≤ n ∧ x.2 ≤ B.length ∧ rdNs (thereK old) B (n - x.1.length) x.1 x.2 = none) (fun x => n - x.1.length) ([], 2) [0] (⟨Nat.zero_le _, h2, h0⟩) rfl ⟨rfl, rfl, rfl, rfl, trivial⟩ ⟨rfl, rfl, trivial⟩ ⟨rfl, trivial⟩ ?_
  intro x hx
  simp only [upd, za, zaa, List.cons_append, List.nil_append]
  obtain ⟨us, p⟩ := x
  obtain ⟨hul, hp, hrd⟩ := hx
  dsimp only at hul hp hrd ⊢
  have hus : us.length ≤ 5000 := by omega
  refine zaf ?_
  refine zad ?_
  refine zab rfl rfl rfl (op_lss rfl (ev1 rfl) (ev1 rfl)) ?_
  refine zae ?_
  refine zaf ?_
  refine dwp_cond rfl (fun c1 => ?_) (fun c1 => ?_)
  · try simp only [yg, ya, beq_iff_eq, bne_iff_ne, yb, yc, yf, ye, yh, yi, yd, ne_eq, yj, Int.not_lt, Int.not_le] at c1
    have hlt : us.length < n := by omega
    refine dwp_skip ?_
    refine zaf ?_
    refine dwp_block ?_
    refine zaf ?_
    refine zad ?_
    refine zab rfl rfl rfl (zac (.inl rfl) (ev1 rfl)) ?_
    refine zab rfl rfl rfl (zac (.inr rfl) (ev1 rfl)) ?_
    refine zae ?_
    refine zaf ?_
    refine zah 1 (by simp only [holes, List.cons_append, List.nil_append]; exact rfl) ?_
    refine zad ?_
    refine zab rfl rfl rfl (op_build0a rfl ar29 zr29) ?_
    refine walk_w rfl rfl rfl (op_alloc 1 rfl zr29 rfl) (by simp only [upd, za, zaa]; exact rfl) ?_
    refine walk_s rfl rfl (op_stwa rfl tb29 (ev1 rfl) (ev1 rfl) rfl (tc_len _) (tc_oc _) ((tc_len _).trans (tc_len _).symm)) (by simp only [upd, za, zaa]; exact rfl) ?_
    refine zae ?_
    refine zaf ?_
    refine zaf ?_
    refine zad ?_
    refine zab rfl rfl rfl (zac (.inl rfl) (ev1 rfl)) ?_
    refine zab rfl rfl rfl (op_len rfl sl22 (ev1 rfl)) ?_
    refine zab rfl rfl rfl (op_gtr rfl (ev1 rfl) (ev1 rfl)) ?_
    refine zae ?_
    refine dwp_if_t rfl (by simp; omega) ?_
    refine zad ?_
    refine zab rfl rfl rfl (zac (.inl rfl) (ev1 rfl)) ?_
    refine zab rfl rfl rfl (zac (.inl rfl) (ev1 rfl)) ?_
    refine zab rfl rfl rfl (op_ixsr (j := us.length) rfl sl22 (ev1 rfl) (ev1 rfl) tc_len (by decide) (by omega) (by omega)) ?_
    refine zab rfl rfl rfl (op_ldwd rfl tb29 (ev1 rfl) (tc_len _)) ?_
    refine walk_s rfl rfl (op_stwa rfl tb29 (ev1 rfl) (ev1 rfl) rfl (tc_len _) (tc_oc _) ((tc_len _).trans (tc_len _).symm)) (by simp only [upd, za, zaa]; exact rfl) ?_
    refine zae ?_
    refine zaf ?_
    refine zaf ?_
    by_cases hz : zrB B p = true
    · refine dwp_eqB 1 (show Blk.flat 29 (tc (old[us.length])) = .flat 29 (tc ((thereK old) us)) from by rw [thereK_at (by omega)]) rfl (by simp only [List.cons_append, List.nil_append, za, zaa]; exact rfl) ?_
      refine zad ?_
      refine zab rfl rfl rfl (zac (.inl rfl) (ev1 rfl)) ?_
      refine zab rfl rfl rfl (zac (.inl rfl) (ev1 rfl)) ?_
      refine zab rfl rfl rfl (op_len rfl sl23 (ev1 rfl)) ?_
      refine zab rfl rfl rfl (op_lss rfl (ev1 rfl) (ev1 rfl)) ?_
      refine zab rfl rfl rfl (zac (.inl rfl) (ev1 rfl)) ?_
      refine zai (gd_t rfl rfl rfl) rfl rfl rfl (zac (.inl rfl) (ev1 rfl)) ?_
      refine zai (gd_t rfl rfl rfl) rfl rfl rfl (zac (.inl rfl) (ev1 rfl)) ?_
      refine zai (gd_t rfl rfl rfl) rfl rfl rfl (op_ixsg (j := p) ((0 : Int)) rfl sl23 (ev2 rfl) (ev2 rfl) (fun _ => rfl) (by decide) (fun hp => by first | omega | (simp at hp; omega)) (fun hp => by first | omega | (simp at hp; omega))) ?_
      refine zai (gd_t rfl rfl rfl) rfl rfl rfl (op_ldod rfl tb5 (ev2 rfl) rfl) ?_
      refine zai (gd_t rfl rfl rfl) rfl rfl rfl (op_eql rfl (ev2 rfl) (ev1 rfl)) ?_
      refine zab rfl rfl rfl (op_and rfl (ev1 rfl) (ev3 rfl id)) ?_
      refine zae ?_
      refine dwp_if_t rfl (zr_t hz) ?_
      refine zaf ?_
      refine zah 2 (by simp only [holes, List.cons_append, List.nil_append]; exact rfl) ?_
      refine zad ?_
      refine zab rfl rfl rfl (zac (.inl rfl) (ev1 rfl)) ?_
      refine zab rfl rfl rfl (op_ldw rfl tb29 (ev1 rfl) rfl (tc_len _)) ?_
      refine walk_w rfl rfl rfl (op_bsa (ps := [(0, .tmp 45)]) 2 rfl sl22 zr29 rfl (vc (ev1 rfl) vn) (tc_sz _) (by decide) (by decide) rfl) (by simp only [upd, za, zaa]; exact rfl) ?_
      refine walk_w rfl rfl rfl (op_app (j := 3) rfl sl22 zr29 rfl (ev1 rfl) (ev1 rfl) (src_arr rfl) rfl rfl (fun _ => tc_oc1 _) (fun _ => ⟨by omega, by omega⟩)) (by simp only [upd, za, zaa]; exact rfl) ?_
      refine zab rfl rfl rfl (zac (.inr rfl) (ev1 rfl)) ?_
      refine zae ?_
      refine zaf ?_
      refine zad ?_
      refine zab rfl rfl rfl (zac (.inl rfl) (ev1 rfl)) ?_
      refine zab rfl rfl rfl (op_add' rfl (ev1 rfl) (ev1 rfl) (fun _ => IntWalk.i64_in _ (by omega))) ?_
      refine zab rfl rfl rfl (zac (.inr rfl) (ev1 rfl)) ?_
      refine zae ?_
      refine dwp_exit ?_
      refine zad ?_
      refine zab rfl rfl rfl (op_add' rfl (ev1 rfl) (ev1 rfl) (fun _ => IntWalk.i64_in _ (by omega))) ?_
      refine zab rfl rfl rfl (zac (.inl rfl) (ev1 rfl)) ?_
      refine zae ?_
      refine ⟨(us ++ [(thereK old) us], p + 1), [3], ⟨by rw [List.length_append]; exact hlt, (zrB_iff.1 hz).1, by rw [List.length_append]; exact rdNs_z (n := n - us.length) (by omega) hz hrd⟩, by simp only [List.length_append, List.length_cons, List.length_nil]; omega, rfl, ⟨rfl, by rw [List.length_append]; rfl, rfl, rfl, rfl, rfl, trivial⟩, ⟨arr_eq (by rw [List.length_append]; rfl) (tk_app us _), trivial⟩⟩
    · refine dwp_eqB 1 (show Blk.flat 29 (tc (old[us.length])) = .flat 29 (tc ((thereK old) us)) from by rw [thereK_at (by omega)]) rfl (by simp only [List.cons_append, List.nil_append, za, zaa]; exact rfl) ?_
      refine zad ?_
      refine zab rfl rfl rfl (zac (.inl rfl) (ev1 rfl)) ?_
      refine zab rfl rfl rfl (zac (.inl rfl) (ev1 rfl)) ?_
      refine zab rfl rfl rfl (op_len rfl sl23 (ev1 rfl)) ?_
      refine zab rfl rfl rfl (op_lss rfl (ev1 rfl) (ev1 rfl)) ?_
      refine zab rfl rfl rfl (zac (.inl rfl) (ev1 rfl)) ?_
      refine zai (gd_t rfl rfl rfl) rfl rfl rfl (zac (.inl rfl) (ev1 rfl)) ?_
      refine zai (gd_t rfl rfl rfl) rfl rfl rfl (zac (.inl rfl) (ev1 rfl)) ?_
      refine zai (gd_t rfl rfl rfl) rfl rfl rfl (op_ixsg (j := p) ((0 : Int)) rfl sl23 (ev2 rfl) (ev2 rfl) (fun _ => rfl) (by decide) (fun hp => by first | omega | (simp at hp; omega)) (fun hp => by first | omega | (simp at hp; omega))) ?_
      refine zai (gd_t rfl rfl rfl) rfl rfl rfl (op_ldod rfl tb5 (ev2 rfl) rfl) ?_
      refine zai (gd_t rfl rfl rfl) rfl rfl rfl (op_eql rfl (ev2 rfl) (ev1 rfl)) ?_
      refine zab rfl rfl rfl (op_and rfl (ev1 rfl) (ev3 rfl id)) ?_
      refine zae ?_
      refine dwp_if_f rfl (zr_f hz) ?_
      refine dwp_skip ?_
      refine zaf ?_
      refine zaf ?_
      refine zad ?_
      refine zab rfl rfl rfl (zac (.inl rfl) (ev1 rfl)) ?_
      refine zab rfl rfl rfl (zac (.inl rfl) (ev1 rfl)) ?_
      refine zab rfl rfl rfl (op_len rfl sl23 (ev1 rfl)) ?_
      refine zab rfl rfl rfl (op_gtr rfl (ev1 rfl) (ev1 rfl)) ?_
      refine zae ?_
      refine dwp_if_f rfl (by simp; omega) ?_
      refine dwp_skip ?_
      refine zaf ?_
      by_cases hno : ∀ l q, rdN B p = some (l, q) → padT l = (thereK old) us
      · by_cases hn0 : rdN B p = none
        · have hld : rdN (B.drop p) 0 = none := by rw [rdN_drop hp, hn0]; rfl
          refine zah 1 (by simp only [holes, List.cons_append, List.nil_append]; exact rfl) ?_
          refine zad ?_
          refine zab rfl rfl rfl (zac (.inl rfl) (ev1 rfl)) ?_
          refine zab rfl rfl rfl (zac (.inl rfl) (ev1 rfl)) ?_
          refine zab rfl rfl rfl (op_sldr (i := p) rfl sl23 (ev1 rfl) (bd_some (ev1 rfl)) (fun _ => by omega) (fun _ => by omega) (fun _ => rfl)) ?_
          refine zab rfl rfl rfl (zaj [] [] [] rfl (ev1 rfl) (ec (ev1 rfl) en) rfl rfl (rdd_n (B.drop p) (by rw [List.length_drop]; omega) (isB_drop hi p) hld) rfl rfl rfl rfl rfl rfl) ?_
          refine zab rfl rfl rfl (zac (.inl rfl) (ev1 rfl)) ?_
          refine zab rfl rfl rfl (op_ext rfl (ev1 rfl) rfl) ?_
          refine zab rfl rfl rfl (op_ext rfl (ev1 rfl) rfl) ?_
          refine walk_w rfl rfl rfl (op_alloc 2 rfl zr29 rfl) (by simp only [upd, za, zaa]; exact rfl) ?_
          refine walk_s rfl rfl (op_stwa rfl tb29 (ev1 rfl) (ev1 rfl) rfl (tc_len _) (tc_oc _) ((tc_len _).trans (tc_len _).symm)) (by simp only [upd, za, zaa]; exact rfl) ?_
          refine zab rfl rfl rfl (zac (.inr rfl) (ev1 rfl)) ?_
          refine zae ?_
          refine zaf ?_
          refine zaf ?_
          refine zad ?_
          refine zab rfl rfl rfl (zac (.inl rfl) (ev1 rfl)) ?_
          refine zab rfl rfl rfl (op_eql rfl (ev1 rfl) (ev1 rfl)) ?_
          refine zab rfl rfl rfl (zac (.inl rfl) (ev1 rfl)) ?_
          refine zai (gd_f rfl rfl rfl) rfl rfl rfl (op_ldw rfl tb29 (ev1 rfl) rfl (tc_len _)) ?_
          refine zai (gd_f rfl rfl rfl) rfl rfl rfl (op_ldw rfl tb29 (ev1 rfl) rfl (tc_len _)) ?_
          refine zai (gd_f rfl rfl rfl) rfl rfl rfl (op_eqr eq29 rfl gd29 tb29 (ev2 rfl) (ev2 rfl)) ?_
          refine zab rfl rfl rfl (op_or rfl (ev1 rfl) (ev3 rfl id)) ?_
          refine zae ?_
          refine dwp_if_t rfl (rfl) ?_
          refine zaf ?_
          refine zad ?_
          refine zab rfl rfl rfl (zac (.inr rfl) (ev1 rfl)) ?_
          refine zab rfl rfl rfl (zac (.inr rfl) (ev1 rfl)) ?_
          refine zae ?_
          refine dwp_ret ?_
          refine kend0 (rs2 rfl (rv_t rfl) (rv_t rfl)) rfl ?_
          rfl
        · obtain ⟨⟨l, q1⟩, hl0⟩ : ∃ x, rdN B p = some x := by
            cases h1 : rdN B p with
            | none => exact absurd h1 hn0
            | some x => exact ⟨x, rfl⟩
          have heq := hno l q1 hl0
          have hld : rdN (B.drop p) 0 = some (l, q1 - p) := by rw [rdN_drop hp, hl0]; rfl
          refine zah 1 (by simp only [holes, List.cons_append, List.nil_append]; exact rfl) ?_
          refine zad ?_
          refine zab rfl rfl rfl (zac (.inl rfl) (ev1 rfl)) ?_
          refine zab rfl rfl rfl (zac (.inl rfl) (ev1 rfl)) ?_
          refine zab rfl rfl rfl (op_sldr (i := p) rfl sl23 (ev1 rfl) (bd_some (ev1 rfl)) (fun _ => by omega) (fun _ => by omega) (fun _ => rfl)) ?_
          refine zab rfl rfl rfl (zaj [] [] [] rfl (ev1 rfl) (ec (ev1 rfl) en) rfl rfl (rdd_y (B.drop p) (by rw [List.length_drop]; omega) (isB_drop hi p) l (q1 - p) hld) rfl rfl rfl rfl rfl rfl) ?_
          refine zab rfl rfl rfl (zac (.inl rfl) (ev1 rfl)) ?_
          refine zab rfl rfl rfl (op_ext rfl (ev1 rfl) rfl) ?_
          refine zab rfl rfl rfl (op_ext rfl (ev1 rfl) rfl) ?_
          refine walk_w rfl rfl rfl (op_alloc 2 rfl zr29 rfl) (by simp only [upd, za, zaa]; exact rfl) ?_
          refine walk_s rfl rfl (op_stwa rfl tb29 (ev1 rfl) (ev1 rfl) rfl (tc_len _) (tc_oc _) ((tc_len _).trans (tc_len _).symm)) (by simp only [upd, za, zaa]; exact rfl) ?_
          refine zab rfl rfl rfl (zac (.inr rfl) (ev1 rfl)) ?_
          refine zae ?_
          refine zaf ?_
          refine zaf ?_
          refine zad ?_
          refine zab rfl rfl rfl (zac (.inl rfl) (ev1 rfl)) ?_
          refine zab rfl rfl rfl (op_eql rfl (ev1 rfl) (ev1 rfl)) ?_
          refine zab rfl rfl rfl (zac (.inl rfl) (ev1 rfl)) ?_
          refine zai (gd_f rfl rfl rfl) rfl rfl rfl (op_ldw rfl tb29 (ev1 rfl) rfl (tc_len _)) ?_
          refine zai (gd_f rfl rfl rfl) rfl rfl rfl (op_ldw rfl tb29 (ev1 rfl) rfl (tc_len _)) ?_
          refine zai (gd_f rfl rfl rfl) rfl rfl rfl (op_eqr eq29 rfl gd29 tb29 (ev2 rfl) (ev2 rfl)) ?_
          refine zab rfl rfl rfl (op_or rfl (ev1 rfl) (ev3 rfl id)) ?_
          refine zae ?_
          refine dwp_if_t rfl (by simp [heq]) ?_
          refine zaf ?_
          refine zad ?_
          refine zab rfl rfl rfl (zac (.inr rfl) (ev1 rfl)) ?_
          refine zab rfl rfl rfl (zac (.inr rfl) (ev1 rfl)) ?_
          refine zae ?_
          refine dwp_ret ?_
          refine kend0 (rs2 rfl (rv_t rfl) (rv_t rfl)) rfl ?_
          rfl
      · obtain ⟨l, q1, hl0, hne⟩ : ∃ l q, rdN B p = some (l, q) ∧ padT l ≠ (thereK old) us := by simpa using hno
        have hlt2 := rdN_lt hl0
        have hqp : p + (q1 - p) = q1 := by omega
        have hle2 := (rdN_le hl0).1
        have hld : rdN (B.drop p) 0 = some (l, q1 - p) := by rw [rdN_drop hp, hl0]; rfl
        refine zah 1 (by simp only [holes, List.cons_append, List.nil_append]; exact rfl) ?_
        refine zad ?_
        refine zab rfl rfl rfl (zac (.inl rfl) (ev1 rfl)) ?_
        refine zab rfl rfl rfl (zac (.inl rfl) (ev1 rfl)) ?_
        refine zab rfl rfl rfl (op_sldr (i := p) rfl sl23 (ev1 rfl) (bd_some (ev1 rfl)) (fun _ => by omega) (fun _ => by omega) (fun _ => rfl)) ?_
        refine zab rfl rfl rfl (zaj [] [] [] rfl (ev1 rfl) (ec (ev1 rfl) en) rfl rfl (rdd_y (B.drop p) (by rw [List.length_drop]; omega) (isB_drop hi p) l (q1 - p) hld) rfl rfl rfl rfl rfl rfl) ?_
        refine zab rfl rfl rfl (zac (.inl rfl) (ev1 rfl)) ?_
        refine zab rfl rfl rfl (op_ext rfl (ev1 rfl) rfl) ?_
        refine zab rfl rfl rfl (op_ext rfl (ev1 rfl) rfl) ?_
        refine walk_w rfl rfl rfl (op_alloc 2 rfl zr29 rfl) (by simp only [upd, za, zaa]; exact rfl) ?_
        refine walk_s rfl rfl (op_stwa rfl tb29 (ev1 rfl) (ev1 rfl) rfl (tc_len _) (tc_oc _) ((tc_len _).trans (tc_len _).symm)) (by simp only [upd, za, zaa]; exact rfl) ?_
        refine zab rfl rfl rfl (zac (.inr rfl) (ev1 rfl)) ?_
        refine zae ?_
        refine zaf ?_
        refine zaf ?_
        refine zad ?_
        refine zab rfl rfl rfl (zac (.inl rfl) (ev1 rfl)) ?_
        refine zab rfl rfl rfl (op_eql rfl (ev1 rfl) (ev1 rfl)) ?_
        refine zab rfl rfl rfl (zac (.inl rfl) (ev1 rfl)) ?_
        refine zai (gd_f rfl rfl rfl) rfl rfl rfl (op_ldw rfl tb29 (ev1 rfl) rfl (tc_len _)) ?_
        refine zai (gd_f rfl rfl rfl) rfl rfl rfl (op_ldw rfl tb29 (ev1 rfl) rfl (tc_len _)) ?_
        refine zai (gd_f rfl rfl rfl) rfl rfl rfl (op_eqr eq29 rfl gd29 tb29 (ev2 rfl) (ev2 rfl)) ?_
        refine zab rfl rfl rfl (op_or rfl (ev1 rfl) (ev3 rfl id)) ?_
        refine zae ?_
        refine dwp_if_f rfl (by simp [hne]; omega) ?_
        refine dwp_skip ?_
        refine zaf ?_
        refine zah 2 (by simp only [holes, List.cons_append, List.nil_append]; exact rfl) ?_
        refine zad ?_
        refine zab rfl rfl rfl (zac (.inl rfl) (ev1 rfl)) ?_
        refine zab rfl rfl rfl (op_ldw rfl tb29 (ev1 rfl) rfl (tc_len _)) ?_
        refine walk_w rfl rfl rfl (op_bsa (ps := [(0, .tmp 69)]) 3 rfl sl22 zr29 rfl (vc (ev1 rfl) vn) (tc_sz _) (by decide) (by decide) rfl) (by simp only [upd, za, zaa]; exact rfl) ?_
        refine walk_w rfl rfl rfl (op_app (j := 4) rfl sl22 zr29 rfl (ev1 rfl) (ev1 rfl) (src_arr rfl) rfl rfl (fun _ => tc_oc1 _) (fun _ => ⟨by omega, by omega⟩)) (by simp only [upd, za, zaa]; exact rfl) ?_
        refine zab rfl rfl rfl (zac (.inr rfl) (ev1 rfl)) ?_
        refine zae ?_
        refine zad ?_
        refine zab rfl rfl rfl (zac (.inl rfl) (ev1 rfl)) ?_
        refine zab rfl rfl rfl (zac (.inl rfl) (ev1 rfl)) ?_
        refine zab rfl rfl rfl (op_add' rfl (ev1 rfl) (ev1 rfl) (fun _ => IntWalk.i64_in _ (by omega))) ?_
        refine zab rfl rfl rfl (zac (.inr rfl) (ev1 rfl)) ?_
        refine zae ?_
        refine zad ?_
        refine zab rfl rfl rfl (op_add' rfl (ev1 rfl) (ev1 rfl) (fun _ => IntWalk.i64_in _ (by omega))) ?_
        refine zab rfl rfl rfl (zac (.inl rfl) (ev1 rfl)) ?_
        refine zae ?_
        refine ⟨(us ++ [padT l], q1), [4], ⟨by rw [List.length_append]; exact hlt, (rdN_le hl0).1, by rw [List.length_append]; exact rdNs_t (n := n - us.length) (by omega) hz hl0 hne hrd⟩, by simp only [List.length_append, List.length_cons, List.length_nil]; omega, rfl, ⟨congrArg (fun z => some (D.val (.int .i64 z))) (show (p : Int) + ((q1 - p : Nat) : Int) = (q1 : Int) by omega), by rw [List.length_append]; rfl, rfl, rfl, rfl, rfl, trivial⟩, ⟨arr_eq (by rw [List.length_append]; rfl) (tk_app us _), trivial⟩⟩
  · have c2 : ¬ ((us.length : Int) < z) := by simpa using c1
    have e0 : n - us.length = 0 := by omega
    rw [e0] at hrd
    exact absurd (show some (us, p) = none from hrd) (fun e => by cases e)
end Go.Proofs.Ytcbfnbfhlofkiaa
namespace Go.Proofs.Ytcbfnbfhlofkiaa
set_option maxRecDepth 4000
set_option linter.unusedVariables false
set_option linter.unusedSimpArgs false
open Go.RowKit
attribute [local irreducible] runG bytesG posG tileB tilesB padT rdP rdN mayG rdQ rdNs
theorem rcC {B : List Int} {b : Bool} (h2 : 0 + 2 ≤ B.length) (hm : mayS (bAt B 0) (bAt B 1) = b) : (decide ((B.length : Int) < 2) || !(mayS (B.getD 0 0) (B.getD 1 0))) = !b := by
  have e : mayS (B.getD 0 0) (B.getD 1 0) = b := hm
  rw [e, decide_eq_false (by omega)]
  rfl
theorem wk_zd : Wk (.tup [.val (.agg #[.int .i64 0, .int .i64 0, .slice none 0 0]), .val (.int .i64 0)]) (.tup [.agg [.val (.int .i64 0), .val (.int .i64 0), .slf 256 0 []], .val (.int .i64 0)]) := Wk.tup (.cons ((Wk.vagg _).trans (Wk.agg (.cons (.refl _) (.cons (.refl _) (.cons (Wk.slf0 256) .nil))))) (.cons (.refl _) .nil))
set_option maxRecDepth 4000 in
set_option maxHeartbeats 1000000 in
theorem rcd_y (B : List Int) (hB : B.length ≤ 4000000000000000000) (hi : isB B) (n : Nat) (h2 : 0 + 2 ≤ B.length) (hm : mayS (bAt B 0) (bAt B 1) = true) (hn : bAt B 0 * bAt B 1 = (n : Int)) (hn16 : n ≤ 100) (ts : List TL) (q : Nat) (h0 : rdNs aheadK B n [] 2 = some (ts, q)) : DFun Try.prog 24 [.slf 1 (B).length ((B).flatMap u8V)] [] (.tup [.agg [.val (.int .i64 (bAt B 0)), .val (.int .i64 (bAt B 1)), .slf 256 ts.length (ts.flatMap tc)], .val (.int .i64 (q : Nat))]) [] := by
  have hb0 := bAt_in hi 0
  have hb1 := bAt_in hi 1
  have hq2 := (rdNs_len h2 h0).2.1
  refine dcalls_go (N := 50) 0 (by kernel_rfl) Try.func24 rfl rfl rfl (by simp only [fr0, Nat.zero_add, Nat.reduceAdd]; exact rfl) rfl fun s0 hs0 => ?_
  refine dwp_len (t := 0) rfl fun hl0 hL0 => ?_
  refine zaf ?_
  refine zah 1 (by simp only [holes, List.cons_append, List.nil_append]; exact rfl) ?_
  refine zad ?_
  refine walk_w rfl rfl rfl (op_alloc 0 rfl zr41 rfl) (by simp only [upd, za, zaa]; exact rfl) ?_
  refine zab rfl rfl rfl (zac (.inr rfl) (ev1 rfl)) ?_
  refine zae ?_
  refine zaf ?_
  refine zaf ?_
  refine dwp_draw [([], []), ([], []), ([], []), ([], []), ([], []), ([], []), ([], []), ([], []), ([], []), ([], []), ([], []), ([], []), ([], []), ([], []), ([], [])] mixed (by kernel_rfl) ?_
  refine zag rfl rfl (zac (.inl rfl) (ev1 rfl)) ?_
  refine zag rfl rfl (op_len rfl sl23 (ev1 rfl)) ?_
  refine zag rfl rfl (op_lss rfl (ev1 rfl) (ev1 rfl)) ?_
  refine zag rfl rfl (zac (.inl rfl) (ev1 rfl)) ?_
  refine lex_gr (gd_f rfl rfl rfl) rfl rfl (zac (.inl rfl) (ev1 rfl)) ?_
  refine lex_gr (gd_f rfl rfl rfl) rfl rfl (op_ixsg (j := 0) ((0 : Int)) rfl sl23 (ev2 rfl) (ev1 rfl) (fun _ => rfl) (by decide) (fun hp => by first | omega | (simp at hp; omega)) (fun hp => by first | omega | (simp at hp; omega))) ?_
  refine lex_gr (gd_f rfl rfl rfl) rfl rfl (op_ldod rfl tb5 (ev2 rfl) rfl) ?_
  refine lex_gr (gd_f rfl rfl rfl) rfl rfl (op_conv' ty5 kn3 rfl (ev2 rfl) (fun _ => by have h9 := bAt_in hi 0; unfold bAt at h9; exact IntWalk.i64_in _ (by omega))) ?_
  refine lex_gr (gd_f rfl rfl rfl) rfl rfl (zac (.inl rfl) (ev1 rfl)) ?_
  refine lex_gr (gd_f rfl rfl rfl) rfl rfl (op_ixsg (j := 1) ((0 : Int)) rfl sl23 (ev2 rfl) (ev1 rfl) (fun _ => rfl) (by decide) (fun hp => by first | omega | (simp at hp; omega)) (fun hp => by first | omega | (simp at hp; omega))) ?_
  refine lex_gr (gd_f rfl rfl rfl) rfl rfl (op_ldod rfl tb5 (ev2 rfl) rfl) ?_
  refine lex_gr (gd_f rfl rfl rfl) rfl rfl (op_conv' ty5 kn3 rfl (ev2 rfl) (fun _ => by have h9 := bAt_in hi 1; unfold bAt at h9; exact IntWalk.i64_in _ (by omega))) ?_
  refine lex_gr (gd_f rfl rfl rfl) rfl rfl (zaj [] [] [] rfl (ev1 rfl) (ec (ev2 rfl) (ec (ev2 rfl) en)) rfl rfl (rsizes_d _ _) rfl rfl rfl rfl rfl rfl) ?_
  refine lex_gr (gd_f rfl rfl rfl) rfl rfl (op_not rfl (ev2 rfl)) ?_
  refine zag rfl rfl (op_or rfl (ev1 rfl) (ev3 rfl id)) ?_
  refine lex_nil ?_
  refine dwp_if_f rfl (rcC h2 hm) ?_
  refine dwp_skip ?_
  refine zaf ?_
  refine dwp_draw [([], []), ([], []), ([], []), ([], []), ([], []), ([], []), ([], []), ([], []), ([], []), ([], []), ([], []), ([], []), ([], []), ([], []), ([], []), ([], [])] mixed (by kernel_rfl) ?_
  refine zag rfl rfl (zac (.inl rfl) (ev1 rfl)) ?_
  refine zag rfl rfl (zac (.inl rfl) (ev1 rfl)) ?_
  refine zag rfl rfl (op_ixsr (j := 0) rfl sl23 (ev1 rfl) (ev1 rfl) (fun _ => rfl) (by decide) (by omega) (by omega)) ?_
  refine zag rfl rfl ((op_ldod rfl tb5 (ev1 rfl) rfl).wk (Wk.of_eq (d' := .val (.int .u8 (bAt B 0))) (by rw [bAt_eq (by omega)]))) ?_
  refine zag rfl rfl (op_conv' ty5 kn3 rfl (ev1 rfl) (fun _ => IntWalk.i64_in _ (by omega))) ?_
  refine zag rfl rfl (zac (.inl rfl) (ev1 rfl)) ?_
  refine zag rfl rfl (op_ixsr (j := 1) rfl sl23 (ev1 rfl) (ev1 rfl) (fun _ => rfl) (by decide) (by omega) (by omega)) ?_
  refine zag rfl rfl ((op_ldod rfl tb5 (ev1 rfl) rfl).wk (Wk.of_eq (d' := .val (.int .u8 (bAt B 1))) (by rw [bAt_eq (by omega)]))) ?_
  refine zag rfl rfl (op_conv' ty5 kn3 rfl (ev1 rfl) (fun _ => IntWalk.i64_in _ (by omega))) ?_
  refine zag rfl rfl (op_mul' rfl (ev1 rfl) (ev1 rfl) (fun _ => IntWalk.i64_in _ (by omega))) ?_
  refine zag rfl rfl (zaj [] [] [] rfl (ev1 rfl) (ec (ev1 rfl) (ec (ev1 rfl) (ec (evnil 256 (ev1 rfl)) en))) rfl rfl (dtl_af B hB hi n hn16 (bAt B 0 * bAt B 1) hn h2 ts q h0) rfl rfl rfl rfl rfl rfl) ?_
  refine zag rfl rfl (zac (.inl rfl) (ev1 rfl)) ?_
  refine zag rfl rfl (op_ext rfl (ev1 rfl) rfl) ?_
  refine zag rfl rfl (op_ext rfl (ev1 rfl) rfl) ?_
  refine zag rfl rfl (zac (.inr rfl) (ev1 rfl)) ?_
  refine zag rfl rfl (zac (.inr rfl) (ev1 rfl)) ?_
  refine lex_nil ?_
  refine zaf ?_
  refine zaf ?_
  refine zad ?_
  refine zab rfl rfl rfl (zac (.inl rfl) (ev1 rfl)) ?_
  refine zab rfl rfl rfl (op_eql rfl (ev1 rfl) (ev1 rfl)) ?_
  refine zae ?_
  refine dwp_if_f rfl (by simp; omega) ?_
  refine dwp_skip ?_
  refine zaf ?_
  refine dwp_draw [([], []), ([], []), ([], []), ([], []), ([], []), ([], []), ([], []), ([], []), ([], []), ([], []), ([], []), ([0], [0]), ([], [])] mixed (by kernel_rfl) ?_
  refine zag rfl rfl (zac (.inl rfl) (ev1 rfl)) ?_
  refine zag rfl rfl (op_ixsr (j := 0) rfl sl23 (ev1 rfl) (ev1 rfl) (fun _ => rfl) (by decide) (by omega) (by omega)) ?_
  refine zag rfl rfl ((op_ldod rfl tb5 (ev1 rfl) rfl).wk (Wk.of_eq (d' := .val (.int .u8 (bAt B 0))) (by rw [bAt_eq (by omega)]))) ?_
  refine zag rfl rfl (op_conv' ty5 kn3 rfl (ev1 rfl) (fun _ => IntWalk.i64_in _ (by omega))) ?_
  refine zag rfl rfl (zac (.inl rfl) (ev1 rfl)) ?_
  refine zag rfl rfl (op_ixsr (j := 1) rfl sl23 (ev1 rfl) (ev1 rfl) (fun _ => rfl) (by decide) (by omega) (by omega)) ?_
  refine zag rfl rfl ((op_ldod rfl tb5 (ev1 rfl) rfl).wk (Wk.of_eq (d' := .val (.int .u8 (bAt B 1))) (by rw [bAt_eq (by omega)]))) ?_
  refine zag rfl rfl (op_conv' ty5 kn3 rfl (ev1 rfl) (fun _ => IntWalk.i64_in _ (by omega))) ?_
  refine zag rfl rfl (zac (.inl rfl) (ev1 rfl)) ?_
  refine zag rfl rfl (op_bldD (ps := [(0, .tmp 42), (1, .tmp 46), (2, .tmp 47)]) rfl fl41 zr41 (ec (ev1 rfl) (ec (ev1 rfl) (ec (ev1 rfl) en))) rfl rfl rfl) ?_
  refine zag rfl rfl (zac (.inl rfl) (ev1 rfl)) ?_
  refine lex_s rfl rfl (op_stam rfl tb41 (ev1 rfl) (ev1 rfl) rfl rfl rfl rfl) rfl (by simp only [upd, za, zaa]; exact rfl) ?_
  refine zag rfl rfl (zac (.inr rfl) (ev1 rfl)) ?_
  refine lex_nil ?_
  refine dwp_ret ?_
  refine kend0 (rs2 rfl (rv_mw tb41 rfl rfl rfl) (rv_t rfl)) rfl ?_
  rfl
set_option maxRecDepth 4000 in
set_option maxHeartbeats 1000000 in
theorem rcd_n3 (B : List Int) (hB : B.length ≤ 4000000000000000000) (hi : isB B) (n : Nat) (h2 : 0 + 2 ≤ B.length) (hm : mayS (bAt B 0) (bAt B 1) = true) (hn : bAt B 0 * bAt B 1 = (n : Int)) (hn16 : n ≤ 100) (h0 : rdNs aheadK B n [] 2 = none) : DFun Try.prog 24 [.slf 1 (B).length ((B).flatMap u8V)] [] (.tup [.val (.agg #[.int .i64 0, .int .i64 0, .slice none 0 0]), .val (.int .i64 0)]) [] := by
  have hb0 := bAt_in hi 0
  have hb1 := bAt_in hi 1
  refine dcalls_go (N := 50) 0 (by kernel_rfl) Try.func24 rfl rfl rfl (by simp only [fr0, Nat.zero_add, Nat.reduceAdd]; exact rfl) rfl fun s0 hs0 => ?_
  refine dwp_len (t := 0) rfl fun hl0 hL0 => ?_
  refine zaf ?_
  refine zah 1 (by simp only [holes, List.cons_append, List.nil_append]; exact rfl) ?_
  refine zad ?_
  refine walk_w rfl rfl rfl (op_alloc 0 rfl zr41 rfl) (by simp only [upd, za, zaa]; exact rfl) ?_
  refine zab rfl rfl rfl (zac (.inr rfl) (ev1 rfl)) ?_
  refine zae ?_
  refine zaf ?_
  refine zaf ?_
  refine dwp_draw [([], []), ([], []), ([], []), ([], []), ([], []), ([], []), ([], []), ([], []), ([], []), ([], []), ([], []), ([], []), ([], []), ([], []), ([], [])] mixed (by kernel_rfl) ?_
  refine zag rfl rfl (zac (.inl rfl) (ev1 rfl)) ?_
  refine zag rfl rfl (op_len rfl sl23 (ev1 rfl)) ?_
  refine zag rfl rfl (op_lss rfl (ev1 rfl) (ev1 rfl)) ?_
  refine zag rfl rfl (zac (.inl rfl) (ev1 rfl)) ?_
  refine lex_gr (gd_f rfl rfl rfl) rfl rfl (zac (.inl rfl) (ev1 rfl)) ?_
  refine lex_gr (gd_f rfl rfl rfl) rfl rfl (op_ixsg (j := 0) ((0 : Int)) rfl sl23 (ev2 rfl) (ev1 rfl) (fun _ => rfl) (by decide) (fun hp => by first | omega | (simp at hp; omega)) (fun hp => by first | omega | (simp at hp; omega))) ?_
  refine lex_gr (gd_f rfl rfl rfl) rfl rfl (op_ldod rfl tb5 (ev2 rfl) rfl) ?_
  refine lex_gr (gd_f rfl rfl rfl) rfl rfl (op_conv' ty5 kn3 rfl (ev2 rfl) (fun _ => by have h9 := bAt_in hi 0; unfold bAt at h9; exact IntWalk.i64_in _ (by omega))) ?_
  refine lex_gr (gd_f rfl rfl rfl) rfl rfl (zac (.inl rfl) (ev1 rfl)) ?_
  refine lex_gr (gd_f rfl rfl rfl) rfl rfl (op_ixsg (j := 1) ((0 : Int)) rfl sl23 (ev2 rfl) (ev1 rfl) (fun _ => rfl) (by decide) (fun hp => by first | omega | (simp at hp; omega)) (fun hp => by first | omega | (simp at hp; omega))) ?_
  refine lex_gr (gd_f rfl rfl rfl) rfl rfl (op_ldod rfl tb5 (ev2 rfl) rfl) ?_
  refine lex_gr (gd_f rfl rfl rfl) rfl rfl (op_conv' ty5 kn3 rfl (ev2 rfl) (fun _ => by have h9 := bAt_in hi 1; unfold bAt at h9; exact IntWalk.i64_in _ (by omega))) ?_
  refine lex_gr (gd_f rfl rfl rfl) rfl rfl (zaj [] [] [] rfl (ev1 rfl) (ec (ev2 rfl) (ec (ev2 rfl) en)) rfl rfl (rsizes_d _ _) rfl rfl rfl rfl rfl rfl) ?_
  refine lex_gr (gd_f rfl rfl rfl) rfl rfl (op_not rfl (ev2 rfl)) ?_
  refine zag rfl rfl (op_or rfl (ev1 rfl) (ev3 rfl id)) ?_
  refine lex_nil ?_
  refine dwp_if_f rfl (rcC h2 hm) ?_
  refine dwp_skip ?_
  refine zaf ?_
  refine dwp_draw [([], []), ([], []), ([], []), ([], []), ([], []), ([], []), ([], []), ([], []), ([], []), ([], []), ([], []), ([], []), ([], []), ([], []), ([], []), ([], [])] mixed (by kernel_rfl) ?_
  refine zag rfl rfl (zac (.inl rfl) (ev1 rfl)) ?_
  refine zag rfl rfl (zac (.inl rfl) (ev1 rfl)) ?_
  refine zag rfl rfl (op_ixsr (j := 0) rfl sl23 (ev1 rfl) (ev1 rfl) (fun _ => rfl) (by decide) (by omega) (by omega)) ?_
  refine zag rfl rfl ((op_ldod rfl tb5 (ev1 rfl) rfl).wk (Wk.of_eq (d' := .val (.int .u8 (bAt B 0))) (by rw [bAt_eq (by omega)]))) ?_
  refine zag rfl rfl (op_conv' ty5 kn3 rfl (ev1 rfl) (fun _ => IntWalk.i64_in _ (by omega))) ?_
  refine zag rfl rfl (zac (.inl rfl) (ev1 rfl)) ?_
  refine zag rfl rfl (op_ixsr (j := 1) rfl sl23 (ev1 rfl) (ev1 rfl) (fun _ => rfl) (by decide) (by omega) (by omega)) ?_
  refine zag rfl rfl ((op_ldod rfl tb5 (ev1 rfl) rfl).wk (Wk.of_eq (d' := .val (.int .u8 (bAt B 1))) (by rw [bAt_eq (by omega)]))) ?_
  refine zag rfl rfl (op_conv' ty5 kn3 rfl (ev1 rfl) (fun _ => IntWalk.i64_in _ (by omega))) ?_
  refine zag rfl rfl (op_mul' rfl (ev1 rfl) (ev1 rfl) (fun _ => IntWalk.i64_in _ (by omega))) ?_
  refine zag rfl rfl (zaj [] [] [] rfl (ev1 rfl) (ec (ev1 rfl) (ec (ev1 rfl) (ec (evnil 256 (ev1 rfl)) en))) rfl rfl (dtl_an B hB hi n hn16 (bAt B 0 * bAt B 1) hn h2 h0) rfl rfl rfl rfl rfl rfl) ?_
  refine zag rfl rfl (zac (.inl rfl) (ev1 rfl)) ?_
  refine zag rfl rfl (op_ext rfl (ev1 rfl) rfl) ?_
  refine zag rfl rfl (op_ext rfl (ev1 rfl) rfl) ?_
  refine zag rfl rfl (zac (.inr rfl) (ev1 rfl)) ?_
  refine zag rfl rfl (zac (.inr rfl) (ev1 rfl)) ?_
  refine lex_nil ?_
  refine zaf ?_
  refine zaf ?_
  refine zad ?_
  refine zab rfl rfl rfl (zac (.inl rfl) (ev1 rfl)) ?_
  refine zab rfl rfl rfl (op_eql rfl (ev1 rfl) (ev1 rfl)) ?_
  refine zae ?_
  refine dwp_if_t rfl (rfl) ?_
  refine zaf ?_
  refine zad ?_
  refine zab rfl rfl rfl (op_build0 rfl fl41 zr41) ?_
  refine walk_s rfl rfl (op_stwa rfl tb41 (ev1 rfl) (ev1 rfl) rfl rfl rfl rfl) (by simp only [upd, za, zaa]; exact rfl) ?_
  refine zab rfl rfl rfl (zac (.inr rfl) (ev1 rfl)) ?_
  refine zae ?_
  refine dwp_ret ?_
  refine kend0 (rs2 rfl (rv_w tb41 rfl rfl rfl) (rv_t rfl)) rfl ?_
  rfl
set_option maxRecDepth 4000 in
set_option maxHeartbeats 1000000 in
theorem rcd_n1 (B : List Int) (hB : B.length ≤ 4000000000000000000) (hi : isB B) (h2 : ¬ 0 + 2 ≤ B.length) : DFun Try.prog 24 [.slf 1 (B).length ((B).flatMap u8V)] [] (.tup [.val (.agg #[.int .i64 0, .int .i64 0, .slice none 0 0]), .val (.int .i64 0)]) [] := by
  refine dcalls_go (N := 50) 0 (by kernel_rfl) Try.func24 rfl rfl rfl (by simp only [fr0, Nat.zero_add, Nat.reduceAdd]; exact rfl) rfl fun s0 hs0 => ?_
  refine dwp_len (t := 0) rfl fun hl0 hL0 => ?_
  refine zaf ?_
  refine zah 1 (by simp only [holes, List.cons_append, List.nil_append]; exact rfl) ?_
  refine zad ?_
  refine walk_w rfl rfl rfl (op_alloc 0 rfl zr41 rfl) (by simp only [upd, za, zaa]; exact rfl) ?_
  refine zab rfl rfl rfl (zac (.inr rfl) (ev1 rfl)) ?_
  refine zae ?_
  refine zaf ?_
  refine zaf ?_
  refine dwp_draw [([], []), ([], []), ([], []), ([], []), ([], []), ([], []), ([], []), ([], []), ([], []), ([], []), ([], []), ([], []), ([], []), ([], []), ([], [])] mixed (by kernel_rfl) ?_
  refine zag rfl rfl (zac (.inl rfl) (ev1 rfl)) ?_
  refine zag rfl rfl (op_len rfl sl23 (ev1 rfl)) ?_
  refine zag rfl rfl (op_lss rfl (ev1 rfl) (ev1 rfl)) ?_
  refine zag rfl rfl (zac (.inl rfl) (ev1 rfl)) ?_
  refine lex_gr (gd_f rfl rfl rfl) rfl rfl (zac (.inl rfl) (ev1 rfl)) ?_
  refine lex_gr (gd_f rfl rfl rfl) rfl rfl (op_ixsg (j := 0) ((0 : Int)) rfl sl23 (ev2 rfl) (ev1 rfl) (fun _ => rfl) (by decide) (fun hp => by first | omega | (simp at hp; omega)) (fun hp => by first | omega | (simp at hp; omega))) ?_
  refine lex_gr (gd_f rfl rfl rfl) rfl rfl (op_ldod rfl tb5 (ev2 rfl) rfl) ?_
  refine lex_gr (gd_f rfl rfl rfl) rfl rfl (op_conv' ty5 kn3 rfl (ev2 rfl) (fun _ => by have h9 := bAt_in hi 0; unfold bAt at h9; exact IntWalk.i64_in _ (by omega))) ?_
  refine lex_gr (gd_f rfl rfl rfl) rfl rfl (zac (.inl rfl) (ev1 rfl)) ?_
  refine lex_gr (gd_f rfl rfl rfl) rfl rfl (op_ixsg (j := 1) ((0 : Int)) rfl sl23 (ev2 rfl) (ev1 rfl) (fun _ => rfl) (by decide) (fun hp => by first | omega | (simp at hp; omega)) (fun hp => by first | omega | (simp at hp; omega))) ?_
  refine lex_gr (gd_f rfl rfl rfl) rfl rfl (op_ldod rfl tb5 (ev2 rfl) rfl) ?_
  refine lex_gr (gd_f rfl rfl rfl) rfl rfl (op_conv' ty5 kn3 rfl (ev2 rfl) (fun _ => by have h9 := bAt_in hi 1; unfold bAt at h9; exact IntWalk.i64_in _ (by omega))) ?_
  refine lex_gr (gd_f rfl rfl rfl) rfl rfl (zaj [] [] [] rfl (ev1 rfl) (ec (ev2 rfl) (ec (ev2 rfl) en)) rfl rfl (rsizes_d _ _) rfl rfl rfl rfl rfl rfl) ?_
  refine lex_gr (gd_f rfl rfl rfl) rfl rfl (op_not rfl (ev2 rfl)) ?_
  refine zag rfl rfl (op_or rfl (ev1 rfl) (ev3 rfl id)) ?_
  refine lex_nil ?_
  refine dwp_if_t rfl (by rw [decide_eq_true (by omega)]; rfl) ?_
  refine zaf ?_
  refine zad ?_
  refine zab rfl rfl rfl (op_build0 rfl fl41 zr41) ?_
  refine walk_s rfl rfl (op_stwa rfl tb41 (ev1 rfl) (ev1 rfl) rfl rfl rfl rfl) (by simp only [upd, za, zaa]; exact rfl) ?_
  refine zab rfl rfl rfl (zac (.inr rfl) (ev1 rfl)) ?_
  refine zae ?_
  refine dwp_ret ?_
  refine kend0 (rs2 rfl (rv_w tb41 rfl rfl rfl) (rv_t rfl)) rfl ?_
  rfl
set_option maxRecDepth 4000 in
set_option maxHeartbeats 1000000 in
theorem rcd_n2 (B : List Int) (hB : B.length ≤ 4000000000000000000) (hi : isB B) (h2 : 0 + 2 ≤ B.length) (hm : mayS (bAt B 0) (bAt B 1) = false) : DFun Try.prog 24 [.slf 1 (B).length ((B).flatMap u8V)] [] (.tup [.val (.agg #[.int .i64 0, .int .i64 0, .slice none 0 0]), .val (.int .i64 0)]) [] := by
  refine dcalls_go (N := 50) 0 (by kernel_rfl) Try.func24 rfl rfl rfl (by simp only [fr0, Nat.zero_add, Nat.reduceAdd]; exact rfl) rfl fun s0 hs0 => ?_
  refine dwp_len (t := 0) rfl fun hl0 hL0 => ?_
  refine zaf ?_
  refine zah 1 (by simp only [holes, List.cons_append, List.nil_append]; exact rfl) ?_
  refine zad ?_
  refine walk_w rfl rfl rfl (op_alloc 0 rfl zr41 rfl) (by simp only [upd, za, zaa]; exact rfl) ?_
  refine zab rfl rfl rfl (zac (.inr rfl) (ev1 rfl)) ?_
  refine zae ?_
  refine zaf ?_
  refine zaf ?_
  refine dwp_draw [([], []), ([], []), ([], []), ([], []), ([], []), ([], []), ([], []), ([], []), ([], []), ([], []), ([], []), ([], []), ([], []), ([], []), ([], [])] mixed (by kernel_rfl) ?_
  refine zag rfl rfl (zac (.inl rfl) (ev1 rfl)) ?_
  refine zag rfl rfl (op_len rfl sl23 (ev1 rfl)) ?_
  refine zag rfl rfl (op_lss rfl (ev1 rfl) (ev1 rfl)) ?_
  refine zag rfl rfl (zac (.inl rfl) (ev1 rfl)) ?_
  refine lex_gr (gd_f rfl rfl rfl) rfl rfl (zac (.inl rfl) (ev1 rfl)) ?_
  refine lex_gr (gd_f rfl rfl rfl) rfl rfl (op_ixsg (j := 0) ((0 : Int)) rfl sl23 (ev2 rfl) (ev1 rfl) (fun _ => rfl) (by decide) (fun hp => by first | omega | (simp at hp; omega)) (fun hp => by first | omega | (simp at hp; omega))) ?_
  refine lex_gr (gd_f rfl rfl rfl) rfl rfl (op_ldod rfl tb5 (ev2 rfl) rfl) ?_
  refine lex_gr (gd_f rfl rfl rfl) rfl rfl (op_conv' ty5 kn3 rfl (ev2 rfl) (fun _ => by have h9 := bAt_in hi 0; unfold bAt at h9; exact IntWalk.i64_in _ (by omega))) ?_
  refine lex_gr (gd_f rfl rfl rfl) rfl rfl (zac (.inl rfl) (ev1 rfl)) ?_
  refine lex_gr (gd_f rfl rfl rfl) rfl rfl (op_ixsg (j := 1) ((0 : Int)) rfl sl23 (ev2 rfl) (ev1 rfl) (fun _ => rfl) (by decide) (fun hp => by first | omega | (simp at hp; omega)) (fun hp => by first | omega | (simp at hp; omega))) ?_
  refine lex_gr (gd_f rfl rfl rfl) rfl rfl (op_ldod rfl tb5 (ev2 rfl) rfl) ?_
  refine lex_gr (gd_f rfl rfl rfl) rfl rfl (op_conv' ty5 kn3 rfl (ev2 rfl) (fun _ => by have h9 := bAt_in hi 1; unfold bAt at h9; exact IntWalk.i64_in _ (by omega))) ?_
  refine lex_gr (gd_f rfl rfl rfl) rfl rfl (zaj [] [] [] rfl (ev1 rfl) (ec (ev2 rfl) (ec (ev2 rfl) en)) rfl rfl (rsizes_d _ _) rfl rfl rfl rfl rfl rfl) ?_
  refine lex_gr (gd_f rfl rfl rfl) rfl rfl (op_not rfl (ev2 rfl)) ?_
  refine zag rfl rfl (op_or rfl (ev1 rfl) (ev3 rfl id)) ?_
  refine lex_nil ?_
  refine dwp_if_t rfl (rcC h2 hm) ?_
  refine zaf ?_
  refine zad ?_
  refine zab rfl rfl rfl (op_build0 rfl fl41 zr41) ?_
  refine walk_s rfl rfl (op_stwa rfl tb41 (ev1 rfl) (ev1 rfl) rfl rfl rfl rfl) (by simp only [upd, za, zaa]; exact rfl) ?_
  refine zab rfl rfl rfl (zac (.inr rfl) (ev1 rfl)) ?_
  refine zae ?_
  refine dwp_ret ?_
  refine kend0 (rs2 rfl (rv_w tb41 rfl rfl rfl) (rv_t rfl)) rfl ?_
  rfl
theorem apC_y {B : List Int} {a b : Int} (h2 : 0 + 2 ≤ B.length) (hw : bAt B 0 = a ∧ bAt B 1 = b) : ((decide ((B.length : Int) < 2) || (B.getD 0 0 != a)) || (B.getD 1 0 != b)) = false := by
  have e0 : B.getD 0 0 = a := hw.1
  have e1 : B.getD 1 0 = b := hw.2
  rw [e0, e1, decide_eq_false (by omega)]
  simp
theorem apC_n {B : List Int} {a b : Int} (hx : ¬ (0 + 2 ≤ B.length ∧ bAt B 0 = a ∧ bAt B 1 = b)) : ((decide ((B.length : Int) < 2) || (B.getD 0 0 != a)) || (B.getD 1 0 != b)) = true := by
  rw [← Bool.not_eq_false]
  intro h
  simp only [Bool.or_eq_false_iff, decide_eq_false_iff_not, bne_eq_false_iff_eq] at h
  exact hx ⟨by omega, h.1.2, h.2⟩
set_option maxRecDepth 4000 in
set_option maxHeartbeats 1000000 in
theorem rap_y (B : List Int) (hB : B.length ≤ 4000000000000000000) (hi : isB B) (a b : Int) (old : List TL) (hol : 0 < old.length) (hol2 : old.length ≤ 100) (h2 : 0 + 2 ≤ B.length) (hw : bAt B 0 = a ∧ bAt B 1 = b) (ts : List TL) (q : Nat) (h0 : rdNs (thereK old) B old.length [] 2 = some (ts, q)) : DFun Try.prog 27 [.agg [.val (.int .i64 a), .val (.int .i64 b), .slf 256 old.length (old.flatMap tc)], .slf 1 (B).length ((B).flatMap u8V)] [] (.tup [.agg [.val (.int .i64 a), .val (.int .i64 b), .slf 256 ts.length (ts.flatMap tc)], .val (.int .i64 (q : Nat))]) [] := by
  have hq2 := (rdNs_len h2 h0).2.1
  refine dcalls_go (N := 50) 0 (by kernel_rfl) Try.func27 rfl rfl rfl (by simp only [fr0, Nat.zero_add, Nat.reduceAdd]; exact rfl) rfl fun s0 hs0 => ?_
  refine dwp_len (t := 1) rfl fun hl1 hL1 => ?_
  refine zaf ?_
  refine zah 2 (by simp only [holes, List.cons_append, List.nil_append]; exact rfl) ?_
  refine zad ?_
  refine walk_w rfl rfl rfl (op_boxam 0 rfl (ev1 rfl) rfl) (by simp only [upd, za, zaa]; exact rfl) ?_
  refine walk_w rfl rfl rfl (op_alloc 1 rfl zr41 rfl) (by simp only [upd, za, zaa]; exact rfl) ?_
  refine zab rfl rfl rfl (zac (.inr rfl) (ev1 rfl)) ?_
  refine zae ?_
  refine zaf ?_
  refine zaf ?_
  refine dwp_draw [([], []), ([], []), ([], []), ([], []), ([], []), ([], []), ([], []), ([], []), ([], []), ([0], []), ([], []), ([], []), ([], []), ([], []), ([], []), ([], []), ([], []), ([], []), ([0], []), ([], []), ([], [])] mixed (by kernel_rfl) ?_
  refine zag rfl rfl (zac (.inl rfl) (ev1 rfl)) ?_
  refine zag rfl rfl (op_len rfl sl23 (ev1 rfl)) ?_
  refine zag rfl rfl (op_lss rfl (ev1 rfl) (ev1 rfl)) ?_
  refine zag rfl rfl (zac (.inl rfl) (ev1 rfl)) ?_
  refine lex_gr (gd_f rfl rfl rfl) rfl rfl (zac (.inl rfl) (ev1 rfl)) ?_
  refine lex_gr (gd_f rfl rfl rfl) rfl rfl (op_ixsg (j := 0) ((0 : Int)) rfl sl23 (ev2 rfl) (ev1 rfl) (fun _ => rfl) (by decide) (fun hp => by first | omega | (simp at hp; omega)) (fun hp => by first | omega | (simp at hp; omega))) ?_
  refine lex_gr (gd_f rfl rfl rfl) rfl rfl (op_ldod rfl tb5 (ev2 rfl) rfl) ?_
  refine lex_gr (gd_f rfl rfl rfl) rfl rfl (op_conv' ty5 kn3 rfl (ev2 rfl) (fun _ => by have h9 := bAt_in hi 0; unfold bAt at h9; exact IntWalk.i64_in _ (by omega))) ?_
  refine lex_gr (gd_f rfl rfl rfl) rfl rfl (op_fa rfl fo41_0 (ev1 rfl)) ?_
  refine lex_gr (gd_f rfl rfl rfl) rfl rfl (op_ldm rfl tb3 (ev2 rfl) rfl rfl) ?_
  refine lex_gr (gd_f rfl rfl rfl) rfl rfl (op_neq rfl (ev2 rfl) (ev2 rfl)) ?_
  refine zag rfl rfl (op_or rfl (ev1 rfl) (ev3 rfl id)) ?_
  refine zag rfl rfl (zac (.inl rfl) (ev1 rfl)) ?_
  refine lex_gr (gd_f rfl rfl rfl) rfl rfl (zac (.inl rfl) (ev1 rfl)) ?_
  refine lex_gr (gd_f rfl rfl rfl) rfl rfl (op_ixsg (j := 1) ((0 : Int)) rfl sl23 (ev2 rfl) (ev1 rfl) (fun _ => rfl) (by decide) (fun hp => by first | omega | (simp at hp; omega)) (fun hp => by first | omega | (simp at hp; omega))) ?_
  refine lex_gr (gd_f rfl rfl rfl) rfl rfl (op_ldod rfl tb5 (ev2 rfl) rfl) ?_
  refine lex_gr (gd_f rfl rfl rfl) rfl rfl (op_conv' ty5 kn3 rfl (ev2 rfl) (fun _ => by have h9 := bAt_in hi 1; unfold bAt at h9; exact IntWalk.i64_in _ (by omega))) ?_
  refine lex_gr (gd_f rfl rfl rfl) rfl rfl (op_fa rfl fo41_1 (ev1 rfl)) ?_
  refine lex_gr (gd_f rfl rfl rfl) rfl rfl (op_ldm rfl tb3 (ev2 rfl) rfl rfl) ?_
  refine lex_gr (gd_f rfl rfl rfl) rfl rfl (op_neq rfl (ev2 rfl) (ev2 rfl)) ?_
  refine zag rfl rfl (op_or rfl (ev1 rfl) (ev3 rfl id)) ?_
  refine lex_nil ?_
  refine dwp_if_f rfl (apC_y h2 hw) ?_
  refine dwp_skip ?_
  refine zaf ?_
  refine zad ?_
  refine zab rfl rfl rfl (zac (.inl rfl) (ev1 rfl)) ?_
  refine zab rfl rfl rfl (op_fa rfl fo41_2 (ev1 rfl)) ?_
  refine zab rfl rfl rfl (op_ldm rfl tb22 (ev1 rfl) rfl rfl) ?_
  refine zab rfl rfl rfl (op_len rfl sl22 (ev1 rfl)) ?_
  refine zab rfl rfl rfl (op_fa rfl fo41_2 (ev1 rfl)) ?_
  refine zab rfl rfl rfl (op_ldm rfl tb22 (ev1 rfl) rfl rfl) ?_
  refine zab rfl rfl rfl (zaj [] [] [] rfl (ev1 rfl) (ec (ev1 rfl) (ec (ev1 rfl) (ec (ev1 rfl) en))) rfl rfl (dtl_tf B hB hi old.length hol2 (old.length : Nat) rfl h2 old (Nat.le_refl _) hol (by omega) ts q h0) rfl rfl rfl rfl rfl rfl) ?_
  refine zab rfl rfl rfl (zac (.inl rfl) (ev1 rfl)) ?_
  refine zab rfl rfl rfl (op_ext rfl (ev1 rfl) rfl) ?_
  refine zab rfl rfl rfl (op_ext rfl (ev1 rfl) rfl) ?_
  refine zab rfl rfl rfl (zac (.inr rfl) (ev1 rfl)) ?_
  refine zab rfl rfl rfl (zac (.inr rfl) (ev1 rfl)) ?_
  refine zae ?_
  refine zaf ?_
  refine zaf ?_
  refine zad ?_
  refine zab rfl rfl rfl (zac (.inl rfl) (ev1 rfl)) ?_
  refine zab rfl rfl rfl (op_eql rfl (ev1 rfl) (ev1 rfl)) ?_
  refine zae ?_
  refine dwp_if_f rfl (by simp; omega) ?_
  refine dwp_skip ?_
  refine zaf ?_
  refine zad ?_
  refine zab rfl rfl rfl (op_fa rfl fo41_0 (ev1 rfl)) ?_
  refine zab rfl rfl rfl (op_ldm rfl tb3 (ev1 rfl) rfl rfl) ?_
  refine zab rfl rfl rfl (op_fa rfl fo41_1 (ev1 rfl)) ?_
  refine zab rfl rfl rfl (op_ldm rfl tb3 (ev1 rfl) rfl rfl) ?_
  refine zab rfl rfl rfl (zac (.inl rfl) (ev1 rfl)) ?_
  refine zab rfl rfl rfl (op_bldD (ps := [(0, .tmp 44), (1, .tmp 46), (2, .tmp 47)]) rfl fl41 zr41 (ec (ev1 rfl) (ec (ev1 rfl) (ec (ev1 rfl) en))) rfl rfl rfl) ?_
  refine zab rfl rfl rfl (zac (.inl rfl) (ev1 rfl)) ?_
  refine walk_s rfl rfl (op_stam rfl tb41 (ev1 rfl) (ev1 rfl) rfl rfl rfl rfl) (by simp only [upd, za, zaa]; exact rfl) ?_
  refine zab rfl rfl rfl (zac (.inr rfl) (ev1 rfl)) ?_
  refine zae ?_
  refine dwp_ret ?_
  refine kend0 (rs2 rfl (rv_mw tb41 rfl rfl rfl) (rv_t rfl)) rfl ?_
  rfl
set_option maxRecDepth 4000 in
set_option maxHeartbeats 1000000 in
theorem rap_n3 (B : List Int) (hB : B.length ≤ 4000000000000000000) (hi : isB B) (a b : Int) (old : List TL) (hol : 0 < old.length) (hol2 : old.length ≤ 100) (h2 : 0 + 2 ≤ B.length) (hw : bAt B 0 = a ∧ bAt B 1 = b) (h0 : rdNs (thereK old) B old.length [] 2 = none) : DFun Try.prog 27 [.agg [.val (.int .i64 a), .val (.int .i64 b), .slf 256 old.length (old.flatMap tc)], .slf 1 (B).length ((B).flatMap u8V)] [] (.tup [.val (.agg #[.int .i64 0, .int .i64 0, .slice none 0 0]), .val (.int .i64 0)]) [] := by
  refine dcalls_go (N := 50) 0 (by kernel_rfl) Try.func27 rfl rfl rfl (by simp only [fr0, Nat.zero_add, Nat.reduceAdd]; exact rfl) rfl fun s0 hs0 => ?_
  refine dwp_len (t := 1) rfl fun hl1 hL1 => ?_
  refine zaf ?_
  refine zah 2 (by simp only [holes, List.cons_append, List.nil_append]; exact rfl) ?_
  refine zad ?_
  refine walk_w rfl rfl rfl (op_boxam 0 rfl (ev1 rfl) rfl) (by simp only [upd, za, zaa]; exact rfl) ?_
  refine walk_w rfl rfl rfl (op_alloc 1 rfl zr41 rfl) (by simp only [upd, za, zaa]; exact rfl) ?_
  refine zab rfl rfl rfl (zac (.inr rfl) (ev1 rfl)) ?_
  refine zae ?_
  refine zaf ?_
  refine zaf ?_
  refine dwp_draw [([], []), ([], []), ([], []), ([], []), ([], []), ([], []), ([], []), ([], []), ([], []), ([0], []), ([], []), ([], []), ([], []), ([], []), ([], []), ([], []), ([], []), ([], []), ([0], []), ([], []), ([], [])] mixed (by kernel_rfl) ?_
  refine zag rfl rfl (zac (.inl rfl) (ev1 rfl)) ?_
  refine zag rfl rfl (op_len rfl sl23 (ev1 rfl)) ?_
  refine zag rfl rfl (op_lss rfl (ev1 rfl) (ev1 rfl)) ?_
  refine zag rfl rfl (zac (.inl rfl) (ev1 rfl)) ?_
  refine lex_gr (gd_f rfl rfl rfl) rfl rfl (zac (.inl rfl) (ev1 rfl)) ?_
  refine lex_gr (gd_f rfl rfl rfl) rfl rfl (op_ixsg (j := 0) ((0 : Int)) rfl sl23 (ev2 rfl) (ev1 rfl) (fun _ => rfl) (by decide) (fun hp => by first | omega | (simp at hp; omega)) (fun hp => by first | omega | (simp at hp; omega))) ?_
  refine lex_gr (gd_f rfl rfl rfl) rfl rfl (op_ldod rfl tb5 (ev2 rfl) rfl) ?_
  refine lex_gr (gd_f rfl rfl rfl) rfl rfl (op_conv' ty5 kn3 rfl (ev2 rfl) (fun _ => by have h9 := bAt_in hi 0; unfold bAt at h9; exact IntWalk.i64_in _ (by omega))) ?_
  refine lex_gr (gd_f rfl rfl rfl) rfl rfl (op_fa rfl fo41_0 (ev1 rfl)) ?_
  refine lex_gr (gd_f rfl rfl rfl) rfl rfl (op_ldm rfl tb3 (ev2 rfl) rfl rfl) ?_
  refine lex_gr (gd_f rfl rfl rfl) rfl rfl (op_neq rfl (ev2 rfl) (ev2 rfl)) ?_
  refine zag rfl rfl (op_or rfl (ev1 rfl) (ev3 rfl id)) ?_
  refine zag rfl rfl (zac (.inl rfl) (ev1 rfl)) ?_
  refine lex_gr (gd_f rfl rfl rfl) rfl rfl (zac (.inl rfl) (ev1 rfl)) ?_
  refine lex_gr (gd_f rfl rfl rfl) rfl rfl (op_ixsg (j := 1) ((0 : Int)) rfl sl23 (ev2 rfl) (ev1 rfl) (fun _ => rfl) (by decide) (fun hp => by first | omega | (simp at hp; omega)) (fun hp => by first | omega | (simp at hp; omega))) ?_
  refine lex_gr (gd_f rfl rfl rfl) rfl rfl (op_ldod rfl tb5 (ev2 rfl) rfl) ?_
  refine lex_gr (gd_f rfl rfl rfl) rfl rfl (op_conv' ty5 kn3 rfl (ev2 rfl) (fun _ => by have h9 := bAt_in hi 1; unfold bAt at h9; exact IntWalk.i64_in _ (by omega))) ?_
  refine lex_gr (gd_f rfl rfl rfl) rfl rfl (op_fa rfl fo41_1 (ev1 rfl)) ?_
  refine lex_gr (gd_f rfl rfl rfl) rfl rfl (op_ldm rfl tb3 (ev2 rfl) rfl rfl) ?_
  refine lex_gr (gd_f rfl rfl rfl) rfl rfl (op_neq rfl (ev2 rfl) (ev2 rfl)) ?_
  refine zag rfl rfl (op_or rfl (ev1 rfl) (ev3 rfl id)) ?_
  refine lex_nil ?_
  refine dwp_if_f rfl (apC_y h2 hw) ?_
  refine dwp_skip ?_
  refine zaf ?_
  refine zad ?_
  refine zab rfl rfl rfl (zac (.inl rfl) (ev1 rfl)) ?_
  refine zab rfl rfl rfl (op_fa rfl fo41_2 (ev1 rfl)) ?_
  refine zab rfl rfl rfl (op_ldm rfl tb22 (ev1 rfl) rfl rfl) ?_
  refine zab rfl rfl rfl (op_len rfl sl22 (ev1 rfl)) ?_
  refine zab rfl rfl rfl (op_fa rfl fo41_2 (ev1 rfl)) ?_
  refine zab rfl rfl rfl (op_ldm rfl tb22 (ev1 rfl) rfl rfl) ?_
  refine zab rfl rfl rfl (zaj [] [] [] rfl (ev1 rfl) (ec (ev1 rfl) (ec (ev1 rfl) (ec (ev1 rfl) en))) rfl rfl (dtl_tn B hB hi old.length hol2 (old.length : Nat) rfl h2 old (Nat.le_refl _) hol (by omega) h0) rfl rfl rfl rfl rfl rfl) ?_
  refine zab rfl rfl rfl (zac (.inl rfl) (ev1 rfl)) ?_
  refine zab rfl rfl rfl (op_ext rfl (ev1 rfl) rfl) ?_
  refine zab rfl rfl rfl (op_ext rfl (ev1 rfl) rfl) ?_
  refine zab rfl rfl rfl (zac (.inr rfl) (ev1 rfl)) ?_
  refine zab rfl rfl rfl (zac (.inr rfl) (ev1 rfl)) ?_
  refine zae ?_
  refine zaf ?_
  refine zaf ?_
  refine zad ?_
  refine zab rfl rfl rfl (zac (.inl rfl) (ev1 rfl)) ?_
  refine zab rfl rfl rfl (op_eql rfl (ev1 rfl) (ev1 rfl)) ?_
  refine zae ?_
  refine dwp_if_t rfl (rfl) ?_
  refine zaf ?_
  refine zad ?_
  refine zab rfl rfl rfl (op_build0 rfl fl41 zr41) ?_
  refine walk_s rfl rfl (op_stwa rfl tb41 (ev1 rfl) (ev1 rfl) rfl rfl rfl rfl) (by simp only [upd, za, zaa]; exact rfl) ?_
  refine zab rfl rfl rfl (zac (.inr rfl) (ev1 rfl)) ?_
  refine zae ?_
  refine dwp_ret ?_
  refine kend0 (rs2 rfl (rv_w tb41 rfl rfl rfl) (rv_t rfl)) rfl ?_
  rfl
set_option maxRecDepth 4000 in
set_option maxHeartbeats 1000000 in
theorem rap_n1 (B : List Int) (hB : B.length ≤ 4000000000000000000) (hi : isB B) (a b : Int) (old : List TL) (hx : ¬ (0 + 2 ≤ B.length ∧ bAt B 0 = a ∧ bAt B 1 = b)) : DFun Try.prog 27 [.agg [.val (.int .i64 a), .val (.int .i64 b), .slf 256 old.length (old.flatMap tc)], .slf 1 (B).length ((B).flatMap u8V)] [] (.tup [.val (.agg #[.int .i64 0, .int .i64 0, .slice none 0 0]), .val (.int .i64 0)]) [] := by
  refine dcalls_go (N := 50) 0 (by kernel_rfl) Try.func27 rfl rfl rfl (by simp only [fr0, Nat.zero_add, Nat.reduceAdd]; exact rfl) rfl fun s0 hs0 => ?_
  refine dwp_len (t := 1) rfl fun hl1 hL1 => ?_
  refine zaf ?_
  refine zah 2 (by simp only [holes, List.cons_append, List.nil_append]; exact rfl) ?_
  refine zad ?_
  refine walk_w rfl rfl rfl (op_boxam 0 rfl (ev1 rfl) rfl) (by simp only [upd, za, zaa]; exact rfl) ?_
  refine walk_w rfl rfl rfl (op_alloc 1 rfl zr41 rfl) (by simp only [upd, za, zaa]; exact rfl) ?_
  refine zab rfl rfl rfl (zac (.inr rfl) (ev1 rfl)) ?_
  refine zae ?_
  refine zaf ?_
  refine zaf ?_
  refine dwp_draw [([], []), ([], []), ([], []), ([], []), ([], []), ([], []), ([], []), ([], []), ([], []), ([0], []), ([], []), ([], []), ([], []), ([], []), ([], []), ([], []), ([], []), ([], []), ([0], []), ([], []), ([], [])] mixed (by kernel_rfl) ?_
  refine zag rfl rfl (zac (.inl rfl) (ev1 rfl)) ?_
  refine zag rfl rfl (op_len rfl sl23 (ev1 rfl)) ?_
  refine zag rfl rfl (op_lss rfl (ev1 rfl) (ev1 rfl)) ?_
  refine zag rfl rfl (zac (.inl rfl) (ev1 rfl)) ?_
  refine lex_gr (gd_f rfl rfl rfl) rfl rfl (zac (.inl rfl) (ev1 rfl)) ?_
  refine lex_gr (gd_f rfl rfl rfl) rfl rfl (op_ixsg (j := 0) ((0 : Int)) rfl sl23 (ev2 rfl) (ev1 rfl) (fun _ => rfl) (by decide) (fun hp => by first | omega | (simp at hp; omega)) (fun hp => by first | omega | (simp at hp; omega))) ?_
  refine lex_gr (gd_f rfl rfl rfl) rfl rfl (op_ldod rfl tb5 (ev2 rfl) rfl) ?_
  refine lex_gr (gd_f rfl rfl rfl) rfl rfl (op_conv' ty5 kn3 rfl (ev2 rfl) (fun _ => by have h9 := bAt_in hi 0; unfold bAt at h9; exact IntWalk.i64_in _ (by omega))) ?_
  refine lex_gr (gd_f rfl rfl rfl) rfl rfl (op_fa rfl fo41_0 (ev1 rfl)) ?_
  refine lex_gr (gd_f rfl rfl rfl) rfl rfl (op_ldm rfl tb3 (ev2 rfl) rfl rfl) ?_
  refine lex_gr (gd_f rfl rfl rfl) rfl rfl (op_neq rfl (ev2 rfl) (ev2 rfl)) ?_
  refine zag rfl rfl (op_or rfl (ev1 rfl) (ev3 rfl id)) ?_
  refine zag rfl rfl (zac (.inl rfl) (ev1 rfl)) ?_
  refine lex_gr (gd_f rfl rfl rfl) rfl rfl (zac (.inl rfl) (ev1 rfl)) ?_
  refine lex_gr (gd_f rfl rfl rfl) rfl rfl (op_ixsg (j := 1) ((0 : Int)) rfl sl23 (ev2 rfl) (ev1 rfl) (fun _ => rfl) (by decide) (fun hp => by first | omega | (simp at hp; omega)) (fun hp => by first | omega | (simp at hp; omega))) ?_
  refine lex_gr (gd_f rfl rfl rfl) rfl rfl (op_ldod rfl tb5 (ev2 rfl) rfl) ?_
  refine lex_gr (gd_f rfl rfl rfl) rfl rfl (op_conv' ty5 kn3 rfl (ev2 rfl) (fun _ => by have h9 := bAt_in hi 1; unfold bAt at h9; exact IntWalk.i64_in _ (by omega))) ?_
  refine lex_gr (gd_f rfl rfl rfl) rfl rfl (op_fa rfl fo41_1 (ev1 rfl)) ?_
  refine lex_gr (gd_f rfl rfl rfl) rfl rfl (op_ldm rfl tb3 (ev2 rfl) rfl rfl) ?_
  refine lex_gr (gd_f rfl rfl rfl) rfl rfl (op_neq rfl (ev2 rfl) (ev2 rfl)) ?_
  refine zag rfl rfl (op_or rfl (ev1 rfl) (ev3 rfl id)) ?_
  refine lex_nil ?_
  refine dwp_if_t rfl (apC_n hx) ?_
  refine zaf ?_
  refine zad ?_
  refine zab rfl rfl rfl (op_build0 rfl fl41 zr41) ?_
  refine walk_s rfl rfl (op_stwa rfl tb41 (ev1 rfl) (ev1 rfl) rfl rfl rfl rfl) (by simp only [upd, za, zaa]; exact rfl) ?_
  refine zab rfl rfl rfl (zac (.inr rfl) (ev1 rfl)) ?_
  refine zae ?_
  refine dwp_ret ?_
  refine kend0 (rs2 rfl (rv_w tb41 rfl rfl rfl) (rv_t rfl)) rfl ?_
  rfl
end Go.Proofs.Ytcbfnbfhlofkiaa
namespace Go.Proofs.Ytcbfnbfhlofkiaa
set_option maxRecDepth 4000
set_option linter.unusedVariables false
set_option linter.unusedSimpArgs false
open Go.RowKit
theorem rd_cases (B : List Int) (hB : B.length ≤ 4000000000000000000) (hi : isB B) : ∃ (w h : Int) (us : List TL) (q e : Int), DFun Try.prog 23 [.slf 1 (B).length ((B).flatMap u8V)] [] (.tup [.agg [.val (.int .i64 w), .val (.int .i64 h), .slf 256 us.length (us.flatMap tc)], .val (.int .i64 q), .val (.int .i64 e)]) [] ∧ DFun Try.prog 24 [.slf 1 (B).length ((B).flatMap u8V)] [] (.tup [.agg [.val (.int .i64 w), .val (.int .i64 h), .slf 256 us.length (us.flatMap tc)], .val (.int .i64 q)]) [] ∧ ((0 < q ∧ e = 0) ∨ (q = 0 ∧ e = 200)) ∧ us.length ≤ 5000 := by
  by_cases hx : noCv B
  · refine ⟨0, 0, [], 0, 200, (rdc_no B hB hi hx).wk wk_zc, ?_, .inr ⟨rfl, rfl⟩, by decide⟩
    refine DFun.wk ?_ wk_zd
    by_cases h2 : 0 + 2 ≤ B.length
    · cases hm : mayS (bAt B 0) (bAt B 1) with
      | false => exact rcd_n2 B hB hi h2 hm
      | true =>
        cases h0 : rdNs aheadK B (bAt B 0 * bAt B 1).toNat [] 2 with
        | none => exact rcd_n3 B hB hi _ h2 hm (prod_n hm).1 (by have := (prod_n hm).2; omega) h0
        | some x => exact absurd ⟨h2, hm, by rw [h0]; rfl⟩ hx
    · exact rcd_n1 B hB hi h2
  · unfold noCv at hx
    obtain ⟨h2, hm, h0⟩ := Classical.not_not.1 hx
    obtain ⟨hn, hn2⟩ := prod_n hm
    obtain ⟨⟨us, q⟩, h0⟩ := Option.isSome_iff_exists.1 h0
    obtain ⟨g1, g2, g3⟩ := rdNs_len h2 h0
    exact ⟨_, _, us, (q : Nat), 0, rdc_f B hB hi _ h2 hm hn us q h0, rcd_y B hB hi _ h2 hm hn (by omega) us q h0, .inl ⟨by omega, rfl⟩, by rw [g1]; simp; omega⟩
theorem wk_n1 (e : Int) : Wk (.tup [.val (.slice none 0 0), .val (.int .i64 e)]) (.tup [.slf 1 0 [], .val (.int .i64 e)]) := Wk.tup (.cons (Wk.slf0 1) (.cons (.refl _) .nil))
theorem wk_ze (e : Int) : Wk (.tup [.val (.agg #[.int .i64 0, .int .i64 0, .slice none 0 0]), .val (.int .i64 0), .val (.int .i64 e)]) (.tup [.agg [.val (.int .i64 0), .val (.int .i64 0), .slf 256 0 []], .val (.int .i64 0), .val (.int .i64 e)]) := Wk.tup (.cons ((Wk.vagg _).trans (Wk.agg (.cons (.refl _) (.cons (.refl _) (.cons (Wk.slf0 256) .nil))))) (.cons (.refl _) (.cons (.refl _) .nil)))
theorem cn_cases (a b : Int) (old : List TL) (hl : old.length ≤ 100) : ∃ (l : List Int) (e : Int), DFun Try.prog 19 [.agg [.val (.int .i64 a), .val (.int .i64 b), .slf 256 old.length (old.flatMap tc)]] [] (.tup [.slf 1 (l).length ((l).flatMap u8V), .val (.int .i64 e)]) [] ∧ (rightB a b old = true → l = canvasB a b old ∧ e = 0) ∧ (rightB a b old = false → l = [] ∧ e = 150) := by
  cases hr : rightB a b old with
  | true => exact ⟨_, 0, cnv_f a b old hr hl, fun _ => ⟨rfl, rfl⟩, fun h => by cases h⟩
  | false => exact ⟨[], 150, (cnv_n a b old hr).wk (wk_n1 150), fun h => (by cases h), fun _ => ⟨rfl, rfl⟩⟩
theorem pt_cases (a b : Int) (old : List TL) (w h : Int) (us : List TL) (hl : old.length ≤ 100) : ∃ (l : List Int) (e : Int), DFun Try.prog 20 [.agg [.val (.int .i64 a), .val (.int .i64 b), .slf 256 old.length (old.flatMap tc)], .agg [.val (.int .i64 w), .val (.int .i64 h), .slf 256 us.length (us.flatMap tc)]] [] (.tup [.slf 1 (l).length ((l).flatMap u8V), .val (.int .i64 e)]) [] ∧ ((rightB a b old && rightB w h us) = false → l = [] ∧ e = 150) ∧
    (rightB a b old = true → rightB w h us = true → ¬ (a = w ∧ b = h) → l = [] ∧ e = 2) ∧ (rightB a b old = true → rightB w h us = true → a = w ∧ b = h → l = patchB a b old us ∧ e = 0) := by
  cases hr : (rightB a b old && rightB w h us) with
  | false => exact ⟨[], 150, (ptc_n a b old w h us hr).wk (wk_n1 150), fun _ => ⟨rfl, rfl⟩, (fun h1 h2 => by rw [h1, h2] at hr; cases hr), (fun h1 h2 => by rw [h1, h2] at hr; cases hr)⟩
  | true =>
    rw [Bool.and_eq_true] at hr
    by_cases hs : a = w ∧ b = h
    · obtain ⟨rfl, rfl⟩ := hs
      have g1 := right_n hr.1
      have g2 := right_n hr.2
      exact ⟨_, 0, ptc_f a b old us hr.1 hr.2 hl (by omega), fun h => (by cases h), fun _ _ h => absurd ⟨rfl, rfl⟩ h, fun _ _ _ => ⟨rfl, rfl⟩⟩
    · exact ⟨[], 2, (ptc_s a b old w h us hr.1 hr.2 hs).wk (wk_n1 2), fun h => (by cases h), fun _ _ _ => ⟨rfl, rfl⟩, fun _ _ h => absurd h hs⟩
def noAp (B : List Int) (a b : Int) (old : List TL) : Prop := ¬ (0 + 2 ≤ B.length ∧ (bAt B 0 = a ∧ bAt B 1 = b) ∧ (rdNs (thereK old) B old.length [] 2).isSome = true)
theorem apl_no (B : List Int) (hB : B.length ≤ 4000000000000000000) (hi : isB B) (a b : Int) (old : List TL) (hr : rightB a b old = true) (hx : noAp B a b old) : DFun Try.prog 26 [.agg [.val (.int .i64 a), .val (.int .i64 b), .slf 256 old.length (old.flatMap tc)], .slf 1 (B).length ((B).flatMap u8V)] [] (.tup [.val (.agg #[.int .i64 0, .int .i64 0, .slice none 0 0]), .val (.int .i64 0), .val (.int .i64 200)]) [] := by
  by_cases h2 : 0 + 2 ≤ B.length
  · by_cases hw : bAt B 0 = a ∧ bAt B 1 = b
    · cases h0 : rdNs (thereK old) B old.length [] 2 with
      | none => exact apl_n4 B hB hi a b old hr hw old.length (right_n hr).1 h2 h0
      | some x => exact absurd ⟨h2, hw, by rw [h0]; rfl⟩ hx
    · cases hm : mayS (bAt B 0) (bAt B 1) with
      | false => exact apl_n2 B hB hi a b old hr h2 hm
      | true => exact apl_n3 B hB hi a b old hr _ h2 hm (prod_n hm).1 hw
  · exact apl_n1 B hB hi a b old hr h2
theorem rap_no (B : List Int) (hB : B.length ≤ 4000000000000000000) (hi : isB B) (a b : Int) (old : List TL) (hr : rightB a b old = true) (hx : noAp B a b old) : DFun Try.prog 27 [.agg [.val (.int .i64 a), .val (.int .i64 b), .slf 256 old.length (old.flatMap tc)], .slf 1 (B).length ((B).flatMap u8V)] [] (.tup [.val (.agg #[.int .i64 0, .int .i64 0, .slice none 0 0]), .val (.int .i64 0)]) [] := by
  have g := right_n hr
  have hb := mul_in g.2.2.1
  by_cases h2 : 0 + 2 ≤ B.length
  · by_cases hw : bAt B 0 = a ∧ bAt B 1 = b
    · cases h0 : rdNs (thereK old) B old.length [] 2 with
      | none => exact rap_n3 B hB hi a b old (by omega) (by omega) h2 hw h0
      | some x => exact absurd ⟨h2, hw, by rw [h0]; rfl⟩ hx
    · exact rap_n1 B hB hi a b old fun h => hw h.2
  · exact rap_n1 B hB hi a b old fun h => h2 h.1
def spR (t : TL) (z : Int) : TL := t.set 0 ⟨z, (t.get 0).g, (t.get 0).b, (t.get 0).a⟩
def spF (t : TL) : TL := spR t (IntKind.u8.wrap ((t.get 0).r + 1))
def spL (us : List TL) (k : Nat) : List TL := (us.take k).map spF ++ us.drop k
theorem spL_len (us : List TL) (k : Nat) : (spL us k).length = us.length := by
  unfold spL
  rw [List.length_append, List.length_map, List.length_take, List.length_drop]
  omega
theorem spL_at {us : List TL} {k : Nat} (hk : k < us.length) : (spL us k)[k]'(by rw [spL_len]; exact hk) = us[k] := by
  unfold spL
  rw [List.getElem_append_right (by rw [List.length_map, List.length_take]; omega)]
  simp [Nat.min_eq_left (Nat.le_of_lt hk)]
theorem spL_set {us : List TL} {k : Nat} (hk : k < us.length) : (spL us k).set k (spF us[k]) = spL us (k + 1) := by
  unfold spL
  rw [List.set_append_right _ _ (by rw [List.length_map, List.length_take]; omega), List.length_map, List.length_take, Nat.min_eq_left (Nat.le_of_lt hk), Nat.sub_self, List.drop_eq_getElem_cons hk, za, List.take_succ_eq_append_getElem hk, List.map_append, List.append_assoc]
  rfl
theorem sp_one (t : TL) (z : Int) : setL (tc t) 0 [.int .u8 z] = tc (spR t z) := by
  obtain ⟨l, hl⟩ := t
  cases l with
  | nil => cases hl
  | cons c r => rfl
theorem sp_cell {us : List TL} {k : Nat} (hk : k < us.length) : ((spL us k).flatMap tc)[k * 256 + 0 * 4 + 0]? = some (.int .u8 (us[k].get 0).r) := by
  have h := flat_cell (sz := 256) (c := 0) tc_len (l := spL us k) (j := k) (by rw [spL_len]; exact hk) (by decide)
  rw [spL_at hk] at h
  refine h.trans ?_
  generalize us[k] = t
  obtain ⟨l, hl⟩ := t
  cases l with
  | nil => cases hl
  | cons c r => rfl
theorem sp_put {us : List TL} {k : Nat} (hk : k < us.length) : setL ((spL us k).flatMap tc) (k * 256 + 0 * 4 + 0) [.int .u8 (IntKind.u8.wrap ((us[k].get 0).r + 1))] = (spL us (k + 1)).flatMap tc := by
  rw [← spL_set hk]
  exact flat_set_part (sz := 256) (c := 0) tc_len (by rw [spL_len]; exact hk) (by show 0 + 1 ≤ 256; decide) (by rw [spL_at hk]; exact sp_one _ _)
set_option maxRecDepth 4000 in
set_option maxHeartbeats 1000000 in
theorem spoil_z (a b : Int) : DFun Try.prog 28 [.agg [.val (.int .i64 a), .val (.int .i64 b), .slf 256 0 []]] [] (.tup []) [] := by
  refine dcalls_go (N := 21) 0 (by kernel_rfl) Try.func28 rfl rfl rfl (by simp only [fr0, Nat.zero_add, Nat.reduceAdd]; exact rfl) rfl fun s0 hs0 => ?_
  refine zaf ?_
  refine zah 1 (by simp only [holes, List.cons_append, List.nil_append]; exact rfl) ?_
  refine zad ?_
  refine walk_w rfl rfl rfl (op_boxam 0 rfl (ev1 rfl) rfl) (by simp only [upd, za, zaa]; exact rfl) ?_
  refine zae ?_
  refine zaf ?_
  refine zad ?_
  refine zab rfl rfl rfl (op_fa rfl fo41_2 (ev1 rfl)) ?_
  refine zab rfl rfl rfl (op_ldm rfl tb22 (ev1 rfl) rfl rfl) ?_
  refine zab rfl rfl rfl (op_len rfl sl22 (ev1 rfl)) ?_
  refine zab rfl rfl rfl (zac (.inl rfl) (ev1 rfl)) ?_
  refine zae ?_
  refine dwp_block ?_
  refine dwp_loopS ⟨hs0, rfl⟩ (α := Nat) (fun k => [(6, .val (.int .i64 (k : Int)))]) [(1, _), (5, _)] (fun k => []) [_] (fun k => k = 0) (fun k => 0) 0 [0] (rfl) rfl ⟨rfl, rfl, trivial⟩ ⟨rfl, trivial⟩ ⟨rfl, trivial⟩ ?_
  intro k hx
  simp only [upd, za, zaa, List.cons_append, List.nil_append]
  subst hx
  refine zaf ?_
  refine zad ?_
  refine zab rfl rfl rfl (op_lss rfl (ev1 rfl) (ev1 rfl)) ?_
  refine zae ?_
  refine zaf ?_
  refine dwp_cond rfl (fun c1 => ?_) (fun c1 => ?_)
  · simp at c1
  · refine dwp_exit ?_
    refine kend0 (res_none rfl) rfl ?_
    rfl
set_option maxRecDepth 4000 in
set_option maxHeartbeats 1000000 in
theorem spoil_o (a b : Int) (us : List TL) (hu : us.length ≤ 5000) : DFun Try.prog 28 [.agg [.val (.int .i64 a), .val (.int .i64 b), .arr 0]] [.arr 29 256 (us).length ((us).flatMap tc)] (.tup []) [.arr 29 256 ((spL us us.length)).length (((spL us us.length)).flatMap tc)] := by
  refine dcalls_go (N := 21) 1 (by kernel_rfl) Try.func28 rfl rfl rfl (by simp only [fr0, Nat.zero_add, Nat.reduceAdd]; exact rfl) rfl fun s0 hs0 => ?_
  refine zaf ?_
  refine zah 1 (by simp only [holes, List.cons_append, List.nil_append]; exact rfl) ?_
  refine zad ?_
  refine walk_w rfl rfl rfl (op_boxam 1 rfl (ev1 rfl) rfl) (by simp only [upd, za, zaa]; exact rfl) ?_
  refine zae ?_
  refine zaf ?_
  refine zad ?_
  refine zab rfl rfl rfl (op_fa rfl fo41_2 (ev1 rfl)) ?_
  refine zab rfl rfl rfl (op_ldm rfl tb22 (ev1 rfl) rfl rfl) ?_
  refine zab rfl rfl rfl (op_lena rfl sl22 (ev1 rfl) rfl) ?_
  refine zab rfl rfl rfl (zac (.inl rfl) (ev1 rfl)) ?_
  refine zae ?_
  refine dwp_block ?_
  refine dwp_loopS ⟨hs0, rfl⟩ (α := Nat) (fun k => [(6, .val (.int .i64 (k : Int)))]) [(1, _), (5, _)] (fun k => [(0, .arr 29 256 us.length ((spL us k).flatMap tc))]) [.hole, _] (fun k => k ≤ us.length) (fun k => us.length - k) 0 [0, 1] (Nat.zero_le _) rfl ⟨rfl, rfl, trivial⟩ ⟨rfl, trivial⟩ ⟨rfl, rfl, trivial⟩ ?_
  intro k hx
  simp only [upd, za, zaa, List.cons_append, List.nil_append]
  have hk0 := hx
  refine zaf ?_
  refine zad ?_
  refine zab rfl rfl rfl (op_lss rfl (ev1 rfl) (ev1 rfl)) ?_
  refine zae ?_
  refine zaf ?_
  refine dwp_cond rfl (fun c1 => ?_) (fun c1 => ?_)
  · try simp only [yg, ya, beq_iff_eq, bne_iff_ne, yb, yc, yf, ye, yh, yi, yd, ne_eq, yj, Int.not_lt, Int.not_le] at c1
    refine dwp_skip ?_
    refine zaf ?_
    refine dwp_block ?_
    refine zaf ?_
    refine zad ?_
    refine zab rfl rfl rfl (zac (.inl rfl) (ev1 rfl)) ?_
    refine zab rfl rfl rfl (zac (.inr rfl) (ev1 rfl)) ?_
    refine zae ?_
    have hk : k < us.length := by omega
    refine dwp_draw [([], []), ([1], []), ([], []), ([0], []), ([], []), ([], []), ([0], []), ([], []), ([0], []), ([], []), ([], []), ([0], [0])] mixed (by kernel_rfl) ?_
    refine zag rfl rfl (op_fa rfl fo41_2 (ev1 rfl)) ?_
    refine zag rfl rfl (op_ldm rfl tb22 (ev1 rfl) rfl rfl) ?_
    refine zag rfl rfl (zac (.inl rfl) (ev1 rfl)) ?_
    refine zag rfl rfl (op_ixar (j := k) rfl sl22 (ev1 rfl) (ev1 rfl) rfl (fun _ => by first | rfl | omega) (fun _ => by omega)) ?_
    refine zag rfl rfl (op_ixal rfl ar29 (ev1 rfl) (ev1 rfl) (fun _ => by omega)) ?_
    refine zag rfl rfl (op_faa rfl fo27_0 (ev1 rfl)) ?_
    refine zag rfl rfl (op_ldoa rfl tb5 (ev1 rfl) rfl ((sp_cell hk))) ?_
    refine zag rfl rfl (op_add rfl (ev1 rfl) (ev1 rfl)) ?_
    refine zag rfl rfl (op_ixar (j := k) rfl sl22 (ev1 rfl) (ev1 rfl) rfl (fun _ => by first | rfl | omega) (fun _ => by omega)) ?_
    refine zag rfl rfl (op_ixal rfl ar29 (ev1 rfl) (ev1 rfl) (fun _ => by omega)) ?_
    refine zag rfl rfl (op_faa rfl fo27_0 (ev1 rfl)) ?_
    refine lex_s rfl rfl (op_sta rfl tb5 (ev1 rfl) (ev1 rfl) rfl rfl rfl rfl (by rw [flat_len tc_len, spL_len]; show k * 256 + 0 * 4 + 0 + 1 ≤ _; omega) (sp_put hk)) rfl (by simp only [upd, za, zaa]; exact rfl) ?_
    refine lex_nil ?_
    refine zad ?_
    refine zab rfl rfl rfl (op_add' rfl (ev1 rfl) (ev1 rfl) (fun _ => IntWalk.i64_in _ (by omega))) ?_
    refine zab rfl rfl rfl (zac (.inl rfl) (ev1 rfl)) ?_
    refine zae ?_
    refine ⟨k + 1, [0, 1], by omega, by simp only []; omega, rfl, ⟨rfl, rfl, rfl, trivial⟩, ⟨rfl, rfl, trivial⟩⟩
  · try simp only [yg, ya, beq_iff_eq, bne_iff_ne, yb, yc, yf, ye, yh, yi, yd, ne_eq, yj, Int.not_lt, Int.not_le] at c1
    refine dwp_exit ?_
    refine kend [0] (res_none rfl) rfl rfl ?_ ⟨arr_eq (spL_len us _).symm (by rw [show k = us.length by omega]), trivial⟩
    rfl
end Go.Proofs.Ytcbfnbfhlofkiaa
namespace Go.Proofs.Ytcbfnbfhlofkiaa
set_option maxRecDepth 4000
set_option linter.unusedVariables false
set_option linter.unusedSimpArgs false
open Go.RowKit
attribute [local irreducible] runG bytesG posG tileB tilesB padT rdP rdN mayG rdQ sizeN
theorem un4 : Try.prog.underlying 4 = some .bool := by kernel_rfl
theorem tk_len {α : Type} (l : List α) (n : Nat) : l.take (l.take n).length = l.take n := by
  rw [List.length_take, Nat.min_comm, tk_min]
end Go.Proofs.Ytcbfnbfhlofkiaa
namespace Go.Proofs.Ytcbfnbfhlofkiaa
set_option maxRecDepth 4000
set_option linter.unusedVariables false
set_option linter.unusedSimpArgs false
open Go.RowKit
attribute [local irreducible] runG bytesG posG tileB tilesB padT rdP rdN mayG rdQ rdNs canvasB patchB rightB noCv noAp spL
theorem apl_h (B : List Int) (hB : B.length ≤ 4000000000000000000) (hi : isB B) (a b : Int) (old : List TL) (hr : rightB a b old = true) (hw : bAt B 0 = a ∧ bAt B 1 = b) (h2 : 0 + 2 ≤ B.length) (ts : List TL) (q : Nat) (h0 : rdNs (thereK old) B old.length [] 2 = some (ts, q)) :
    DFun Try.prog 26 [.agg [.val (.int .i64 a), .val (.int .i64 b), .slf 256 old.length (old.flatMap tc)], .slf 1 (B).length ((B).flatMap u8V)] [] (.tup [.agg [.val (.int .i64 a), .val (.int .i64 b), .arr 0], .val (.int .i64 (q : Nat)), .val (.int .i64 0)]) [.arr 29 256 (ts).length ((ts).flatMap tc)] := by
  have h := apl_y B hB hi a b old hr hw old.length (right_n hr).1 h2 ts q h0
  rw [hw.1, hw.2] at h
  exact h
set_option maxRecDepth 4000 in
set_option maxHeartbeats 1000000 in
theorem rcanv_d (a b : Int) (xa : List TL) (c d : Int) (xb : List TL) (z : List Int) (hz : isB z) : DFun Try.prog 4 [.agg [.val (.int .i64 a), .val (.int .i64 b), .slf 256 xa.length (xa.flatMap tc)], .agg [.val (.int .i64 c), .val (.int .i64 d), .slf 256 xb.length (xb.flatMap tc)], .slf 1 (z).length ((z).flatMap u8V)] [] (.val (.bool true)) [] := by
  have hzb := isB_take hz 6000
  have hzl : (z.take 6000).length ≤ 6000 := by rw [List.length_take]; omega
  have hzl2 : (z.take 6000).length ≤ z.length := by rw [List.length_take]; omega
  have hla : (xa.take 17).length ≤ 17 := by rw [List.length_take]; omega
  have hlb : (xb.take 17).length ≤ 17 := by rw [List.length_take]; omega
  refine dcalls_go (N := 182) 0 (by kernel_rfl) Try.func4 rfl rfl rfl (by simp only [fr0, Nat.zero_add, Nat.reduceAdd]; exact rfl) rfl fun s0 hs0 => ?_
  refine dwp_len (t := 2) rfl fun hl2 hL2 => ?_
  refine zaf ?_
  refine zah 2 (by simp only [holes, List.cons_append, List.nil_append]; exact rfl) ?_
  refine zad ?_
  refine walk_w rfl rfl rfl (op_boxam 0 rfl (ev1 rfl) rfl) (by simp only [upd, za, zaa]; exact rfl) ?_
  refine walk_w rfl rfl rfl (op_boxam 1 rfl (ev1 rfl) rfl) (by simp only [upd, za, zaa]; exact rfl) ?_
  refine zab rfl rfl rfl (zac (.inr rfl) (ev1 rfl)) ?_
  refine zae ?_
  refine zaf ?_
  refine zaf ?_
  refine zad ?_
  refine zab rfl rfl rfl (zaj [] [] [] rfl (ev1 rfl) en rfl rfl (wakes_d) rfl rfl rfl rfl rfl rfl) ?_
  refine zab rfl rfl rfl (op_not rfl (ev1 rfl)) ?_
  refine zae ?_
  refine dwp_if_f rfl (rfl) ?_
  refine dwp_skip ?_
  refine zaf ?_
  refine zah 2 (by simp only [holes, List.cons_append, List.nil_append]; exact rfl) ?_
  refine dwp_draw [([0], []), ([], []), ([1], []), ([], []), ([2], [2]), ([3], [3]), ([2], [2]), ([3], [3])] mixed (by kernel_rfl) ?_
  refine zag rfl rfl (op_ldmw rfl tb41 (ev1 rfl) rfl rfl) ?_
  refine zag rfl rfl (zaj [] [] [] rfl (ev1 rfl) (ec (ev1 rfl) en) rfl rfl (lown_d a b xa) rfl rfl rfl rfl rfl rfl) ?_
  refine zag rfl rfl (op_ldmw rfl tb41 (ev1 rfl) rfl rfl) ?_
  refine zag rfl rfl (zaj [] [] [] rfl (ev1 rfl) (ec (ev1 rfl) en) rfl rfl (lown_d c d xb) rfl rfl rfl rfl rfl rfl) ?_
  refine lex_w rfl rfl (op_alloc 2 rfl zr41 rfl) rfl (by simp only [upd, za, zaa]; exact rfl) ?_
  refine lex_w rfl rfl (op_alloc 3 rfl zr41 rfl) rfl (by simp only [upd, za, zaa]; exact rfl) ?_
  refine lex_s rfl rfl (op_stam rfl tb41 (ev1 rfl) (ev1 rfl) rfl rfl rfl rfl) rfl (by simp only [upd, za, zaa]; exact rfl) ?_
  refine lex_s rfl rfl (op_stam rfl tb41 (ev1 rfl) (ev1 rfl) rfl rfl rfl rfl) rfl (by simp only [upd, za, zaa]; exact rfl) ?_
  refine lex_nil ?_
  refine zaf ?_
  refine dwp_draw [([2], []), ([], []), ([2], []), ([], []), ([], []), ([3], []), ([], []), ([], []), ([], []), ([], [])] mixed (by kernel_rfl) ?_
  refine zag rfl rfl (op_ldmw rfl tb41 (ev1 rfl) rfl rfl) ?_
  refine zag rfl rfl (zaj [] [] [] rfl (ev1 rfl) (ec (ev1 rfl) en) rfl rfl (right_d _ _ _) rfl rfl rfl rfl rfl rfl) ?_
  refine zag rfl rfl (op_ldmw rfl tb41 (ev1 rfl) rfl rfl) ?_
  refine zag rfl rfl (zaj [] [] [] rfl (ev1 rfl) (ec (ev1 rfl) en) rfl rfl (right_d _ _ _) rfl rfl rfl rfl rfl rfl) ?_
  refine zag rfl rfl (zac (.inl rfl) (ev1 rfl)) ?_
  refine lex_gr (gd_t rfl rfl rfl) rfl rfl (op_ldmw rfl tb41 (ev1 rfl) rfl rfl) ?_
  refine lex_gr (gd_t rfl rfl rfl) rfl rfl (zaj [] [] [] rfl (ev1 rfl) (ec (ev2 rfl) en) rfl rfl (right_d _ _ _) rfl rfl rfl rfl rfl rfl) ?_
  refine zag rfl rfl (op_and rfl (ev1 rfl) (ev3 rfl id)) ?_
  refine zag rfl rfl (zac (.inr rfl) (ev1 rfl)) ?_
  refine zag rfl rfl (zac (.inr rfl) (ev1 rfl)) ?_
  refine lex_nil ?_
  refine zaf ?_
  obtain ⟨l1, e1, f1, k1, k2⟩ := cn_cases a b (xa.take 17) (by omega)
  refine zad ?_
  refine zab rfl rfl rfl (op_ldmw rfl tb41 (ev1 rfl) rfl rfl) ?_
  refine zab rfl rfl rfl (zaj [] [] [] rfl (ev1 rfl) (ec (ev1 rfl) en) rfl rfl (f1) rfl rfl rfl rfl rfl rfl) ?_
  refine zab rfl rfl rfl (zac (.inl rfl) (ev1 rfl)) ?_
  refine zab rfl rfl rfl (op_ext rfl (ev1 rfl) rfl) ?_
  refine zab rfl rfl rfl (op_ext rfl (ev1 rfl) rfl) ?_
  refine zab rfl rfl rfl (zac (.inr rfl) (ev1 rfl)) ?_
  refine zab rfl rfl rfl (zac (.inr rfl) (ev1 rfl)) ?_
  refine zae ?_
  refine zaf ?_
  obtain ⟨l2, e2, f2, m1, m2, m3⟩ := pt_cases a b (xa.take 17) c d (xb.take 17) (by omega)
  refine zad ?_
  refine zab rfl rfl rfl (op_ldmw rfl tb41 (ev1 rfl) rfl rfl) ?_
  refine zab rfl rfl rfl (op_ldmw rfl tb41 (ev1 rfl) rfl rfl) ?_
  refine zab rfl rfl rfl (zaj [] [] [] rfl (ev1 rfl) (ec (ev1 rfl) (ec (ev1 rfl) en)) rfl rfl (f2) rfl rfl rfl rfl rfl rfl) ?_
  refine zab rfl rfl rfl (zac (.inl rfl) (ev1 rfl)) ?_
  refine zab rfl rfl rfl (op_ext rfl (ev1 rfl) rfl) ?_
  refine zab rfl rfl rfl (op_ext rfl (ev1 rfl) rfl) ?_
  refine zab rfl rfl rfl (zac (.inr rfl) (ev1 rfl)) ?_
  refine zab rfl rfl rfl (zac (.inr rfl) (ev1 rfl)) ?_
  refine zae ?_
  refine zaf ?_
  refine zad ?_
  refine zab rfl rfl rfl (zac (.inr rfl) (ev1 rfl)) ?_
  refine zab rfl rfl rfl (zac (.inr rfl) (ev1 rfl)) ?_
  refine zae ?_
  refine zaf ?_
  refine zad ?_
  refine zab rfl rfl rfl (zac (.inr rfl) (ev1 rfl)) ?_
  refine zab rfl rfl rfl (zac (.inr rfl) (ev1 rfl)) ?_
  refine zae ?_
  refine zaf ?_
  refine zaf ?_
  by_cases hr : rightB a b (xa.take 17) = true
  · obtain ⟨rfl, rfl⟩ := k1 hr
    have hcl := cnvB_len a b (xa.take 17)
    have hcm := right_may hr
    refine zad ?_
    refine zab rfl rfl rfl (zac (.inl rfl) (ev1 rfl)) ?_
    refine zae ?_
    refine dwp_if_t rfl (hr) ?_
    refine zad ?_
    refine zab rfl rfl rfl (op_ldmw rfl tb41 (ev1 rfl) rfl rfl) ?_
    refine zab rfl rfl rfl (zaj [] [] [] rfl (ev1 rfl) (ec (ev1 rfl) en) rfl rfl (rdoc_a a b (xa.take 17) hcm (by omega)) rfl rfl rfl rfl rfl rfl) ?_
    refine zab rfl rfl rfl (zac (.inr rfl) (ev1 rfl)) ?_
    refine zab rfl rfl rfl (zac (.inr rfl) (ev1 rfl)) ?_
    refine zae ?_
    refine zaf ?_
    refine zaf ?_
    by_cases hr2 : rightB c d (xb.take 17) = true
    · refine zad ?_
      refine zab rfl rfl rfl (zac (.inl rfl) (ev1 rfl)) ?_
      refine zae ?_
      refine dwp_if_t rfl (by rw [hr, hr2]; rfl) ?_
      refine zaf ?_
      refine zad ?_
      refine zab rfl rfl rfl (zac (.inr rfl) (ev1 rfl)) ?_
      refine zae ?_
      refine zaf ?_
      by_cases hs : c = a ∧ d = b
      · obtain ⟨rfl, rfl⟩ := hs
        obtain ⟨rfl, rfl⟩ := m3 hr hr2 ⟨rfl, rfl⟩
        have y4 := right_n hr
        have y5 := right_n hr2
        refine zad ?_
        refine zab rfl rfl rfl (op_fa rfl fo41_0 (ev1 rfl)) ?_
        refine zab rfl rfl rfl (op_ldm rfl tb3 (ev1 rfl) rfl rfl) ?_
        refine zab rfl rfl rfl (op_fa rfl fo41_0 (ev1 rfl)) ?_
        refine zab rfl rfl rfl (op_ldm rfl tb3 (ev1 rfl) rfl rfl) ?_
        refine zab rfl rfl rfl (op_eql rfl (ev1 rfl) (ev1 rfl)) ?_
        refine zab rfl rfl rfl (zac (.inl rfl) (ev1 rfl)) ?_
        refine zai (gd_t rfl rfl rfl) rfl rfl rfl (op_fa rfl fo41_1 (ev1 rfl)) ?_
        refine zai (gd_t rfl rfl rfl) rfl rfl rfl (op_ldm rfl tb3 (ev2 rfl) rfl rfl) ?_
        refine zai (gd_t rfl rfl rfl) rfl rfl rfl (op_fa rfl fo41_1 (ev1 rfl)) ?_
        refine zai (gd_t rfl rfl rfl) rfl rfl rfl (op_ldm rfl tb3 (ev2 rfl) rfl rfl) ?_
        refine zai (gd_t rfl rfl rfl) rfl rfl rfl (op_eql rfl (ev2 rfl) (ev2 rfl)) ?_
        refine zab rfl rfl rfl (op_and rfl (ev1 rfl) (ev3 rfl id)) ?_
        refine zae ?_
        refine dwp_if_t rfl (by simp) ?_
        refine zad ?_
        refine zab rfl rfl rfl (op_ldmw rfl tb41 (ev1 rfl) rfl rfl) ?_
        refine zab rfl rfl rfl (op_ldmw rfl tb41 (ev1 rfl) rfl rfl) ?_
        refine zab rfl rfl rfl (zaj [] [] [] rfl (ev1 rfl) (ec (ev1 rfl) (ec (ev1 rfl) en)) rfl rfl (rdoc_t c d (xa.take 17) (xb.take 17) (by omega) hcm (by omega)) rfl rfl rfl rfl rfl rfl) ?_
        refine zab rfl rfl rfl (zac (.inr rfl) (ev1 rfl)) ?_
        refine zab rfl rfl rfl (zac (.inr rfl) (ev1 rfl)) ?_
        refine zae ?_
        refine zaf ?_
        refine zaf ?_
        refine zad ?_
        refine zab rfl rfl rfl (zac (.inl rfl) (ev1 rfl)) ?_
        refine zab rfl rfl rfl (zac (.inl rfl) (ev1 rfl)) ?_
        refine zab rfl rfl rfl (op_neq rfl (ev1 rfl) (ev1 rfl)) ?_
        refine zab rfl rfl rfl (zac (.inl rfl) (ev1 rfl)) ?_
        refine zai (gd_f rfl rfl rfl) rfl rfl rfl (zac (.inl rfl) (ev1 rfl)) ?_
        refine zai (gd_f rfl rfl rfl) rfl rfl rfl (zac (.inl rfl) (ev1 rfl)) ?_
        refine zai (gd_f rfl rfl rfl) rfl rfl rfl (op_neq rfl (ev2 rfl) (ev2 rfl)) ?_
        refine zab rfl rfl rfl (op_or rfl (ev1 rfl) (ev3 rfl id)) ?_
        refine zab rfl rfl rfl (zac (.inl rfl) (ev1 rfl)) ?_
        refine zai (gd_f rfl rfl rfl) rfl rfl rfl (zac (.inl rfl) (ev1 rfl)) ?_
        refine zai (gd_f rfl rfl rfl) rfl rfl rfl (zac (.inl rfl) (ev1 rfl)) ?_
        refine zai (gd_f rfl rfl rfl) rfl rfl rfl (zaj [] [] [] rfl (ev1 rfl) (ec (ev2 rfl) (ec (ev2 rfl) en)) rfl rfl (equalB (canvasB c d (xa.take 17)) (canvasB c d (xa.take 17))) rfl rfl rfl rfl rfl rfl) ?_
        refine zai (gd_f rfl rfl rfl) rfl rfl rfl (op_not rfl (ev2 rfl)) ?_
        refine zab rfl rfl rfl (op_or rfl (ev1 rfl) (ev3 rfl id)) ?_
        refine zab rfl rfl rfl (zac (.inl rfl) (ev1 rfl)) ?_
        refine zai (gd_f rfl rfl rfl) rfl rfl rfl (zac (.inl rfl) (ev1 rfl)) ?_
        refine zai (gd_f rfl rfl rfl) rfl rfl rfl (zac (.inl rfl) (ev1 rfl)) ?_
        refine zai (gd_f rfl rfl rfl) rfl rfl rfl (zaj [] [] [] rfl (ev1 rfl) (ec (ev2 rfl) (ec (ev2 rfl) en)) rfl rfl (equalB (patchB c d (xa.take 17) (xb.take 17)) (patchB c d (xa.take 17) (xb.take 17))) rfl rfl rfl rfl rfl rfl) ?_
        refine zai (gd_f rfl rfl rfl) rfl rfl rfl (op_not rfl (ev2 rfl)) ?_
        refine zab rfl rfl rfl (op_or rfl (ev1 rfl) (ev3 rfl id)) ?_
        refine zae ?_
        refine dwp_if_f rfl (by simp) ?_
        refine dwp_skip ?_
        refine zaf ?_
        refine zad ?_
        refine zab rfl rfl rfl (zac (.inl rfl) (ev1 rfl)) ?_
        refine zab rfl rfl rfl (zac (.inl rfl) (ev1 rfl)) ?_
        refine zab rfl rfl rfl (op_len rfl sl23 (ev1 rfl)) ?_
        refine zab rfl rfl rfl (op_min rfl (ev1 rfl) (ev1 rfl)) ?_
        refine zab rfl rfl rfl ((op_sltk (j := min z.length 6000) rfl sl23 (ev1 rfl) (bd_some (ev1 rfl)) (fun _ => by omega) (fun _ => by omega) (fun _ => rfl)).cast (d' := .slf 1 ((z.take 6000)).length (((z.take 6000)).flatMap u8V)) (by rw [tk_min])) ?_
        refine zab rfl rfl rfl (zaj [] [] [] rfl (ev1 rfl) (ec (ev1 rfl) en) rfl rfl (cloneB_f (z.take 6000) (by omega)) rfl rfl rfl rfl rfl rfl) ?_
        refine zab rfl rfl rfl (zac (.inr rfl) (ev1 rfl)) ?_
        refine zae ?_
        refine zaf ?_
        obtain ⟨w1, g1, u1, q1, e3, f3, f4, hor, hul⟩ := rd_cases (z.take 6000) (by omega) hzb
        refine zah 1 (by simp only [holes, List.cons_append, List.nil_append]; exact rfl) ?_
        refine zad ?_
        refine zab rfl rfl rfl (zac (.inl rfl) (ev1 rfl)) ?_
        refine zab rfl rfl rfl (zaj [] [] [] rfl (ev1 rfl) (ec (ev1 rfl) en) rfl rfl (f3) rfl rfl rfl rfl rfl rfl) ?_
        refine zab rfl rfl rfl (zac (.inl rfl) (ev1 rfl)) ?_
        refine zab rfl rfl rfl (op_ext rfl (ev1 rfl) rfl) ?_
        refine zab rfl rfl rfl (op_ext rfl (ev1 rfl) rfl) ?_
        refine zab rfl rfl rfl (op_ext rfl (ev1 rfl) rfl) ?_
        refine walk_w rfl rfl rfl (op_alloc 4 rfl zr41 rfl) (by simp only [upd, za, zaa]; exact rfl) ?_
        refine walk_s rfl rfl (op_stam rfl tb41 (ev1 rfl) (ev1 rfl) rfl rfl rfl rfl) (by simp only [upd, za, zaa]; exact rfl) ?_
        refine zab rfl rfl rfl (zac (.inr rfl) (ev1 rfl)) ?_
        refine zab rfl rfl rfl (zac (.inr rfl) (ev1 rfl)) ?_
        refine zae ?_
        refine zaf ?_
        refine zah 1 (by simp only [holes, List.cons_append, List.nil_append]; exact rfl) ?_
        refine zad ?_
        refine zab rfl rfl rfl (zac (.inl rfl) (ev1 rfl)) ?_
        refine zab rfl rfl rfl (zaj [] [] [] rfl (ev1 rfl) (ec (ev1 rfl) en) rfl rfl (f4) rfl rfl rfl rfl rfl rfl) ?_
        refine zab rfl rfl rfl (zac (.inl rfl) (ev1 rfl)) ?_
        refine zab rfl rfl rfl (op_ext rfl (ev1 rfl) rfl) ?_
        refine zab rfl rfl rfl (op_ext rfl (ev1 rfl) rfl) ?_
        refine walk_w rfl rfl rfl (op_alloc 5 rfl zr41 rfl) (by simp only [upd, za, zaa]; exact rfl) ?_
        refine walk_s rfl rfl (op_stam rfl tb41 (ev1 rfl) (ev1 rfl) rfl rfl rfl rfl) (by simp only [upd, za, zaa]; exact rfl) ?_
        refine zab rfl rfl rfl (zac (.inr rfl) (ev1 rfl)) ?_
        refine zae ?_
        refine zaf ?_
        refine zaf ?_
        refine zad ?_
        refine zab rfl rfl rfl (op_ldmw rfl tb41 (ev1 rfl) rfl rfl) ?_
        refine zab rfl rfl rfl (op_ldmw rfl tb41 (ev1 rfl) rfl rfl) ?_
        refine zab rfl rfl rfl (zaj [] [] [] rfl (ev1 rfl) (ec (ev1 rfl) (ec (ev1 rfl) en)) rfl rfl (same_d w1 g1 w1 g1 u1 u1 hul) rfl rfl rfl rfl rfl rfl) ?_
        refine zab rfl rfl rfl (op_not rfl (ev1 rfl)) ?_
        refine zab rfl rfl rfl (zac (.inl rfl) (ev1 rfl)) ?_
        refine zai (gd_f rfl rfl rfl) rfl rfl rfl (zac (.inl rfl) (ev1 rfl)) ?_
        refine zai (gd_f rfl rfl rfl) rfl rfl rfl (zac (.inl rfl) (ev1 rfl)) ?_
        refine zai (gd_f rfl rfl rfl) rfl rfl rfl (op_neq rfl (ev2 rfl) (ev2 rfl)) ?_
        refine zab rfl rfl rfl (op_or rfl (ev1 rfl) (ev3 rfl id)) ?_
        refine zab rfl rfl rfl (zac (.inl rfl) (ev1 rfl)) ?_
        refine zai (gd_f rfl rfl rfl) rfl rfl rfl (zac (.inl rfl) (ev1 rfl)) ?_
        refine zai (gd_f rfl rfl rfl) rfl rfl rfl (op_eql rfl (ev2 rfl) (ev1 rfl)) ?_
        refine zai (gd_f rfl rfl rfl) rfl rfl rfl (zac (.inl rfl) (ev1 rfl)) ?_
        refine zai (gd_f rfl rfl rfl) rfl rfl rfl (op_gtr rfl (ev2 rfl) (ev1 rfl)) ?_
        refine zai (gd_f rfl rfl rfl) rfl rfl rfl (op_neb rfl un4 (ev2 rfl) (ev2 rfl)) ?_
        refine zab rfl rfl rfl (op_or rfl (ev1 rfl) (ev3 rfl id)) ?_
        refine zab rfl rfl rfl (zac (.inl rfl) (ev1 rfl)) ?_
        refine zai (gd_f rfl rfl rfl) rfl rfl rfl (zac (.inl rfl) (ev1 rfl)) ?_
        refine zai (gd_f rfl rfl rfl) rfl rfl rfl (op_eql rfl (ev2 rfl) (ev1 rfl)) ?_
        refine zai (gd_f rfl rfl rfl) rfl rfl rfl (zac (.inl rfl) (ev2 rfl)) ?_
        refine zai (gd_tt rfl rfl rfl) rfl rfl rfl (zac (.inl rfl) (ev1 rfl)) ?_
        refine zai (gd_tt rfl rfl rfl) rfl rfl rfl (op_neq rfl (ev2 rfl) (ev1 rfl)) ?_
        refine zai (gd_f rfl rfl rfl) rfl rfl rfl (op_and rfl (ev2 rfl) (ev2 rfl)) ?_
        refine zab rfl rfl rfl (op_or rfl (ev1 rfl) (ev3 rfl id)) ?_
        refine zae ?_
        refine dwp_if_f rfl (by rcases hor with ⟨v1, v2⟩ | ⟨v1, v2⟩ <;> simp [v1, v2] <;> omega) ?_
        refine dwp_skip ?_
        refine zaf ?_
        by_cases hx : noAp (z.take 6000) c d (xa.take 17)
        · refine zad ?_
          refine zab rfl rfl rfl (op_ldmw rfl tb41 (ev1 rfl) rfl rfl) ?_
          refine zab rfl rfl rfl (zac (.inl rfl) (ev1 rfl)) ?_
          refine zab rfl rfl rfl (zaj [] [] [] rfl (ev1 rfl) (ec (ev1 rfl) (ec (ev1 rfl) en)) rfl rfl ((apl_no (z.take 6000) (by omega) hzb c d (xa.take 17) hr hx).wk (wk_ze 200)) rfl rfl rfl rfl rfl rfl) ?_
          refine zab rfl rfl rfl (zac (.inl rfl) (ev1 rfl)) ?_
          refine zab rfl rfl rfl (op_ext rfl (ev1 rfl) rfl) ?_
          refine zab rfl rfl rfl (op_ext rfl (ev1 rfl) rfl) ?_
          refine zab rfl rfl rfl (op_ext rfl (ev1 rfl) rfl) ?_
          refine walk_s rfl rfl (op_stmw rfl tb41 (ev1 rfl) (ev1 rfl) rfl rfl rfl rfl) (by simp only [upd, za, zaa]; exact rfl) ?_
          refine zab rfl rfl rfl (zac (.inr rfl) (ev1 rfl)) ?_
          refine zab rfl rfl rfl (zac (.inr rfl) (ev1 rfl)) ?_
          refine zae ?_
          refine zaf ?_
          refine zad ?_
          refine zab rfl rfl rfl (op_build0 rfl fl41 zr41) ?_
          refine walk_s rfl rfl (op_stmp rfl tb41 (ev1 rfl) (evwk (ev1 rfl) (Wk.vagg _)) rfl rfl rfl rfl rfl) (by simp only [upd, za, zaa]; exact rfl) ?_
          refine zab rfl rfl rfl (zac (.inr rfl) (ev1 rfl)) ?_
          refine zae ?_
          refine zaf ?_
          refine zad ?_
          refine zab rfl rfl rfl (zac (.inr rfl) (ev1 rfl)) ?_
          refine zae ?_
          refine zaf ?_
          refine zaf ?_
          refine zad ?_
          refine zab rfl rfl rfl (zac (.inl rfl) (ev1 rfl)) ?_
          refine zae ?_
          refine dwp_if_t rfl (hr) ?_
          refine zaf ?_
          refine zad ?_
          refine zab rfl rfl rfl (zac (.inr rfl) (ev1 rfl)) ?_
          refine zae ?_
          refine zaf ?_
          refine zad ?_
          refine zab rfl rfl rfl (op_ldmw rfl tb41 (ev1 rfl) rfl rfl) ?_
          refine zab rfl rfl rfl (zac (.inl rfl) (ev1 rfl)) ?_
          refine zab rfl rfl rfl (zaj [] [] [] rfl (ev1 rfl) (ec (ev1 rfl) (ec (ev1 rfl) en)) rfl rfl ((rap_no (z.take 6000) (by omega) hzb c d (xa.take 17) hr hx).wk wk_zd) rfl rfl rfl rfl rfl rfl) ?_
          refine zab rfl rfl rfl (zac (.inl rfl) (ev1 rfl)) ?_
          refine zab rfl rfl rfl (op_ext rfl (ev1 rfl) rfl) ?_
          refine zab rfl rfl rfl (op_ext rfl (ev1 rfl) rfl) ?_
          refine walk_s rfl rfl (op_stmw rfl tb41 (ev1 rfl) (ev1 rfl) rfl rfl rfl rfl) (by simp only [upd, za, zaa]; exact rfl) ?_
          refine zab rfl rfl rfl (zac (.inr rfl) (ev1 rfl)) ?_
          refine zae ?_
          refine zaf ?_
          refine zad ?_
          refine zab rfl rfl rfl (zac (.inl rfl) (ev1 rfl)) ?_
          refine zab rfl rfl rfl (op_gtr rfl (ev1 rfl) (ev1 rfl)) ?_
          refine zae ?_
          refine dwp_if_f rfl (rfl) ?_
          refine dwp_skip ?_
          refine zaf ?_
          refine zaf ?_
          refine zad ?_
          refine zab rfl rfl rfl (op_ldmw rfl tb41 (ev1 rfl) rfl rfl) ?_
          refine zab rfl rfl rfl (op_ldmw rfl tb41 (ev1 rfl) rfl rfl) ?_
          refine zab rfl rfl rfl (zaj [] [] [] rfl (ev1 rfl) (ec (ev1 rfl) (ec (ev1 rfl) en)) rfl rfl (same_d 0 0 0 0 [] [] (by decide)) rfl rfl rfl rfl rfl rfl) ?_
          refine zab rfl rfl rfl (op_not rfl (ev1 rfl)) ?_
          refine zab rfl rfl rfl (zac (.inl rfl) (ev1 rfl)) ?_
          refine zai (gd_f rfl rfl rfl) rfl rfl rfl (zac (.inl rfl) (ev1 rfl)) ?_
          refine zai (gd_f rfl rfl rfl) rfl rfl rfl (zac (.inl rfl) (ev1 rfl)) ?_
          refine zai (gd_f rfl rfl rfl) rfl rfl rfl (op_neq rfl (ev2 rfl) (ev2 rfl)) ?_
          refine zab rfl rfl rfl (op_or rfl (ev1 rfl) (ev3 rfl id)) ?_
          refine zab rfl rfl rfl (zac (.inl rfl) (ev1 rfl)) ?_
          refine zai (gd_f rfl rfl rfl) rfl rfl rfl (zac (.inl rfl) (ev1 rfl)) ?_
          refine zai (gd_f rfl rfl rfl) rfl rfl rfl (zac (.inl rfl) (ev1 rfl)) ?_
          refine zai (gd_f rfl rfl rfl) rfl rfl rfl (op_neq rfl (ev2 rfl) (ev2 rfl)) ?_
          refine zab rfl rfl rfl (op_or rfl (ev1 rfl) (ev3 rfl id)) ?_
          refine zae ?_
          refine dwp_if_f rfl (rfl) ?_
          refine dwp_skip ?_
          refine zaf ?_
          refine zad ?_
          refine zab rfl rfl rfl (op_ldmw rfl tb41 (ev1 rfl) rfl rfl) ?_
          refine zab rfl rfl rfl (zaj [] [] [] rfl (ev1 rfl) (ec (ev1 rfl) en) rfl rfl (spoil_z 0 0) rfl rfl rfl rfl rfl rfl) ?_
          refine zae ?_
          refine zaf ?_
          refine dwp_draw [([2], []), ([0], []), ([], []), ([], []), ([], []), ([3], []), ([1], []), ([], []), ([], []), ([], []), ([], []), ([], []), ([], []), ([], []), ([], []), ([], []), ([], []), ([], []), ([], [])] mixed (by kernel_rfl) ?_
          refine zag rfl rfl (op_ldmw rfl tb41 (ev1 rfl) rfl rfl) ?_
          refine zag rfl rfl (op_ldmw rfl tb41 (ev1 rfl) rfl rfl) ?_
          refine zag rfl rfl (zaj [] [] [] rfl (ev1 rfl) (ec (ev1 rfl) en) rfl rfl (lown_d c d xa) rfl rfl rfl rfl rfl rfl) ?_
          refine zag rfl rfl (zaj [] [] [] rfl (ev1 rfl) (ec (ev1 rfl) (ec (ev1 rfl) en)) rfl rfl (same_d _ _ _ _ _ _ (by omega)) rfl rfl rfl rfl rfl rfl) ?_
          refine zag rfl rfl (zac (.inl rfl) (ev1 rfl)) ?_
          refine lex_gr (gd_t rfl rfl rfl) rfl rfl (op_ldmw rfl tb41 (ev1 rfl) rfl rfl) ?_
          refine lex_gr (gd_t rfl rfl rfl) rfl rfl (op_ldmw rfl tb41 (ev1 rfl) rfl rfl) ?_
          refine lex_gr (gd_t rfl rfl rfl) rfl rfl (zaj [] [] [] rfl (ev1 rfl) (ec (ev2 rfl) en) rfl rfl (lown_d c d xb) rfl rfl rfl rfl rfl rfl) ?_
          refine lex_gr (gd_t rfl rfl rfl) rfl rfl (zaj [] [] [] rfl (ev1 rfl) (ec (ev2 rfl) (ec (ev2 rfl) en)) rfl rfl (same_d _ _ _ _ _ _ (by omega)) rfl rfl rfl rfl rfl rfl) ?_
          refine zag rfl rfl (op_and rfl (ev1 rfl) (ev3 rfl id)) ?_
          refine zag rfl rfl (zac (.inl rfl) (ev1 rfl)) ?_
          refine lex_gr (gd_t rfl rfl rfl) rfl rfl (zac (.inl rfl) (ev1 rfl)) ?_
          refine lex_gr (gd_t rfl rfl rfl) rfl rfl (zac (.inl rfl) (ev1 rfl)) ?_
          refine lex_gr (gd_t rfl rfl rfl) rfl rfl (zac (.inl rfl) (ev1 rfl)) ?_
          refine lex_gr (gd_t rfl rfl rfl) rfl rfl (op_len rfl sl23 (ev2 rfl)) ?_
          refine lex_gr (gd_t rfl rfl rfl) rfl rfl (op_sltk (j := (z.take 6000).length) rfl sl23 (ev2 rfl) (bd_some (ev2 rfl)) (fun _ => by omega) (fun _ => by omega) (fun _ => rfl)) ?_
          refine lex_gr (gd_t rfl rfl rfl) rfl rfl (zaj [] [] [] rfl (ev1 rfl) (ec (ev2 rfl) (ec (ev2 rfl) en)) rfl rfl (equalB (z.take 6000) (z.take (z.take 6000).length)) rfl rfl rfl rfl rfl rfl) ?_
          refine zag rfl rfl (op_and rfl (ev1 rfl) (ev3 rfl id)) ?_
          refine zag rfl rfl (zac (.inr rfl) (ev1 rfl)) ?_
          refine lex_nil ?_
          refine dwp_ret ?_
          refine kend0 (rs1 rfl (rv_t rfl)) rfl ?_
          rw [tk_len]
          simp
        · unfold noAp at hx
          obtain ⟨h2, hw, h0⟩ := Classical.not_not.1 hx
          obtain ⟨⟨us, q⟩, h0⟩ := Option.isSome_iff_exists.1 h0
          obtain ⟨j1, j2, j3⟩ := rdNs_len h2 h0
          obtain ⟨y1, y2, y3, _⟩ := right_n hr
          have ybd := mul_in y3
          have hul2 : us.length ≤ 5000 := by rw [j1]; simp; omega
          refine zah 1 (by simp only [holes, List.cons_append, List.nil_append]; exact rfl) ?_
          refine zad ?_
          refine zab rfl rfl rfl (op_ldmw rfl tb41 (ev1 rfl) rfl rfl) ?_
          refine zab rfl rfl rfl (zac (.inl rfl) (ev1 rfl)) ?_
          refine walk_w rfl rfl rfl (zaj [] [] [6] rfl (ev1 rfl) (ec (ev1 rfl) (ec (ev1 rfl) en)) rfl rfl (apl_h (z.take 6000) (by omega) hzb c d (xa.take 17) hr hw h2 us q h0) rfl rfl rfl rfl rfl rfl) (by simp only [upd, za, zaa]; exact rfl) ?_
          refine zab rfl rfl rfl (zac (.inl rfl) (ev1 rfl)) ?_
          refine zab rfl rfl rfl (op_ext rfl (ev1 rfl) rfl) ?_
          refine zab rfl rfl rfl (op_ext rfl (ev1 rfl) rfl) ?_
          refine zab rfl rfl rfl (op_ext rfl (ev1 rfl) rfl) ?_
          refine walk_s rfl rfl (op_stmw rfl tb41 (ev1 rfl) (ev1 rfl) rfl rfl rfl rfl) (by simp only [upd, za, zaa]; exact rfl) ?_
          refine zab rfl rfl rfl (zac (.inr rfl) (ev1 rfl)) ?_
          refine zab rfl rfl rfl (zac (.inr rfl) (ev1 rfl)) ?_
          refine zae ?_
          refine zaf ?_
          refine zad ?_
          refine zab rfl rfl rfl (op_build0 rfl fl41 zr41) ?_
          refine walk_s rfl rfl (op_stmp rfl tb41 (ev1 rfl) (evwk (ev1 rfl) (Wk.vagg _)) rfl rfl rfl rfl rfl) (by simp only [upd, za, zaa]; exact rfl) ?_
          refine zab rfl rfl rfl (zac (.inr rfl) (ev1 rfl)) ?_
          refine zae ?_
          refine zaf ?_
          refine zad ?_
          refine zab rfl rfl rfl (zac (.inr rfl) (ev1 rfl)) ?_
          refine zae ?_
          refine zaf ?_
          refine zaf ?_
          refine zad ?_
          refine zab rfl rfl rfl (zac (.inl rfl) (ev1 rfl)) ?_
          refine zae ?_
          refine dwp_if_t rfl (hr) ?_
          refine zaf ?_
          refine zad ?_
          refine zab rfl rfl rfl (zac (.inr rfl) (ev1 rfl)) ?_
          refine zae ?_
          refine zaf ?_
          refine zad ?_
          refine zab rfl rfl rfl (op_ldmw rfl tb41 (ev1 rfl) rfl rfl) ?_
          refine zab rfl rfl rfl (zac (.inl rfl) (ev1 rfl)) ?_
          refine zab rfl rfl rfl (zaj [] [] [] rfl (ev1 rfl) (ec (ev1 rfl) (ec (ev1 rfl) en)) rfl rfl (rap_y (z.take 6000) (by omega) hzb c d (xa.take 17) (by omega) (by omega) h2 hw us q h0) rfl rfl rfl rfl rfl rfl) ?_
          refine zab rfl rfl rfl (zac (.inl rfl) (ev1 rfl)) ?_
          refine zab rfl rfl rfl (op_ext rfl (ev1 rfl) rfl) ?_
          refine zab rfl rfl rfl (op_ext rfl (ev1 rfl) rfl) ?_
          refine walk_s rfl rfl (op_stmw rfl tb41 (ev1 rfl) (ev1 rfl) rfl rfl rfl rfl) (by simp only [upd, za, zaa]; exact rfl) ?_
          refine zab rfl rfl rfl (zac (.inr rfl) (ev1 rfl)) ?_
          refine zae ?_
          refine zaf ?_
          refine zad ?_
          refine zab rfl rfl rfl (zac (.inl rfl) (ev1 rfl)) ?_
          refine zab rfl rfl rfl (op_gtr rfl (ev1 rfl) (ev1 rfl)) ?_
          refine zae ?_
          refine dwp_if_t rfl (by simp; omega) ?_
          refine zad ?_
          refine zab rfl rfl rfl (zac (.inr rfl) (ev1 rfl)) ?_
          refine zae ?_
          refine zaf ?_
          refine zaf ?_
          refine zad ?_
          refine zab rfl rfl rfl (op_ldmw rfl tb41 (ev1 rfl) rfl rfl) ?_
          refine zab rfl rfl rfl (op_ldmw rfl tb41 (ev1 rfl) rfl rfl) ?_
          refine zab rfl rfl rfl (zaj [] [6] [] rfl (ev1 rfl) (ec (ev1 rfl) (ec (ev1 rfl) en)) rfl rfl (same_d c d c d us us hul2) rfl rfl rfl rfl rfl rfl) ?_
          refine zab rfl rfl rfl (op_not rfl (ev1 rfl)) ?_
          refine zab rfl rfl rfl (zac (.inl rfl) (ev1 rfl)) ?_
          refine zai (gd_f rfl rfl rfl) rfl rfl rfl (zac (.inl rfl) (ev1 rfl)) ?_
          refine zai (gd_f rfl rfl rfl) rfl rfl rfl (zac (.inl rfl) (ev1 rfl)) ?_
          refine zai (gd_f rfl rfl rfl) rfl rfl rfl (op_neq rfl (ev2 rfl) (ev2 rfl)) ?_
          refine zab rfl rfl rfl (op_or rfl (ev1 rfl) (ev3 rfl id)) ?_
          refine zab rfl rfl rfl (zac (.inl rfl) (ev1 rfl)) ?_
          refine zai (gd_f rfl rfl rfl) rfl rfl rfl (zac (.inl rfl) (ev1 rfl)) ?_
          refine zai (gd_f rfl rfl rfl) rfl rfl rfl (zac (.inl rfl) (ev1 rfl)) ?_
          refine zai (gd_f rfl rfl rfl) rfl rfl rfl (op_neq rfl (ev2 rfl) (ev2 rfl)) ?_
          refine zab rfl rfl rfl (op_or rfl (ev1 rfl) (ev3 rfl id)) ?_
          refine zae ?_
          refine dwp_if_f rfl (by simp) ?_
          refine dwp_skip ?_
          refine zaf ?_
          refine zad ?_
          refine zab rfl rfl rfl (op_ldmw rfl tb41 (ev1 rfl) rfl rfl) ?_
          refine walk_w rfl rfl rfl (zaj [6] [] [] rfl (ev1 rfl) (ec (ev1 rfl) en) rfl rfl (spoil_o c d us hul2) rfl rfl rfl rfl rfl rfl) (by simp only [upd, za, zaa]; exact rfl) ?_
          refine zae ?_
          refine zaf ?_
          refine dwp_draw [([2], []), ([0], []), ([], []), ([], []), ([], []), ([3], []), ([1], []), ([], []), ([], []), ([], []), ([], []), ([], []), ([], []), ([], []), ([], []), ([], []), ([], []), ([], []), ([], [])] mixed (by kernel_rfl) ?_
          refine zag rfl rfl (op_ldmw rfl tb41 (ev1 rfl) rfl rfl) ?_
          refine zag rfl rfl (op_ldmw rfl tb41 (ev1 rfl) rfl rfl) ?_
          refine zag rfl rfl (zaj [] [] [] rfl (ev1 rfl) (ec (ev1 rfl) en) rfl rfl (lown_d c d xa) rfl rfl rfl rfl rfl rfl) ?_
          refine zag rfl rfl (zaj [] [] [] rfl (ev1 rfl) (ec (ev1 rfl) (ec (ev1 rfl) en)) rfl rfl (same_d _ _ _ _ _ _ (by omega)) rfl rfl rfl rfl rfl rfl) ?_
          refine zag rfl rfl (zac (.inl rfl) (ev1 rfl)) ?_
          refine lex_gr (gd_t rfl rfl rfl) rfl rfl (op_ldmw rfl tb41 (ev1 rfl) rfl rfl) ?_
          refine lex_gr (gd_t rfl rfl rfl) rfl rfl (op_ldmw rfl tb41 (ev1 rfl) rfl rfl) ?_
          refine lex_gr (gd_t rfl rfl rfl) rfl rfl (zaj [] [] [] rfl (ev1 rfl) (ec (ev2 rfl) en) rfl rfl (lown_d c d xb) rfl rfl rfl rfl rfl rfl) ?_
          refine lex_gr (gd_t rfl rfl rfl) rfl rfl (zaj [] [] [] rfl (ev1 rfl) (ec (ev2 rfl) (ec (ev2 rfl) en)) rfl rfl (same_d _ _ _ _ _ _ (by omega)) rfl rfl rfl rfl rfl rfl) ?_
          refine zag rfl rfl (op_and rfl (ev1 rfl) (ev3 rfl id)) ?_
          refine zag rfl rfl (zac (.inl rfl) (ev1 rfl)) ?_
          refine lex_gr (gd_t rfl rfl rfl) rfl rfl (zac (.inl rfl) (ev1 rfl)) ?_
          refine lex_gr (gd_t rfl rfl rfl) rfl rfl (zac (.inl rfl) (ev1 rfl)) ?_
          refine lex_gr (gd_t rfl rfl rfl) rfl rfl (zac (.inl rfl) (ev1 rfl)) ?_
          refine lex_gr (gd_t rfl rfl rfl) rfl rfl (op_len rfl sl23 (ev2 rfl)) ?_
          refine lex_gr (gd_t rfl rfl rfl) rfl rfl (op_sltk (j := (z.take 6000).length) rfl sl23 (ev2 rfl) (bd_some (ev2 rfl)) (fun _ => by omega) (fun _ => by omega) (fun _ => rfl)) ?_
          refine lex_gr (gd_t rfl rfl rfl) rfl rfl (zaj [] [] [] rfl (ev1 rfl) (ec (ev2 rfl) (ec (ev2 rfl) en)) rfl rfl (equalB (z.take 6000) (z.take (z.take 6000).length)) rfl rfl rfl rfl rfl rfl) ?_
          refine zag rfl rfl (op_and rfl (ev1 rfl) (ev3 rfl id)) ?_
          refine zag rfl rfl (zac (.inr rfl) (ev1 rfl)) ?_
          refine lex_nil ?_
          refine dwp_ret ?_
          refine kend0 (rs1 rfl (rv_t rfl)) rfl ?_
          rw [tk_len]
          simp
      · obtain ⟨rfl, rfl⟩ := m2 hr hr2 (fun g => hs ⟨g.1.symm, g.2.symm⟩)
        refine zad ?_
        refine zab rfl rfl rfl (op_fa rfl fo41_0 (ev1 rfl)) ?_
        refine zab rfl rfl rfl (op_ldm rfl tb3 (ev1 rfl) rfl rfl) ?_
        refine zab rfl rfl rfl (op_fa rfl fo41_0 (ev1 rfl)) ?_
        refine zab rfl rfl rfl (op_ldm rfl tb3 (ev1 rfl) rfl rfl) ?_
        refine zab rfl rfl rfl (op_eql rfl (ev1 rfl) (ev1 rfl)) ?_
        refine zab rfl rfl rfl (zac (.inl rfl) (ev1 rfl)) ?_
        refine zai (gd_t rfl rfl rfl) rfl rfl rfl (op_fa rfl fo41_1 (ev1 rfl)) ?_
        refine zai (gd_t rfl rfl rfl) rfl rfl rfl (op_ldm rfl tb3 (ev2 rfl) rfl rfl) ?_
        refine zai (gd_t rfl rfl rfl) rfl rfl rfl (op_fa rfl fo41_1 (ev1 rfl)) ?_
        refine zai (gd_t rfl rfl rfl) rfl rfl rfl (op_ldm rfl tb3 (ev2 rfl) rfl rfl) ?_
        refine zai (gd_t rfl rfl rfl) rfl rfl rfl (op_eql rfl (ev2 rfl) (ev2 rfl)) ?_
        refine zab rfl rfl rfl (op_and rfl (ev1 rfl) (ev3 rfl id)) ?_
        refine zae ?_
        refine dwp_if_f rfl (by rw [Bool.eq_false_iff]; intro g; simp at g; exact hs ⟨g.1.symm, g.2.symm⟩) ?_
        refine dwp_skip ?_
        refine zaf ?_
        refine zaf ?_
        refine zad ?_
        refine zab rfl rfl rfl (zac (.inl rfl) (ev1 rfl)) ?_
        refine zab rfl rfl rfl (zac (.inl rfl) (ev1 rfl)) ?_
        refine zab rfl rfl rfl (op_neq rfl (ev1 rfl) (ev1 rfl)) ?_
        refine zab rfl rfl rfl (zac (.inl rfl) (ev1 rfl)) ?_
        refine zai (gd_f rfl rfl rfl) rfl rfl rfl (zac (.inl rfl) (ev1 rfl)) ?_
        refine zai (gd_f rfl rfl rfl) rfl rfl rfl (zac (.inl rfl) (ev1 rfl)) ?_
        refine zai (gd_f rfl rfl rfl) rfl rfl rfl (op_neq rfl (ev2 rfl) (ev2 rfl)) ?_
        refine zab rfl rfl rfl (op_or rfl (ev1 rfl) (ev3 rfl id)) ?_
        refine zab rfl rfl rfl (zac (.inl rfl) (ev1 rfl)) ?_
        refine zai (gd_f rfl rfl rfl) rfl rfl rfl (zac (.inl rfl) (ev1 rfl)) ?_
        refine zai (gd_f rfl rfl rfl) rfl rfl rfl (zac (.inl rfl) (ev1 rfl)) ?_
        refine zai (gd_f rfl rfl rfl) rfl rfl rfl (zaj [] [] [] rfl (ev1 rfl) (ec (ev2 rfl) (ec (ev2 rfl) en)) rfl rfl (equalB (canvasB a b (xa.take 17)) (canvasB a b (xa.take 17))) rfl rfl rfl rfl rfl rfl) ?_
        refine zai (gd_f rfl rfl rfl) rfl rfl rfl (op_not rfl (ev2 rfl)) ?_
        refine zab rfl rfl rfl (op_or rfl (ev1 rfl) (ev3 rfl id)) ?_
        refine zab rfl rfl rfl (zac (.inl rfl) (ev1 rfl)) ?_
        refine zai (gd_f rfl rfl rfl) rfl rfl rfl (zac (.inl rfl) (ev1 rfl)) ?_
        refine zai (gd_f rfl rfl rfl) rfl rfl rfl (zac (.inl rfl) (ev1 rfl)) ?_
        refine zai (gd_f rfl rfl rfl) rfl rfl rfl (zaj [] [] [] rfl (ev1 rfl) (ec (ev2 rfl) (ec (evnil 1 (ev2 rfl)) en)) rfl rfl (equalB [] []) rfl rfl rfl rfl rfl rfl) ?_
        refine zai (gd_f rfl rfl rfl) rfl rfl rfl (op_not rfl (ev2 rfl)) ?_
        refine zab rfl rfl rfl (op_or rfl (ev1 rfl) (ev3 rfl id)) ?_
        refine zae ?_
        refine dwp_if_f rfl (by simp) ?_
        refine dwp_skip ?_
        refine zaf ?_
        refine zad ?_
        refine zab rfl rfl rfl (zac (.inl rfl) (ev1 rfl)) ?_
        refine zab rfl rfl rfl (zac (.inl rfl) (ev1 rfl)) ?_
        refine zab rfl rfl rfl (op_len rfl sl23 (ev1 rfl)) ?_
        refine zab rfl rfl rfl (op_min rfl (ev1 rfl) (ev1 rfl)) ?_
        refine zab rfl rfl rfl ((op_sltk (j := min z.length 6000) rfl sl23 (ev1 rfl) (bd_some (ev1 rfl)) (fun _ => by omega) (fun _ => by omega) (fun _ => rfl)).cast (d' := .slf 1 ((z.take 6000)).length (((z.take 6000)).flatMap u8V)) (by rw [tk_min])) ?_
        refine zab rfl rfl rfl (zaj [] [] [] rfl (ev1 rfl) (ec (ev1 rfl) en) rfl rfl (cloneB_f (z.take 6000) (by omega)) rfl rfl rfl rfl rfl rfl) ?_
        refine zab rfl rfl rfl (zac (.inr rfl) (ev1 rfl)) ?_
        refine zae ?_
        refine zaf ?_
        obtain ⟨w1, g1, u1, q1, e3, f3, f4, hor, hul⟩ := rd_cases (z.take 6000) (by omega) hzb
        refine zah 1 (by simp only [holes, List.cons_append, List.nil_append]; exact rfl) ?_
        refine zad ?_
        refine zab rfl rfl rfl (zac (.inl rfl) (ev1 rfl)) ?_
        refine zab rfl rfl rfl (zaj [] [] [] rfl (ev1 rfl) (ec (ev1 rfl) en) rfl rfl (f3) rfl rfl rfl rfl rfl rfl) ?_
        refine zab rfl rfl rfl (zac (.inl rfl) (ev1 rfl)) ?_
        refine zab rfl rfl rfl (op_ext rfl (ev1 rfl) rfl) ?_
        refine zab rfl rfl rfl (op_ext rfl (ev1 rfl) rfl) ?_
        refine zab rfl rfl rfl (op_ext rfl (ev1 rfl) rfl) ?_
        refine walk_w rfl rfl rfl (op_alloc 4 rfl zr41 rfl) (by simp only [upd, za, zaa]; exact rfl) ?_
        refine walk_s rfl rfl (op_stam rfl tb41 (ev1 rfl) (ev1 rfl) rfl rfl rfl rfl) (by simp only [upd, za, zaa]; exact rfl) ?_
        refine zab rfl rfl rfl (zac (.inr rfl) (ev1 rfl)) ?_
        refine zab rfl rfl rfl (zac (.inr rfl) (ev1 rfl)) ?_
        refine zae ?_
        refine zaf ?_
        refine zah 1 (by simp only [holes, List.cons_append, List.nil_append]; exact rfl) ?_
        refine zad ?_
        refine zab rfl rfl rfl (zac (.inl rfl) (ev1 rfl)) ?_
        refine zab rfl rfl rfl (zaj [] [] [] rfl (ev1 rfl) (ec (ev1 rfl) en) rfl rfl (f4) rfl rfl rfl rfl rfl rfl) ?_
        refine zab rfl rfl rfl (zac (.inl rfl) (ev1 rfl)) ?_
        refine zab rfl rfl rfl (op_ext rfl (ev1 rfl) rfl) ?_
        refine zab rfl rfl rfl (op_ext rfl (ev1 rfl) rfl) ?_
        refine walk_w rfl rfl rfl (op_alloc 5 rfl zr41 rfl) (by simp only [upd, za, zaa]; exact rfl) ?_
        refine walk_s rfl rfl (op_stam rfl tb41 (ev1 rfl) (ev1 rfl) rfl rfl rfl rfl) (by simp only [upd, za, zaa]; exact rfl) ?_
        refine zab rfl rfl rfl (zac (.inr rfl) (ev1 rfl)) ?_
        refine zae ?_
        refine zaf ?_
        refine zaf ?_
        refine zad ?_
        refine zab rfl rfl rfl (op_ldmw rfl tb41 (ev1 rfl) rfl rfl) ?_
        refine zab rfl rfl rfl (op_ldmw rfl tb41 (ev1 rfl) rfl rfl) ?_
        refine zab rfl rfl rfl (zaj [] [] [] rfl (ev1 rfl) (ec (ev1 rfl) (ec (ev1 rfl) en)) rfl rfl (same_d w1 g1 w1 g1 u1 u1 hul) rfl rfl rfl rfl rfl rfl) ?_
        refine zab rfl rfl rfl (op_not rfl (ev1 rfl)) ?_
        refine zab rfl rfl rfl (zac (.inl rfl) (ev1 rfl)) ?_
        refine zai (gd_f rfl rfl rfl) rfl rfl rfl (zac (.inl rfl) (ev1 rfl)) ?_
        refine zai (gd_f rfl rfl rfl) rfl rfl rfl (zac (.inl rfl) (ev1 rfl)) ?_
        refine zai (gd_f rfl rfl rfl) rfl rfl rfl (op_neq rfl (ev2 rfl) (ev2 rfl)) ?_
        refine zab rfl rfl rfl (op_or rfl (ev1 rfl) (ev3 rfl id)) ?_
        refine zab rfl rfl rfl (zac (.inl rfl) (ev1 rfl)) ?_
        refine zai (gd_f rfl rfl rfl) rfl rfl rfl (zac (.inl rfl) (ev1 rfl)) ?_
        refine zai (gd_f rfl rfl rfl) rfl rfl rfl (op_eql rfl (ev2 rfl) (ev1 rfl)) ?_
        refine zai (gd_f rfl rfl rfl) rfl rfl rfl (zac (.inl rfl) (ev1 rfl)) ?_
        refine zai (gd_f rfl rfl rfl) rfl rfl rfl (op_gtr rfl (ev2 rfl) (ev1 rfl)) ?_
        refine zai (gd_f rfl rfl rfl) rfl rfl rfl (op_neb rfl un4 (ev2 rfl) (ev2 rfl)) ?_
        refine zab rfl rfl rfl (op_or rfl (ev1 rfl) (ev3 rfl id)) ?_
        refine zab rfl rfl rfl (zac (.inl rfl) (ev1 rfl)) ?_
        refine zai (gd_f rfl rfl rfl) rfl rfl rfl (zac (.inl rfl) (ev1 rfl)) ?_
        refine zai (gd_f rfl rfl rfl) rfl rfl rfl (op_eql rfl (ev2 rfl) (ev1 rfl)) ?_
        refine zai (gd_f rfl rfl rfl) rfl rfl rfl (zac (.inl rfl) (ev2 rfl)) ?_
        refine zai (gd_tt rfl rfl rfl) rfl rfl rfl (zac (.inl rfl) (ev1 rfl)) ?_
        refine zai (gd_tt rfl rfl rfl) rfl rfl rfl (op_neq rfl (ev2 rfl) (ev1 rfl)) ?_
        refine zai (gd_f rfl rfl rfl) rfl rfl rfl (op_and rfl (ev2 rfl) (ev2 rfl)) ?_
        refine zab rfl rfl rfl (op_or rfl (ev1 rfl) (ev3 rfl id)) ?_
        refine zae ?_
        refine dwp_if_f rfl (by rcases hor with ⟨v1, v2⟩ | ⟨v1, v2⟩ <;> simp [v1, v2] <;> omega) ?_
        refine dwp_skip ?_
        refine zaf ?_
        by_cases hx : noAp (z.take 6000) a b (xa.take 17)
        · refine zad ?_
          refine zab rfl rfl rfl (op_ldmw rfl tb41 (ev1 rfl) rfl rfl) ?_
          refine zab rfl rfl rfl (zac (.inl rfl) (ev1 rfl)) ?_
          refine zab rfl rfl rfl (zaj [] [] [] rfl (ev1 rfl) (ec (ev1 rfl) (ec (ev1 rfl) en)) rfl rfl ((apl_no (z.take 6000) (by omega) hzb a b (xa.take 17) hr hx).wk (wk_ze 200)) rfl rfl rfl rfl rfl rfl) ?_
          refine zab rfl rfl rfl (zac (.inl rfl) (ev1 rfl)) ?_
          refine zab rfl rfl rfl (op_ext rfl (ev1 rfl) rfl) ?_
          refine zab rfl rfl rfl (op_ext rfl (ev1 rfl) rfl) ?_
          refine zab rfl rfl rfl (op_ext rfl (ev1 rfl) rfl) ?_
          refine walk_s rfl rfl (op_stmw rfl tb41 (ev1 rfl) (ev1 rfl) rfl rfl rfl rfl) (by simp only [upd, za, zaa]; exact rfl) ?_
          refine zab rfl rfl rfl (zac (.inr rfl) (ev1 rfl)) ?_
          refine zab rfl rfl rfl (zac (.inr rfl) (ev1 rfl)) ?_
          refine zae ?_
          refine zaf ?_
          refine zad ?_
          refine zab rfl rfl rfl (op_build0 rfl fl41 zr41) ?_
          refine walk_s rfl rfl (op_stmp rfl tb41 (ev1 rfl) (evwk (ev1 rfl) (Wk.vagg _)) rfl rfl rfl rfl rfl) (by simp only [upd, za, zaa]; exact rfl) ?_
          refine zab rfl rfl rfl (zac (.inr rfl) (ev1 rfl)) ?_
          refine zae ?_
          refine zaf ?_
          refine zad ?_
          refine zab rfl rfl rfl (zac (.inr rfl) (ev1 rfl)) ?_
          refine zae ?_
          refine zaf ?_
          refine zaf ?_
          refine zad ?_
          refine zab rfl rfl rfl (zac (.inl rfl) (ev1 rfl)) ?_
          refine zae ?_
          refine dwp_if_t rfl (hr) ?_
          refine zaf ?_
          refine zad ?_
          refine zab rfl rfl rfl (zac (.inr rfl) (ev1 rfl)) ?_
          refine zae ?_
          refine zaf ?_
          refine zad ?_
          refine zab rfl rfl rfl (op_ldmw rfl tb41 (ev1 rfl) rfl rfl) ?_
          refine zab rfl rfl rfl (zac (.inl rfl) (ev1 rfl)) ?_
          refine zab rfl rfl rfl (zaj [] [] [] rfl (ev1 rfl) (ec (ev1 rfl) (ec (ev1 rfl) en)) rfl rfl ((rap_no (z.take 6000) (by omega) hzb a b (xa.take 17) hr hx).wk wk_zd) rfl rfl rfl rfl rfl rfl) ?_
          refine zab rfl rfl rfl (zac (.inl rfl) (ev1 rfl)) ?_
          refine zab rfl rfl rfl (op_ext rfl (ev1 rfl) rfl) ?_
          refine zab rfl rfl rfl (op_ext rfl (ev1 rfl) rfl) ?_
          refine walk_s rfl rfl (op_stmw rfl tb41 (ev1 rfl) (ev1 rfl) rfl rfl rfl rfl) (by simp only [upd, za, zaa]; exact rfl) ?_
          refine zab rfl rfl rfl (zac (.inr rfl) (ev1 rfl)) ?_
          refine zae ?_
          refine zaf ?_
          refine zad ?_
          refine zab rfl rfl rfl (zac (.inl rfl) (ev1 rfl)) ?_
          refine zab rfl rfl rfl (op_gtr rfl (ev1 rfl) (ev1 rfl)) ?_
          refine zae ?_
          refine dwp_if_f rfl (rfl) ?_
          refine dwp_skip ?_
          refine zaf ?_
          refine zaf ?_
          refine zad ?_
          refine zab rfl rfl rfl (op_ldmw rfl tb41 (ev1 rfl) rfl rfl) ?_
          refine zab rfl rfl rfl (op_ldmw rfl tb41 (ev1 rfl) rfl rfl) ?_
          refine zab rfl rfl rfl (zaj [] [] [] rfl (ev1 rfl) (ec (ev1 rfl) (ec (ev1 rfl) en)) rfl rfl (same_d 0 0 0 0 [] [] (by decide)) rfl rfl rfl rfl rfl rfl) ?_
          refine zab rfl rfl rfl (op_not rfl (ev1 rfl)) ?_
          refine zab rfl rfl rfl (zac (.inl rfl) (ev1 rfl)) ?_
          refine zai (gd_f rfl rfl rfl) rfl rfl rfl (zac (.inl rfl) (ev1 rfl)) ?_
          refine zai (gd_f rfl rfl rfl) rfl rfl rfl (zac (.inl rfl) (ev1 rfl)) ?_
          refine zai (gd_f rfl rfl rfl) rfl rfl rfl (op_neq rfl (ev2 rfl) (ev2 rfl)) ?_
          refine zab rfl rfl rfl (op_or rfl (ev1 rfl) (ev3 rfl id)) ?_
          refine zab rfl rfl rfl (zac (.inl rfl) (ev1 rfl)) ?_
          refine zai (gd_f rfl rfl rfl) rfl rfl rfl (zac (.inl rfl) (ev1 rfl)) ?_
          refine zai (gd_f rfl rfl rfl) rfl rfl rfl (zac (.inl rfl) (ev1 rfl)) ?_
          refine zai (gd_f rfl rfl rfl) rfl rfl rfl (op_neq rfl (ev2 rfl) (ev2 rfl)) ?_
          refine zab rfl rfl rfl (op_or rfl (ev1 rfl) (ev3 rfl id)) ?_
          refine zae ?_
          refine dwp_if_f rfl (rfl) ?_
          refine dwp_skip ?_
          refine zaf ?_
          refine zad ?_
          refine zab rfl rfl rfl (op_ldmw rfl tb41 (ev1 rfl) rfl rfl) ?_
          refine zab rfl rfl rfl (zaj [] [] [] rfl (ev1 rfl) (ec (ev1 rfl) en) rfl rfl (spoil_z 0 0) rfl rfl rfl rfl rfl rfl) ?_
          refine zae ?_
          refine zaf ?_
          refine dwp_draw [([2], []), ([0], []), ([], []), ([], []), ([], []), ([3], []), ([1], []), ([], []), ([], []), ([], []), ([], []), ([], []), ([], []), ([], []), ([], []), ([], []), ([], []), ([], []), ([], [])] mixed (by kernel_rfl) ?_
          refine zag rfl rfl (op_ldmw rfl tb41 (ev1 rfl) rfl rfl) ?_
          refine zag rfl rfl (op_ldmw rfl tb41 (ev1 rfl) rfl rfl) ?_
          refine zag rfl rfl (zaj [] [] [] rfl (ev1 rfl) (ec (ev1 rfl) en) rfl rfl (lown_d a b xa) rfl rfl rfl rfl rfl rfl) ?_
          refine zag rfl rfl (zaj [] [] [] rfl (ev1 rfl) (ec (ev1 rfl) (ec (ev1 rfl) en)) rfl rfl (same_d _ _ _ _ _ _ (by omega)) rfl rfl rfl rfl rfl rfl) ?_
          refine zag rfl rfl (zac (.inl rfl) (ev1 rfl)) ?_
          refine lex_gr (gd_t rfl rfl rfl) rfl rfl (op_ldmw rfl tb41 (ev1 rfl) rfl rfl) ?_
          refine lex_gr (gd_t rfl rfl rfl) rfl rfl (op_ldmw rfl tb41 (ev1 rfl) rfl rfl) ?_
          refine lex_gr (gd_t rfl rfl rfl) rfl rfl (zaj [] [] [] rfl (ev1 rfl) (ec (ev2 rfl) en) rfl rfl (lown_d c d xb) rfl rfl rfl rfl rfl rfl) ?_
          refine lex_gr (gd_t rfl rfl rfl) rfl rfl (zaj [] [] [] rfl (ev1 rfl) (ec (ev2 rfl) (ec (ev2 rfl) en)) rfl rfl (same_d _ _ _ _ _ _ (by omega)) rfl rfl rfl rfl rfl rfl) ?_
          refine zag rfl rfl (op_and rfl (ev1 rfl) (ev3 rfl id)) ?_
          refine zag rfl rfl (zac (.inl rfl) (ev1 rfl)) ?_
          refine lex_gr (gd_t rfl rfl rfl) rfl rfl (zac (.inl rfl) (ev1 rfl)) ?_
          refine lex_gr (gd_t rfl rfl rfl) rfl rfl (zac (.inl rfl) (ev1 rfl)) ?_
          refine lex_gr (gd_t rfl rfl rfl) rfl rfl (zac (.inl rfl) (ev1 rfl)) ?_
          refine lex_gr (gd_t rfl rfl rfl) rfl rfl (op_len rfl sl23 (ev2 rfl)) ?_
          refine lex_gr (gd_t rfl rfl rfl) rfl rfl (op_sltk (j := (z.take 6000).length) rfl sl23 (ev2 rfl) (bd_some (ev2 rfl)) (fun _ => by omega) (fun _ => by omega) (fun _ => rfl)) ?_
          refine lex_gr (gd_t rfl rfl rfl) rfl rfl (zaj [] [] [] rfl (ev1 rfl) (ec (ev2 rfl) (ec (ev2 rfl) en)) rfl rfl (equalB (z.take 6000) (z.take (z.take 6000).length)) rfl rfl rfl rfl rfl rfl) ?_
          refine zag rfl rfl (op_and rfl (ev1 rfl) (ev3 rfl id)) ?_
          refine zag rfl rfl (zac (.inr rfl) (ev1 rfl)) ?_
          refine lex_nil ?_
          refine dwp_ret ?_
          refine kend0 (rs1 rfl (rv_t rfl)) rfl ?_
          rw [tk_len]
          simp
        · unfold noAp at hx
          obtain ⟨h2, hw, h0⟩ := Classical.not_not.1 hx
          obtain ⟨⟨us, q⟩, h0⟩ := Option.isSome_iff_exists.1 h0
          obtain ⟨j1, j2, j3⟩ := rdNs_len h2 h0
          obtain ⟨y1, y2, y3, _⟩ := right_n hr
          have ybd := mul_in y3
          have hul2 : us.length ≤ 5000 := by rw [j1]; simp; omega
          refine zah 1 (by simp only [holes, List.cons_append, List.nil_append]; exact rfl) ?_
          refine zad ?_
          refine zab rfl rfl rfl (op_ldmw rfl tb41 (ev1 rfl) rfl rfl) ?_
          refine zab rfl rfl rfl (zac (.inl rfl) (ev1 rfl)) ?_
          refine walk_w rfl rfl rfl (zaj [] [] [6] rfl (ev1 rfl) (ec (ev1 rfl) (ec (ev1 rfl) en)) rfl rfl (apl_h (z.take 6000) (by omega) hzb a b (xa.take 17) hr hw h2 us q h0) rfl rfl rfl rfl rfl rfl) (by simp only [upd, za, zaa]; exact rfl) ?_
          refine zab rfl rfl rfl (zac (.inl rfl) (ev1 rfl)) ?_
          refine zab rfl rfl rfl (op_ext rfl (ev1 rfl) rfl) ?_
          refine zab rfl rfl rfl (op_ext rfl (ev1 rfl) rfl) ?_
          refine zab rfl rfl rfl (op_ext rfl (ev1 rfl) rfl) ?_
          refine walk_s rfl rfl (op_stmw rfl tb41 (ev1 rfl) (ev1 rfl) rfl rfl rfl rfl) (by simp only [upd, za, zaa]; exact rfl) ?_
          refine zab rfl rfl rfl (zac (.inr rfl) (ev1 rfl)) ?_
          refine zab rfl rfl rfl (zac (.inr rfl) (ev1 rfl)) ?_
          refine zae ?_
          refine zaf ?_
          refine zad ?_
          refine zab rfl rfl rfl (op_build0 rfl fl41 zr41) ?_
          refine walk_s rfl rfl (op_stmp rfl tb41 (ev1 rfl) (evwk (ev1 rfl) (Wk.vagg _)) rfl rfl rfl rfl rfl) (by simp only [upd, za, zaa]; exact rfl) ?_
          refine zab rfl rfl rfl (zac (.inr rfl) (ev1 rfl)) ?_
          refine zae ?_
          refine zaf ?_
          refine zad ?_
          refine zab rfl rfl rfl (zac (.inr rfl) (ev1 rfl)) ?_
          refine zae ?_
          refine zaf ?_
          refine zaf ?_
          refine zad ?_
          refine zab rfl rfl rfl (zac (.inl rfl) (ev1 rfl)) ?_
          refine zae ?_
          refine dwp_if_t rfl (hr) ?_
          refine zaf ?_
          refine zad ?_
          refine zab rfl rfl rfl (zac (.inr rfl) (ev1 rfl)) ?_
          refine zae ?_
          refine zaf ?_
          refine zad ?_
          refine zab rfl rfl rfl (op_ldmw rfl tb41 (ev1 rfl) rfl rfl) ?_
          refine zab rfl rfl rfl (zac (.inl rfl) (ev1 rfl)) ?_
          refine zab rfl rfl rfl (zaj [] [] [] rfl (ev1 rfl) (ec (ev1 rfl) (ec (ev1 rfl) en)) rfl rfl (rap_y (z.take 6000) (by omega) hzb a b (xa.take 17) (by omega) (by omega) h2 hw us q h0) rfl rfl rfl rfl rfl rfl) ?_
          refine zab rfl rfl rfl (zac (.inl rfl) (ev1 rfl)) ?_
          refine zab rfl rfl rfl (op_ext rfl (ev1 rfl) rfl) ?_
          refine zab rfl rfl rfl (op_ext rfl (ev1 rfl) rfl) ?_
          refine walk_s rfl rfl (op_stmw rfl tb41 (ev1 rfl) (ev1 rfl) rfl rfl rfl rfl) (by simp only [upd, za, zaa]; exact rfl) ?_
          refine zab rfl rfl rfl (zac (.inr rfl) (ev1 rfl)) ?_
          refine zae ?_
          refine zaf ?_
          refine zad ?_
          refine zab rfl rfl rfl (zac (.inl rfl) (ev1 rfl)) ?_
          refine zab rfl rfl rfl (op_gtr rfl (ev1 rfl) (ev1 rfl)) ?_
          refine zae ?_
          refine dwp_if_t rfl (by simp; omega) ?_
          refine zad ?_
          refine zab rfl rfl rfl (zac (.inr rfl) (ev1 rfl)) ?_
          refine zae ?_
          refine zaf ?_
          refine zaf ?_
          refine zad ?_
          refine zab rfl rfl rfl (op_ldmw rfl tb41 (ev1 rfl) rfl rfl) ?_
          refine zab rfl rfl rfl (op_ldmw rfl tb41 (ev1 rfl) rfl rfl) ?_
          refine zab rfl rfl rfl (zaj [] [6] [] rfl (ev1 rfl) (ec (ev1 rfl) (ec (ev1 rfl) en)) rfl rfl (same_d a b a b us us hul2) rfl rfl rfl rfl rfl rfl) ?_
          refine zab rfl rfl rfl (op_not rfl (ev1 rfl)) ?_
          refine zab rfl rfl rfl (zac (.inl rfl) (ev1 rfl)) ?_
          refine zai (gd_f rfl rfl rfl) rfl rfl rfl (zac (.inl rfl) (ev1 rfl)) ?_
          refine zai (gd_f rfl rfl rfl) rfl rfl rfl (zac (.inl rfl) (ev1 rfl)) ?_
          refine zai (gd_f rfl rfl rfl) rfl rfl rfl (op_neq rfl (ev2 rfl) (ev2 rfl)) ?_
          refine zab rfl rfl rfl (op_or rfl (ev1 rfl) (ev3 rfl id)) ?_
          refine zab rfl rfl rfl (zac (.inl rfl) (ev1 rfl)) ?_
          refine zai (gd_f rfl rfl rfl) rfl rfl rfl (zac (.inl rfl) (ev1 rfl)) ?_
          refine zai (gd_f rfl rfl rfl) rfl rfl rfl (zac (.inl rfl) (ev1 rfl)) ?_
          refine zai (gd_f rfl rfl rfl) rfl rfl rfl (op_neq rfl (ev2 rfl) (ev2 rfl)) ?_
          refine zab rfl rfl rfl (op_or rfl (ev1 rfl) (ev3 rfl id)) ?_
          refine zae ?_
          refine dwp_if_f rfl (by simp) ?_
          refine dwp_skip ?_
          refine zaf ?_
          refine zad ?_
          refine zab rfl rfl rfl (op_ldmw rfl tb41 (ev1 rfl) rfl rfl) ?_
          refine walk_w rfl rfl rfl (zaj [6] [] [] rfl (ev1 rfl) (ec (ev1 rfl) en) rfl rfl (spoil_o a b us hul2) rfl rfl rfl rfl rfl rfl) (by simp only [upd, za, zaa]; exact rfl) ?_
          refine zae ?_
          refine zaf ?_
          refine dwp_draw [([2], []), ([0], []), ([], []), ([], []), ([], []), ([3], []), ([1], []), ([], []), ([], []), ([], []), ([], []), ([], []), ([], []), ([], []), ([], []), ([], []), ([], []), ([], []), ([], [])] mixed (by kernel_rfl) ?_
          refine zag rfl rfl (op_ldmw rfl tb41 (ev1 rfl) rfl rfl) ?_
          refine zag rfl rfl (op_ldmw rfl tb41 (ev1 rfl) rfl rfl) ?_
          refine zag rfl rfl (zaj [] [] [] rfl (ev1 rfl) (ec (ev1 rfl) en) rfl rfl (lown_d a b xa) rfl rfl rfl rfl rfl rfl) ?_
          refine zag rfl rfl (zaj [] [] [] rfl (ev1 rfl) (ec (ev1 rfl) (ec (ev1 rfl) en)) rfl rfl (same_d _ _ _ _ _ _ (by omega)) rfl rfl rfl rfl rfl rfl) ?_
          refine zag rfl rfl (zac (.inl rfl) (ev1 rfl)) ?_
          refine lex_gr (gd_t rfl rfl rfl) rfl rfl (op_ldmw rfl tb41 (ev1 rfl) rfl rfl) ?_
          refine lex_gr (gd_t rfl rfl rfl) rfl rfl (op_ldmw rfl tb41 (ev1 rfl) rfl rfl) ?_
          refine lex_gr (gd_t rfl rfl rfl) rfl rfl (zaj [] [] [] rfl (ev1 rfl) (ec (ev2 rfl) en) rfl rfl (lown_d c d xb) rfl rfl rfl rfl rfl rfl) ?_
          refine lex_gr (gd_t rfl rfl rfl) rfl rfl (zaj [] [] [] rfl (ev1 rfl) (ec (ev2 rfl) (ec (ev2 rfl) en)) rfl rfl (same_d _ _ _ _ _ _ (by omega)) rfl rfl rfl rfl rfl rfl) ?_
          refine zag rfl rfl (op_and rfl (ev1 rfl) (ev3 rfl id)) ?_
          refine zag rfl rfl (zac (.inl rfl) (ev1 rfl)) ?_
          refine lex_gr (gd_t rfl rfl rfl) rfl rfl (zac (.inl rfl) (ev1 rfl)) ?_
          refine lex_gr (gd_t rfl rfl rfl) rfl rfl (zac (.inl rfl) (ev1 rfl)) ?_
          refine lex_gr (gd_t rfl rfl rfl) rfl rfl (zac (.inl rfl) (ev1 rfl)) ?_
          refine lex_gr (gd_t rfl rfl rfl) rfl rfl (op_len rfl sl23 (ev2 rfl)) ?_
          refine lex_gr (gd_t rfl rfl rfl) rfl rfl (op_sltk (j := (z.take 6000).length) rfl sl23 (ev2 rfl) (bd_some (ev2 rfl)) (fun _ => by omega) (fun _ => by omega) (fun _ => rfl)) ?_
          refine lex_gr (gd_t rfl rfl rfl) rfl rfl (zaj [] [] [] rfl (ev1 rfl) (ec (ev2 rfl) (ec (ev2 rfl) en)) rfl rfl (equalB (z.take 6000) (z.take (z.take 6000).length)) rfl rfl rfl rfl rfl rfl) ?_
          refine zag rfl rfl (op_and rfl (ev1 rfl) (ev3 rfl id)) ?_
          refine zag rfl rfl (zac (.inr rfl) (ev1 rfl)) ?_
          refine lex_nil ?_
          refine dwp_ret ?_
          refine kend0 (rs1 rfl (rv_t rfl)) rfl ?_
          rw [tk_len]
          simp
    · have hr0 : rightB c d (xb.take 17) = false := by simpa using hr2
      obtain ⟨rfl, rfl⟩ := m1 (by rw [hr0, Bool.and_false])
      refine zad ?_
      refine zab rfl rfl rfl (zac (.inl rfl) (ev1 rfl)) ?_
      refine zae ?_
      refine dwp_if_f rfl (by rw [hr0, Bool.and_false]) ?_
      refine dwp_skip ?_
      refine zaf ?_
      refine zaf ?_
      refine zad ?_
      refine zab rfl rfl rfl (zac (.inl rfl) (ev1 rfl)) ?_
      refine zab rfl rfl rfl (zac (.inl rfl) (ev1 rfl)) ?_
      refine zab rfl rfl rfl (op_neq rfl (ev1 rfl) (ev1 rfl)) ?_
      refine zab rfl rfl rfl (zac (.inl rfl) (ev1 rfl)) ?_
      refine zai (gd_f rfl rfl rfl) rfl rfl rfl (zac (.inl rfl) (ev1 rfl)) ?_
      refine zai (gd_f rfl rfl rfl) rfl rfl rfl (zac (.inl rfl) (ev1 rfl)) ?_
      refine zai (gd_f rfl rfl rfl) rfl rfl rfl (op_neq rfl (ev2 rfl) (ev2 rfl)) ?_
      refine zab rfl rfl rfl (op_or rfl (ev1 rfl) (ev3 rfl id)) ?_
      refine zab rfl rfl rfl (zac (.inl rfl) (ev1 rfl)) ?_
      refine zai (gd_f rfl rfl rfl) rfl rfl rfl (zac (.inl rfl) (ev1 rfl)) ?_
      refine zai (gd_f rfl rfl rfl) rfl rfl rfl (zac (.inl rfl) (ev1 rfl)) ?_
      refine zai (gd_f rfl rfl rfl) rfl rfl rfl (zaj [] [] [] rfl (ev1 rfl) (ec (ev2 rfl) (ec (ev2 rfl) en)) rfl rfl (equalB (canvasB a b (xa.take 17)) (canvasB a b (xa.take 17))) rfl rfl rfl rfl rfl rfl) ?_
      refine zai (gd_f rfl rfl rfl) rfl rfl rfl (op_not rfl (ev2 rfl)) ?_
      refine zab rfl rfl rfl (op_or rfl (ev1 rfl) (ev3 rfl id)) ?_
      refine zab rfl rfl rfl (zac (.inl rfl) (ev1 rfl)) ?_
      refine zai (gd_f rfl rfl rfl) rfl rfl rfl (zac (.inl rfl) (ev1 rfl)) ?_
      refine zai (gd_f rfl rfl rfl) rfl rfl rfl (zac (.inl rfl) (ev1 rfl)) ?_
      refine zai (gd_f rfl rfl rfl) rfl rfl rfl (zaj [] [] [] rfl (ev1 rfl) (ec (ev2 rfl) (ec (evnil 1 (ev2 rfl)) en)) rfl rfl (equalB [] []) rfl rfl rfl rfl rfl rfl) ?_
      refine zai (gd_f rfl rfl rfl) rfl rfl rfl (op_not rfl (ev2 rfl)) ?_
      refine zab rfl rfl rfl (op_or rfl (ev1 rfl) (ev3 rfl id)) ?_
      refine zae ?_
      refine dwp_if_f rfl (by simp) ?_
      refine dwp_skip ?_
      refine zaf ?_
      refine zad ?_
      refine zab rfl rfl rfl (zac (.inl rfl) (ev1 rfl)) ?_
      refine zab rfl rfl rfl (zac (.inl rfl) (ev1 rfl)) ?_
      refine zab rfl rfl rfl (op_len rfl sl23 (ev1 rfl)) ?_
      refine zab rfl rfl rfl (op_min rfl (ev1 rfl) (ev1 rfl)) ?_
      refine zab rfl rfl rfl ((op_sltk (j := min z.length 6000) rfl sl23 (ev1 rfl) (bd_some (ev1 rfl)) (fun _ => by omega) (fun _ => by omega) (fun _ => rfl)).cast (d' := .slf 1 ((z.take 6000)).length (((z.take 6000)).flatMap u8V)) (by rw [tk_min])) ?_
      refine zab rfl rfl rfl (zaj [] [] [] rfl (ev1 rfl) (ec (ev1 rfl) en) rfl rfl (cloneB_f (z.take 6000) (by omega)) rfl rfl rfl rfl rfl rfl) ?_
      refine zab rfl rfl rfl (zac (.inr rfl) (ev1 rfl)) ?_
      refine zae ?_
      refine zaf ?_
      obtain ⟨w1, g1, u1, q1, e3, f3, f4, hor, hul⟩ := rd_cases (z.take 6000) (by omega) hzb
      refine zah 1 (by simp only [holes, List.cons_append, List.nil_append]; exact rfl) ?_
      refine zad ?_
      refine zab rfl rfl rfl (zac (.inl rfl) (ev1 rfl)) ?_
      refine zab rfl rfl rfl (zaj [] [] [] rfl (ev1 rfl) (ec (ev1 rfl) en) rfl rfl (f3) rfl rfl rfl rfl rfl rfl) ?_
      refine zab rfl rfl rfl (zac (.inl rfl) (ev1 rfl)) ?_
      refine zab rfl rfl rfl (op_ext rfl (ev1 rfl) rfl) ?_
      refine zab rfl rfl rfl (op_ext rfl (ev1 rfl) rfl) ?_
      refine zab rfl rfl rfl (op_ext rfl (ev1 rfl) rfl) ?_
      refine walk_w rfl rfl rfl (op_alloc 4 rfl zr41 rfl) (by simp only [upd, za, zaa]; exact rfl) ?_
      refine walk_s rfl rfl (op_stam rfl tb41 (ev1 rfl) (ev1 rfl) rfl rfl rfl rfl) (by simp only [upd, za, zaa]; exact rfl) ?_
      refine zab rfl rfl rfl (zac (.inr rfl) (ev1 rfl)) ?_
      refine zab rfl rfl rfl (zac (.inr rfl) (ev1 rfl)) ?_
      refine zae ?_
      refine zaf ?_
      refine zah 1 (by simp only [holes, List.cons_append, List.nil_append]; exact rfl) ?_
      refine zad ?_
      refine zab rfl rfl rfl (zac (.inl rfl) (ev1 rfl)) ?_
      refine zab rfl rfl rfl (zaj [] [] [] rfl (ev1 rfl) (ec (ev1 rfl) en) rfl rfl (f4) rfl rfl rfl rfl rfl rfl) ?_
      refine zab rfl rfl rfl (zac (.inl rfl) (ev1 rfl)) ?_
      refine zab rfl rfl rfl (op_ext rfl (ev1 rfl) rfl) ?_
      refine zab rfl rfl rfl (op_ext rfl (ev1 rfl) rfl) ?_
      refine walk_w rfl rfl rfl (op_alloc 5 rfl zr41 rfl) (by simp only [upd, za, zaa]; exact rfl) ?_
      refine walk_s rfl rfl (op_stam rfl tb41 (ev1 rfl) (ev1 rfl) rfl rfl rfl rfl) (by simp only [upd, za, zaa]; exact rfl) ?_
      refine zab rfl rfl rfl (zac (.inr rfl) (ev1 rfl)) ?_
      refine zae ?_
      refine zaf ?_
      refine zaf ?_
      refine zad ?_
      refine zab rfl rfl rfl (op_ldmw rfl tb41 (ev1 rfl) rfl rfl) ?_
      refine zab rfl rfl rfl (op_ldmw rfl tb41 (ev1 rfl) rfl rfl) ?_
      refine zab rfl rfl rfl (zaj [] [] [] rfl (ev1 rfl) (ec (ev1 rfl) (ec (ev1 rfl) en)) rfl rfl (same_d w1 g1 w1 g1 u1 u1 hul) rfl rfl rfl rfl rfl rfl) ?_
      refine zab rfl rfl rfl (op_not rfl (ev1 rfl)) ?_
      refine zab rfl rfl rfl (zac (.inl rfl) (ev1 rfl)) ?_
      refine zai (gd_f rfl rfl rfl) rfl rfl rfl (zac (.inl rfl) (ev1 rfl)) ?_
      refine zai (gd_f rfl rfl rfl) rfl rfl rfl (zac (.inl rfl) (ev1 rfl)) ?_
      refine zai (gd_f rfl rfl rfl) rfl rfl rfl (op_neq rfl (ev2 rfl) (ev2 rfl)) ?_
      refine zab rfl rfl rfl (op_or rfl (ev1 rfl) (ev3 rfl id)) ?_
      refine zab rfl rfl rfl (zac (.inl rfl) (ev1 rfl)) ?_
      refine zai (gd_f rfl rfl rfl) rfl rfl rfl (zac (.inl rfl) (ev1 rfl)) ?_
      refine zai (gd_f rfl rfl rfl) rfl rfl rfl (op_eql rfl (ev2 rfl) (ev1 rfl)) ?_
      refine zai (gd_f rfl rfl rfl) rfl rfl rfl (zac (.inl rfl) (ev1 rfl)) ?_
      refine zai (gd_f rfl rfl rfl) rfl rfl rfl (op_gtr rfl (ev2 rfl) (ev1 rfl)) ?_
      refine zai (gd_f rfl rfl rfl) rfl rfl rfl (op_neb rfl un4 (ev2 rfl) (ev2 rfl)) ?_
      refine zab rfl rfl rfl (op_or rfl (ev1 rfl) (ev3 rfl id)) ?_
      refine zab rfl rfl rfl (zac (.inl rfl) (ev1 rfl)) ?_
      refine zai (gd_f rfl rfl rfl) rfl rfl rfl (zac (.inl rfl) (ev1 rfl)) ?_
      refine zai (gd_f rfl rfl rfl) rfl rfl rfl (op_eql rfl (ev2 rfl) (ev1 rfl)) ?_
      refine zai (gd_f rfl rfl rfl) rfl rfl rfl (zac (.inl rfl) (ev2 rfl)) ?_
      refine zai (gd_tt rfl rfl rfl) rfl rfl rfl (zac (.inl rfl) (ev1 rfl)) ?_
      refine zai (gd_tt rfl rfl rfl) rfl rfl rfl (op_neq rfl (ev2 rfl) (ev1 rfl)) ?_
      refine zai (gd_f rfl rfl rfl) rfl rfl rfl (op_and rfl (ev2 rfl) (ev2 rfl)) ?_
      refine zab rfl rfl rfl (op_or rfl (ev1 rfl) (ev3 rfl id)) ?_
      refine zae ?_
      refine dwp_if_f rfl (by rcases hor with ⟨v1, v2⟩ | ⟨v1, v2⟩ <;> simp [v1, v2] <;> omega) ?_
      refine dwp_skip ?_
      refine zaf ?_
      by_cases hx : noAp (z.take 6000) a b (xa.take 17)
      · refine zad ?_
        refine zab rfl rfl rfl (op_ldmw rfl tb41 (ev1 rfl) rfl rfl) ?_
        refine zab rfl rfl rfl (zac (.inl rfl) (ev1 rfl)) ?_
        refine zab rfl rfl rfl (zaj [] [] [] rfl (ev1 rfl) (ec (ev1 rfl) (ec (ev1 rfl) en)) rfl rfl ((apl_no (z.take 6000) (by omega) hzb a b (xa.take 17) hr hx).wk (wk_ze 200)) rfl rfl rfl rfl rfl rfl) ?_
        refine zab rfl rfl rfl (zac (.inl rfl) (ev1 rfl)) ?_
        refine zab rfl rfl rfl (op_ext rfl (ev1 rfl) rfl) ?_
        refine zab rfl rfl rfl (op_ext rfl (ev1 rfl) rfl) ?_
        refine zab rfl rfl rfl (op_ext rfl (ev1 rfl) rfl) ?_
        refine walk_s rfl rfl (op_stmw rfl tb41 (ev1 rfl) (ev1 rfl) rfl rfl rfl rfl) (by simp only [upd, za, zaa]; exact rfl) ?_
        refine zab rfl rfl rfl (zac (.inr rfl) (ev1 rfl)) ?_
        refine zab rfl rfl rfl (zac (.inr rfl) (ev1 rfl)) ?_
        refine zae ?_
        refine zaf ?_
        refine zad ?_
        refine zab rfl rfl rfl (op_build0 rfl fl41 zr41) ?_
        refine walk_s rfl rfl (op_stmp rfl tb41 (ev1 rfl) (evwk (ev1 rfl) (Wk.vagg _)) rfl rfl rfl rfl rfl) (by simp only [upd, za, zaa]; exact rfl) ?_
        refine zab rfl rfl rfl (zac (.inr rfl) (ev1 rfl)) ?_
        refine zae ?_
        refine zaf ?_
        refine zad ?_
        refine zab rfl rfl rfl (zac (.inr rfl) (ev1 rfl)) ?_
        refine zae ?_
        refine zaf ?_
        refine zaf ?_
        refine zad ?_
        refine zab rfl rfl rfl (zac (.inl rfl) (ev1 rfl)) ?_
        refine zae ?_
        refine dwp_if_t rfl (hr) ?_
        refine zaf ?_
        refine zad ?_
        refine zab rfl rfl rfl (zac (.inr rfl) (ev1 rfl)) ?_
        refine zae ?_
        refine zaf ?_
        refine zad ?_
        refine zab rfl rfl rfl (op_ldmw rfl tb41 (ev1 rfl) rfl rfl) ?_
        refine zab rfl rfl rfl (zac (.inl rfl) (ev1 rfl)) ?_
        refine zab rfl rfl rfl (zaj [] [] [] rfl (ev1 rfl) (ec (ev1 rfl) (ec (ev1 rfl) en)) rfl rfl ((rap_no (z.take 6000) (by omega) hzb a b (xa.take 17) hr hx).wk wk_zd) rfl rfl rfl rfl rfl rfl) ?_
        refine zab rfl rfl rfl (zac (.inl rfl) (ev1 rfl)) ?_
        refine zab rfl rfl rfl (op_ext rfl (ev1 rfl) rfl) ?_
        refine zab rfl rfl rfl (op_ext rfl (ev1 rfl) rfl) ?_
        refine walk_s rfl rfl (op_stmw rfl tb41 (ev1 rfl) (ev1 rfl) rfl rfl rfl rfl) (by simp only [upd, za, zaa]; exact rfl) ?_
        refine zab rfl rfl rfl (zac (.inr rfl) (ev1 rfl)) ?_
        refine zae ?_
        refine zaf ?_
        refine zad ?_
        refine zab rfl rfl rfl (zac (.inl rfl) (ev1 rfl)) ?_
        refine zab rfl rfl rfl (op_gtr rfl (ev1 rfl) (ev1 rfl)) ?_
        refine zae ?_
        refine dwp_if_f rfl (rfl) ?_
        refine dwp_skip ?_
        refine zaf ?_
        refine zaf ?_
        refine zad ?_
        refine zab rfl rfl rfl (op_ldmw rfl tb41 (ev1 rfl) rfl rfl) ?_
        refine zab rfl rfl rfl (op_ldmw rfl tb41 (ev1 rfl) rfl rfl) ?_
        refine zab rfl rfl rfl (zaj [] [] [] rfl (ev1 rfl) (ec (ev1 rfl) (ec (ev1 rfl) en)) rfl rfl (same_d 0 0 0 0 [] [] (by decide)) rfl rfl rfl rfl rfl rfl) ?_
        refine zab rfl rfl rfl (op_not rfl (ev1 rfl)) ?_
        refine zab rfl rfl rfl (zac (.inl rfl) (ev1 rfl)) ?_
        refine zai (gd_f rfl rfl rfl) rfl rfl rfl (zac (.inl rfl) (ev1 rfl)) ?_
        refine zai (gd_f rfl rfl rfl) rfl rfl rfl (zac (.inl rfl) (ev1 rfl)) ?_
        refine zai (gd_f rfl rfl rfl) rfl rfl rfl (op_neq rfl (ev2 rfl) (ev2 rfl)) ?_
        refine zab rfl rfl rfl (op_or rfl (ev1 rfl) (ev3 rfl id)) ?_
        refine zab rfl rfl rfl (zac (.inl rfl) (ev1 rfl)) ?_
        refine zai (gd_f rfl rfl rfl) rfl rfl rfl (zac (.inl rfl) (ev1 rfl)) ?_
        refine zai (gd_f rfl rfl rfl) rfl rfl rfl (zac (.inl rfl) (ev1 rfl)) ?_
        refine zai (gd_f rfl rfl rfl) rfl rfl rfl (op_neq rfl (ev2 rfl) (ev2 rfl)) ?_
        refine zab rfl rfl rfl (op_or rfl (ev1 rfl) (ev3 rfl id)) ?_
        refine zae ?_
        refine dwp_if_f rfl (rfl) ?_
        refine dwp_skip ?_
        refine zaf ?_
        refine zad ?_
        refine zab rfl rfl rfl (op_ldmw rfl tb41 (ev1 rfl) rfl rfl) ?_
        refine zab rfl rfl rfl (zaj [] [] [] rfl (ev1 rfl) (ec (ev1 rfl) en) rfl rfl (spoil_z 0 0) rfl rfl rfl rfl rfl rfl) ?_
        refine zae ?_
        refine zaf ?_
        refine dwp_draw [([2], []), ([0], []), ([], []), ([], []), ([], []), ([3], []), ([1], []), ([], []), ([], []), ([], []), ([], []), ([], []), ([], []), ([], []), ([], []), ([], []), ([], []), ([], []), ([], [])] mixed (by kernel_rfl) ?_
        refine zag rfl rfl (op_ldmw rfl tb41 (ev1 rfl) rfl rfl) ?_
        refine zag rfl rfl (op_ldmw rfl tb41 (ev1 rfl) rfl rfl) ?_
        refine zag rfl rfl (zaj [] [] [] rfl (ev1 rfl) (ec (ev1 rfl) en) rfl rfl (lown_d a b xa) rfl rfl rfl rfl rfl rfl) ?_
        refine zag rfl rfl (zaj [] [] [] rfl (ev1 rfl) (ec (ev1 rfl) (ec (ev1 rfl) en)) rfl rfl (same_d _ _ _ _ _ _ (by omega)) rfl rfl rfl rfl rfl rfl) ?_
        refine zag rfl rfl (zac (.inl rfl) (ev1 rfl)) ?_
        refine lex_gr (gd_t rfl rfl rfl) rfl rfl (op_ldmw rfl tb41 (ev1 rfl) rfl rfl) ?_
        refine lex_gr (gd_t rfl rfl rfl) rfl rfl (op_ldmw rfl tb41 (ev1 rfl) rfl rfl) ?_
        refine lex_gr (gd_t rfl rfl rfl) rfl rfl (zaj [] [] [] rfl (ev1 rfl) (ec (ev2 rfl) en) rfl rfl (lown_d c d xb) rfl rfl rfl rfl rfl rfl) ?_
        refine lex_gr (gd_t rfl rfl rfl) rfl rfl (zaj [] [] [] rfl (ev1 rfl) (ec (ev2 rfl) (ec (ev2 rfl) en)) rfl rfl (same_d _ _ _ _ _ _ (by omega)) rfl rfl rfl rfl rfl rfl) ?_
        refine zag rfl rfl (op_and rfl (ev1 rfl) (ev3 rfl id)) ?_
        refine zag rfl rfl (zac (.inl rfl) (ev1 rfl)) ?_
        refine lex_gr (gd_t rfl rfl rfl) rfl rfl (zac (.inl rfl) (ev1 rfl)) ?_
        refine lex_gr (gd_t rfl rfl rfl) rfl rfl (zac (.inl rfl) (ev1 rfl)) ?_
        refine lex_gr (gd_t rfl rfl rfl) rfl rfl (zac (.inl rfl) (ev1 rfl)) ?_
        refine lex_gr (gd_t rfl rfl rfl) rfl rfl (op_len rfl sl23 (ev2 rfl)) ?_
        refine lex_gr (gd_t rfl rfl rfl) rfl rfl (op_sltk (j := (z.take 6000).length) rfl sl23 (ev2 rfl) (bd_some (ev2 rfl)) (fun _ => by omega) (fun _ => by omega) (fun _ => rfl)) ?_
        refine lex_gr (gd_t rfl rfl rfl) rfl rfl (zaj [] [] [] rfl (ev1 rfl) (ec (ev2 rfl) (ec (ev2 rfl) en)) rfl rfl (equalB (z.take 6000) (z.take (z.take 6000).length)) rfl rfl rfl rfl rfl rfl) ?_
        refine zag rfl rfl (op_and rfl (ev1 rfl) (ev3 rfl id)) ?_
        refine zag rfl rfl (zac (.inr rfl) (ev1 rfl)) ?_
        refine lex_nil ?_
        refine dwp_ret ?_
        refine kend0 (rs1 rfl (rv_t rfl)) rfl ?_
        rw [tk_len]
        simp
      · unfold noAp at hx
        obtain ⟨h2, hw, h0⟩ := Classical.not_not.1 hx
        obtain ⟨⟨us, q⟩, h0⟩ := Option.isSome_iff_exists.1 h0
        obtain ⟨j1, j2, j3⟩ := rdNs_len h2 h0
        obtain ⟨y1, y2, y3, _⟩ := right_n hr
        have ybd := mul_in y3
        have hul2 : us.length ≤ 5000 := by rw [j1]; simp; omega
        refine zah 1 (by simp only [holes, List.cons_append, List.nil_append]; exact rfl) ?_
        refine zad ?_
        refine zab rfl rfl rfl (op_ldmw rfl tb41 (ev1 rfl) rfl rfl) ?_
        refine zab rfl rfl rfl (zac (.inl rfl) (ev1 rfl)) ?_
        refine walk_w rfl rfl rfl (zaj [] [] [6] rfl (ev1 rfl) (ec (ev1 rfl) (ec (ev1 rfl) en)) rfl rfl (apl_h (z.take 6000) (by omega) hzb a b (xa.take 17) hr hw h2 us q h0) rfl rfl rfl rfl rfl rfl) (by simp only [upd, za, zaa]; exact rfl) ?_
        refine zab rfl rfl rfl (zac (.inl rfl) (ev1 rfl)) ?_
        refine zab rfl rfl rfl (op_ext rfl (ev1 rfl) rfl) ?_
        refine zab rfl rfl rfl (op_ext rfl (ev1 rfl) rfl) ?_
        refine zab rfl rfl rfl (op_ext rfl (ev1 rfl) rfl) ?_
        refine walk_s rfl rfl (op_stmw rfl tb41 (ev1 rfl) (ev1 rfl) rfl rfl rfl rfl) (by simp only [upd, za, zaa]; exact rfl) ?_
        refine zab rfl rfl rfl (zac (.inr rfl) (ev1 rfl)) ?_
        refine zab rfl rfl rfl (zac (.inr rfl) (ev1 rfl)) ?_
        refine zae ?_
        refine zaf ?_
        refine zad ?_
        refine zab rfl rfl rfl (op_build0 rfl fl41 zr41) ?_
        refine walk_s rfl rfl (op_stmp rfl tb41 (ev1 rfl) (evwk (ev1 rfl) (Wk.vagg _)) rfl rfl rfl rfl rfl) (by simp only [upd, za, zaa]; exact rfl) ?_
        refine zab rfl rfl rfl (zac (.inr rfl) (ev1 rfl)) ?_
        refine zae ?_
        refine zaf ?_
        refine zad ?_
        refine zab rfl rfl rfl (zac (.inr rfl) (ev1 rfl)) ?_
        refine zae ?_
        refine zaf ?_
        refine zaf ?_
        refine zad ?_
        refine zab rfl rfl rfl (zac (.inl rfl) (ev1 rfl)) ?_
        refine zae ?_
        refine dwp_if_t rfl (hr) ?_
        refine zaf ?_
        refine zad ?_
        refine zab rfl rfl rfl (zac (.inr rfl) (ev1 rfl)) ?_
        refine zae ?_
        refine zaf ?_
        refine zad ?_
        refine zab rfl rfl rfl (op_ldmw rfl tb41 (ev1 rfl) rfl rfl) ?_
        refine zab rfl rfl rfl (zac (.inl rfl) (ev1 rfl)) ?_
        refine zab rfl rfl rfl (zaj [] [] [] rfl (ev1 rfl) (ec (ev1 rfl) (ec (ev1 rfl) en)) rfl rfl (rap_y (z.take 6000) (by omega) hzb a b (xa.take 17) (by omega) (by omega) h2 hw us q h0) rfl rfl rfl rfl rfl rfl) ?_
        refine zab rfl rfl rfl (zac (.inl rfl) (ev1 rfl)) ?_
        refine zab rfl rfl rfl (op_ext rfl (ev1 rfl) rfl) ?_
        refine zab rfl rfl rfl (op_ext rfl (ev1 rfl) rfl) ?_
        refine walk_s rfl rfl (op_stmw rfl tb41 (ev1 rfl) (ev1 rfl) rfl rfl rfl rfl) (by simp only [upd, za, zaa]; exact rfl) ?_
        refine zab rfl rfl rfl (zac (.inr rfl) (ev1 rfl)) ?_
        refine zae ?_
        refine zaf ?_
        refine zad ?_
        refine zab rfl rfl rfl (zac (.inl rfl) (ev1 rfl)) ?_
        refine zab rfl rfl rfl (op_gtr rfl (ev1 rfl) (ev1 rfl)) ?_
        refine zae ?_
        refine dwp_if_t rfl (by simp; omega) ?_
        refine zad ?_
        refine zab rfl rfl rfl (zac (.inr rfl) (ev1 rfl)) ?_
        refine zae ?_
        refine zaf ?_
        refine zaf ?_
        refine zad ?_
        refine zab rfl rfl rfl (op_ldmw rfl tb41 (ev1 rfl) rfl rfl) ?_
        refine zab rfl rfl rfl (op_ldmw rfl tb41 (ev1 rfl) rfl rfl) ?_
        refine zab rfl rfl rfl (zaj [] [6] [] rfl (ev1 rfl) (ec (ev1 rfl) (ec (ev1 rfl) en)) rfl rfl (same_d a b a b us us hul2) rfl rfl rfl rfl rfl rfl) ?_
        refine zab rfl rfl rfl (op_not rfl (ev1 rfl)) ?_
        refine zab rfl rfl rfl (zac (.inl rfl) (ev1 rfl)) ?_
        refine zai (gd_f rfl rfl rfl) rfl rfl rfl (zac (.inl rfl) (ev1 rfl)) ?_
        refine zai (gd_f rfl rfl rfl) rfl rfl rfl (zac (.inl rfl) (ev1 rfl)) ?_
        refine zai (gd_f rfl rfl rfl) rfl rfl rfl (op_neq rfl (ev2 rfl) (ev2 rfl)) ?_
        refine zab rfl rfl rfl (op_or rfl (ev1 rfl) (ev3 rfl id)) ?_
        refine zab rfl rfl rfl (zac (.inl rfl) (ev1 rfl)) ?_
        refine zai (gd_f rfl rfl rfl) rfl rfl rfl (zac (.inl rfl) (ev1 rfl)) ?_
        refine zai (gd_f rfl rfl rfl) rfl rfl rfl (zac (.inl rfl) (ev1 rfl)) ?_
        refine zai (gd_f rfl rfl rfl) rfl rfl rfl (op_neq rfl (ev2 rfl) (ev2 rfl)) ?_
        refine zab rfl rfl rfl (op_or rfl (ev1 rfl) (ev3 rfl id)) ?_
        refine zae ?_
        refine dwp_if_f rfl (by simp) ?_
        refine dwp_skip ?_
        refine zaf ?_
        refine zad ?_
        refine zab rfl rfl rfl (op_ldmw rfl tb41 (ev1 rfl) rfl rfl) ?_
        refine walk_w rfl rfl rfl (zaj [6] [] [] rfl (ev1 rfl) (ec (ev1 rfl) en) rfl rfl (spoil_o a b us hul2) rfl rfl rfl rfl rfl rfl) (by simp only [upd, za, zaa]; exact rfl) ?_
        refine zae ?_
        refine zaf ?_
        refine dwp_draw [([2], []), ([0], []), ([], []), ([], []), ([], []), ([3], []), ([1], []), ([], []), ([], []), ([], []), ([], []), ([], []), ([], []), ([], []), ([], []), ([], []), ([], []), ([], []), ([], [])] mixed (by kernel_rfl) ?_
        refine zag rfl rfl (op_ldmw rfl tb41 (ev1 rfl) rfl rfl) ?_
        refine zag rfl rfl (op_ldmw rfl tb41 (ev1 rfl) rfl rfl) ?_
        refine zag rfl rfl (zaj [] [] [] rfl (ev1 rfl) (ec (ev1 rfl) en) rfl rfl (lown_d a b xa) rfl rfl rfl rfl rfl rfl) ?_
        refine zag rfl rfl (zaj [] [] [] rfl (ev1 rfl) (ec (ev1 rfl) (ec (ev1 rfl) en)) rfl rfl (same_d _ _ _ _ _ _ (by omega)) rfl rfl rfl rfl rfl rfl) ?_
        refine zag rfl rfl (zac (.inl rfl) (ev1 rfl)) ?_
        refine lex_gr (gd_t rfl rfl rfl) rfl rfl (op_ldmw rfl tb41 (ev1 rfl) rfl rfl) ?_
        refine lex_gr (gd_t rfl rfl rfl) rfl rfl (op_ldmw rfl tb41 (ev1 rfl) rfl rfl) ?_
        refine lex_gr (gd_t rfl rfl rfl) rfl rfl (zaj [] [] [] rfl (ev1 rfl) (ec (ev2 rfl) en) rfl rfl (lown_d c d xb) rfl rfl rfl rfl rfl rfl) ?_
        refine lex_gr (gd_t rfl rfl rfl) rfl rfl (zaj [] [] [] rfl (ev1 rfl) (ec (ev2 rfl) (ec (ev2 rfl) en)) rfl rfl (same_d _ _ _ _ _ _ (by omega)) rfl rfl rfl rfl rfl rfl) ?_
        refine zag rfl rfl (op_and rfl (ev1 rfl) (ev3 rfl id)) ?_
        refine zag rfl rfl (zac (.inl rfl) (ev1 rfl)) ?_
        refine lex_gr (gd_t rfl rfl rfl) rfl rfl (zac (.inl rfl) (ev1 rfl)) ?_
        refine lex_gr (gd_t rfl rfl rfl) rfl rfl (zac (.inl rfl) (ev1 rfl)) ?_
        refine lex_gr (gd_t rfl rfl rfl) rfl rfl (zac (.inl rfl) (ev1 rfl)) ?_
        refine lex_gr (gd_t rfl rfl rfl) rfl rfl (op_len rfl sl23 (ev2 rfl)) ?_
        refine lex_gr (gd_t rfl rfl rfl) rfl rfl (op_sltk (j := (z.take 6000).length) rfl sl23 (ev2 rfl) (bd_some (ev2 rfl)) (fun _ => by omega) (fun _ => by omega) (fun _ => rfl)) ?_
        refine lex_gr (gd_t rfl rfl rfl) rfl rfl (zaj [] [] [] rfl (ev1 rfl) (ec (ev2 rfl) (ec (ev2 rfl) en)) rfl rfl (equalB (z.take 6000) (z.take (z.take 6000).length)) rfl rfl rfl rfl rfl rfl) ?_
        refine zag rfl rfl (op_and rfl (ev1 rfl) (ev3 rfl id)) ?_
        refine zag rfl rfl (zac (.inr rfl) (ev1 rfl)) ?_
        refine lex_nil ?_
        refine dwp_ret ?_
        refine kend0 (rs1 rfl (rv_t rfl)) rfl ?_
        rw [tk_len]
        simp
  · have hr0 : rightB a b (xa.take 17) = false := by simpa using hr
    obtain ⟨rfl, rfl⟩ := k2 hr0
    obtain ⟨rfl, rfl⟩ := m1 (by rw [hr0]; rfl)
    refine zad ?_
    refine zab rfl rfl rfl (zac (.inl rfl) (ev1 rfl)) ?_
    refine zae ?_
    refine dwp_if_f rfl (hr0) ?_
    refine dwp_skip ?_
    refine zaf ?_
    refine zaf ?_
    refine zad ?_
    refine zab rfl rfl rfl (zac (.inl rfl) (ev1 rfl)) ?_
    refine zae ?_
    refine dwp_if_f rfl (by rw [hr0]; rfl) ?_
    refine dwp_skip ?_
    refine zaf ?_
    refine zaf ?_
    refine zad ?_
    refine zab rfl rfl rfl (zac (.inl rfl) (ev1 rfl)) ?_
    refine zab rfl rfl rfl (zac (.inl rfl) (ev1 rfl)) ?_
    refine zab rfl rfl rfl (op_neq rfl (ev1 rfl) (ev1 rfl)) ?_
    refine zab rfl rfl rfl (zac (.inl rfl) (ev1 rfl)) ?_
    refine zai (gd_f rfl rfl rfl) rfl rfl rfl (zac (.inl rfl) (ev1 rfl)) ?_
    refine zai (gd_f rfl rfl rfl) rfl rfl rfl (zac (.inl rfl) (ev1 rfl)) ?_
    refine zai (gd_f rfl rfl rfl) rfl rfl rfl (op_neq rfl (ev2 rfl) (ev2 rfl)) ?_
    refine zab rfl rfl rfl (op_or rfl (ev1 rfl) (ev3 rfl id)) ?_
    refine zab rfl rfl rfl (zac (.inl rfl) (ev1 rfl)) ?_
    refine zai (gd_f rfl rfl rfl) rfl rfl rfl (zac (.inl rfl) (ev1 rfl)) ?_
    refine zai (gd_f rfl rfl rfl) rfl rfl rfl (zac (.inl rfl) (ev1 rfl)) ?_
    refine zai (gd_f rfl rfl rfl) rfl rfl rfl (zaj [] [] [] rfl (ev1 rfl) (ec (ev2 rfl) (ec (evnil 1 (ev2 rfl)) en)) rfl rfl (equalB [] []) rfl rfl rfl rfl rfl rfl) ?_
    refine zai (gd_f rfl rfl rfl) rfl rfl rfl (op_not rfl (ev2 rfl)) ?_
    refine zab rfl rfl rfl (op_or rfl (ev1 rfl) (ev3 rfl id)) ?_
    refine zab rfl rfl rfl (zac (.inl rfl) (ev1 rfl)) ?_
    refine zai (gd_f rfl rfl rfl) rfl rfl rfl (zac (.inl rfl) (ev1 rfl)) ?_
    refine zai (gd_f rfl rfl rfl) rfl rfl rfl (zac (.inl rfl) (ev1 rfl)) ?_
    refine zai (gd_f rfl rfl rfl) rfl rfl rfl (zaj [] [] [] rfl (ev1 rfl) (ec (ev2 rfl) (ec (evnil 1 (ev2 rfl)) en)) rfl rfl (equalB [] []) rfl rfl rfl rfl rfl rfl) ?_
    refine zai (gd_f rfl rfl rfl) rfl rfl rfl (op_not rfl (ev2 rfl)) ?_
    refine zab rfl rfl rfl (op_or rfl (ev1 rfl) (ev3 rfl id)) ?_
    refine zae ?_
    refine dwp_if_f rfl (rfl) ?_
    refine dwp_skip ?_
    refine zaf ?_
    refine zad ?_
    refine zab rfl rfl rfl (zac (.inl rfl) (ev1 rfl)) ?_
    refine zab rfl rfl rfl (zac (.inl rfl) (ev1 rfl)) ?_
    refine zab rfl rfl rfl (op_len rfl sl23 (ev1 rfl)) ?_
    refine zab rfl rfl rfl (op_min rfl (ev1 rfl) (ev1 rfl)) ?_
    refine zab rfl rfl rfl ((op_sltk (j := min z.length 6000) rfl sl23 (ev1 rfl) (bd_some (ev1 rfl)) (fun _ => by omega) (fun _ => by omega) (fun _ => rfl)).cast (d' := .slf 1 ((z.take 6000)).length (((z.take 6000)).flatMap u8V)) (by rw [tk_min])) ?_
    refine zab rfl rfl rfl (zaj [] [] [] rfl (ev1 rfl) (ec (ev1 rfl) en) rfl rfl (cloneB_f (z.take 6000) (by omega)) rfl rfl rfl rfl rfl rfl) ?_
    refine zab rfl rfl rfl (zac (.inr rfl) (ev1 rfl)) ?_
    refine zae ?_
    refine zaf ?_
    obtain ⟨w1, g1, u1, q1, e3, f3, f4, hor, hul⟩ := rd_cases (z.take 6000) (by omega) hzb
    refine zah 1 (by simp only [holes, List.cons_append, List.nil_append]; exact rfl) ?_
    refine zad ?_
    refine zab rfl rfl rfl (zac (.inl rfl) (ev1 rfl)) ?_
    refine zab rfl rfl rfl (zaj [] [] [] rfl (ev1 rfl) (ec (ev1 rfl) en) rfl rfl (f3) rfl rfl rfl rfl rfl rfl) ?_
    refine zab rfl rfl rfl (zac (.inl rfl) (ev1 rfl)) ?_
    refine zab rfl rfl rfl (op_ext rfl (ev1 rfl) rfl) ?_
    refine zab rfl rfl rfl (op_ext rfl (ev1 rfl) rfl) ?_
    refine zab rfl rfl rfl (op_ext rfl (ev1 rfl) rfl) ?_
    refine walk_w rfl rfl rfl (op_alloc 4 rfl zr41 rfl) (by simp only [upd, za, zaa]; exact rfl) ?_
    refine walk_s rfl rfl (op_stam rfl tb41 (ev1 rfl) (ev1 rfl) rfl rfl rfl rfl) (by simp only [upd, za, zaa]; exact rfl) ?_
    refine zab rfl rfl rfl (zac (.inr rfl) (ev1 rfl)) ?_
    refine zab rfl rfl rfl (zac (.inr rfl) (ev1 rfl)) ?_
    refine zae ?_
    refine zaf ?_
    refine zah 1 (by simp only [holes, List.cons_append, List.nil_append]; exact rfl) ?_
    refine zad ?_
    refine zab rfl rfl rfl (zac (.inl rfl) (ev1 rfl)) ?_
    refine zab rfl rfl rfl (zaj [] [] [] rfl (ev1 rfl) (ec (ev1 rfl) en) rfl rfl (f4) rfl rfl rfl rfl rfl rfl) ?_
    refine zab rfl rfl rfl (zac (.inl rfl) (ev1 rfl)) ?_
    refine zab rfl rfl rfl (op_ext rfl (ev1 rfl) rfl) ?_
    refine zab rfl rfl rfl (op_ext rfl (ev1 rfl) rfl) ?_
    refine walk_w rfl rfl rfl (op_alloc 5 rfl zr41 rfl) (by simp only [upd, za, zaa]; exact rfl) ?_
    refine walk_s rfl rfl (op_stam rfl tb41 (ev1 rfl) (ev1 rfl) rfl rfl rfl rfl) (by simp only [upd, za, zaa]; exact rfl) ?_
    refine zab rfl rfl rfl (zac (.inr rfl) (ev1 rfl)) ?_
    refine zae ?_
    refine zaf ?_
    refine zaf ?_
    refine zad ?_
    refine zab rfl rfl rfl (op_ldmw rfl tb41 (ev1 rfl) rfl rfl) ?_
    refine zab rfl rfl rfl (op_ldmw rfl tb41 (ev1 rfl) rfl rfl) ?_
    refine zab rfl rfl rfl (zaj [] [] [] rfl (ev1 rfl) (ec (ev1 rfl) (ec (ev1 rfl) en)) rfl rfl (same_d w1 g1 w1 g1 u1 u1 hul) rfl rfl rfl rfl rfl rfl) ?_
    refine zab rfl rfl rfl (op_not rfl (ev1 rfl)) ?_
    refine zab rfl rfl rfl (zac (.inl rfl) (ev1 rfl)) ?_
    refine zai (gd_f rfl rfl rfl) rfl rfl rfl (zac (.inl rfl) (ev1 rfl)) ?_
    refine zai (gd_f rfl rfl rfl) rfl rfl rfl (zac (.inl rfl) (ev1 rfl)) ?_
    refine zai (gd_f rfl rfl rfl) rfl rfl rfl (op_neq rfl (ev2 rfl) (ev2 rfl)) ?_
    refine zab rfl rfl rfl (op_or rfl (ev1 rfl) (ev3 rfl id)) ?_
    refine zab rfl rfl rfl (zac (.inl rfl) (ev1 rfl)) ?_
    refine zai (gd_f rfl rfl rfl) rfl rfl rfl (zac (.inl rfl) (ev1 rfl)) ?_
    refine zai (gd_f rfl rfl rfl) rfl rfl rfl (op_eql rfl (ev2 rfl) (ev1 rfl)) ?_
    refine zai (gd_f rfl rfl rfl) rfl rfl rfl (zac (.inl rfl) (ev1 rfl)) ?_
    refine zai (gd_f rfl rfl rfl) rfl rfl rfl (op_gtr rfl (ev2 rfl) (ev1 rfl)) ?_
    refine zai (gd_f rfl rfl rfl) rfl rfl rfl (op_neb rfl un4 (ev2 rfl) (ev2 rfl)) ?_
    refine zab rfl rfl rfl (op_or rfl (ev1 rfl) (ev3 rfl id)) ?_
    refine zab rfl rfl rfl (zac (.inl rfl) (ev1 rfl)) ?_
    refine zai (gd_f rfl rfl rfl) rfl rfl rfl (zac (.inl rfl) (ev1 rfl)) ?_
    refine zai (gd_f rfl rfl rfl) rfl rfl rfl (op_eql rfl (ev2 rfl) (ev1 rfl)) ?_
    refine zai (gd_f rfl rfl rfl) rfl rfl rfl (zac (.inl rfl) (ev2 rfl)) ?_
    refine zai (gd_tt rfl rfl rfl) rfl rfl rfl (zac (.inl rfl) (ev1 rfl)) ?_
    refine zai (gd_tt rfl rfl rfl) rfl rfl rfl (op_neq rfl (ev2 rfl) (ev1 rfl)) ?_
    refine zai (gd_f rfl rfl rfl) rfl rfl rfl (op_and rfl (ev2 rfl) (ev2 rfl)) ?_
    refine zab rfl rfl rfl (op_or rfl (ev1 rfl) (ev3 rfl id)) ?_
    refine zae ?_
    refine dwp_if_f rfl (by rcases hor with ⟨v1, v2⟩ | ⟨v1, v2⟩ <;> simp [v1, v2] <;> omega) ?_
    refine dwp_skip ?_
    refine zaf ?_
    refine zad ?_
    refine zab rfl rfl rfl (op_ldmw rfl tb41 (ev1 rfl) rfl rfl) ?_
    refine zab rfl rfl rfl (zac (.inl rfl) (ev1 rfl)) ?_
    refine zab rfl rfl rfl (zaj [] [] [] rfl (ev1 rfl) (ec (ev1 rfl) (ec (ev1 rfl) en)) rfl rfl ((apl_bad (z.take 6000) (by omega) hzb a b (xa.take 17) hr0).wk (wk_ze 150)) rfl rfl rfl rfl rfl rfl) ?_
    refine zab rfl rfl rfl (zac (.inl rfl) (ev1 rfl)) ?_
    refine zab rfl rfl rfl (op_ext rfl (ev1 rfl) rfl) ?_
    refine zab rfl rfl rfl (op_ext rfl (ev1 rfl) rfl) ?_
    refine zab rfl rfl rfl (op_ext rfl (ev1 rfl) rfl) ?_
    refine walk_s rfl rfl (op_stmw rfl tb41 (ev1 rfl) (ev1 rfl) rfl rfl rfl rfl) (by simp only [upd, za, zaa]; exact rfl) ?_
    refine zab rfl rfl rfl (zac (.inr rfl) (ev1 rfl)) ?_
    refine zab rfl rfl rfl (zac (.inr rfl) (ev1 rfl)) ?_
    refine zae ?_
    refine zaf ?_
    refine zad ?_
    refine zab rfl rfl rfl (op_build0 rfl fl41 zr41) ?_
    refine walk_s rfl rfl (op_stmp rfl tb41 (ev1 rfl) (evwk (ev1 rfl) (Wk.vagg _)) rfl rfl rfl rfl rfl) (by simp only [upd, za, zaa]; exact rfl) ?_
    refine zab rfl rfl rfl (zac (.inr rfl) (ev1 rfl)) ?_
    refine zae ?_
    refine zaf ?_
    refine zad ?_
    refine zab rfl rfl rfl (zac (.inr rfl) (ev1 rfl)) ?_
    refine zae ?_
    refine zaf ?_
    refine zaf ?_
    refine zad ?_
    refine zab rfl rfl rfl (zac (.inl rfl) (ev1 rfl)) ?_
    refine zae ?_
    refine dwp_if_f rfl (hr0) ?_
    refine dwp_skip ?_
    refine zaf ?_
    refine zaf ?_
    refine zad ?_
    refine zab rfl rfl rfl (op_ldmw rfl tb41 (ev1 rfl) rfl rfl) ?_
    refine zab rfl rfl rfl (op_ldmw rfl tb41 (ev1 rfl) rfl rfl) ?_
    refine zab rfl rfl rfl (zaj [] [] [] rfl (ev1 rfl) (ec (ev1 rfl) (ec (evwk (ev1 rfl) (Wk.agg (.cons (.refl _) (.cons (.refl _) (.cons (Wk.slf0 256) .nil))))) en)) rfl rfl (same_d 0 0 0 0 [] [] (by decide)) rfl rfl rfl rfl rfl rfl) ?_
    refine zab rfl rfl rfl (op_not rfl (ev1 rfl)) ?_
    refine zab rfl rfl rfl (zac (.inl rfl) (ev1 rfl)) ?_
    refine zai (gd_f rfl rfl rfl) rfl rfl rfl (zac (.inl rfl) (ev1 rfl)) ?_
    refine zai (gd_f rfl rfl rfl) rfl rfl rfl (zac (.inl rfl) (ev1 rfl)) ?_
    refine zai (gd_f rfl rfl rfl) rfl rfl rfl (op_neq rfl (ev2 rfl) (ev2 rfl)) ?_
    refine zab rfl rfl rfl (op_or rfl (ev1 rfl) (ev3 rfl id)) ?_
    refine zab rfl rfl rfl (zac (.inl rfl) (ev1 rfl)) ?_
    refine zai (gd_f rfl rfl rfl) rfl rfl rfl (zac (.inl rfl) (ev1 rfl)) ?_
    refine zai (gd_f rfl rfl rfl) rfl rfl rfl (zac (.inl rfl) (ev1 rfl)) ?_
    refine zai (gd_f rfl rfl rfl) rfl rfl rfl (op_neq rfl (ev2 rfl) (ev2 rfl)) ?_
    refine zab rfl rfl rfl (op_or rfl (ev1 rfl) (ev3 rfl id)) ?_
    refine zae ?_
    refine dwp_if_f rfl (rfl) ?_
    refine dwp_skip ?_
    refine zaf ?_
    refine zad ?_
    refine zab rfl rfl rfl (op_ldmw rfl tb41 (ev1 rfl) rfl rfl) ?_
    refine zab rfl rfl rfl (zaj [] [] [] rfl (ev1 rfl) (ec (ev1 rfl) en) rfl rfl (spoil_z 0 0) rfl rfl rfl rfl rfl rfl) ?_
    refine zae ?_
    refine zaf ?_
    refine dwp_draw [([2], []), ([0], []), ([], []), ([], []), ([], []), ([3], []), ([1], []), ([], []), ([], []), ([], []), ([], []), ([], []), ([], []), ([], []), ([], []), ([], []), ([], []), ([], []), ([], [])] mixed (by kernel_rfl) ?_
    refine zag rfl rfl (op_ldmw rfl tb41 (ev1 rfl) rfl rfl) ?_
    refine zag rfl rfl (op_ldmw rfl tb41 (ev1 rfl) rfl rfl) ?_
    refine zag rfl rfl (zaj [] [] [] rfl (ev1 rfl) (ec (ev1 rfl) en) rfl rfl (lown_d a b xa) rfl rfl rfl rfl rfl rfl) ?_
    refine zag rfl rfl (zaj [] [] [] rfl (ev1 rfl) (ec (ev1 rfl) (ec (ev1 rfl) en)) rfl rfl (same_d _ _ _ _ _ _ (by omega)) rfl rfl rfl rfl rfl rfl) ?_
    refine zag rfl rfl (zac (.inl rfl) (ev1 rfl)) ?_
    refine lex_gr (gd_t rfl rfl rfl) rfl rfl (op_ldmw rfl tb41 (ev1 rfl) rfl rfl) ?_
    refine lex_gr (gd_t rfl rfl rfl) rfl rfl (op_ldmw rfl tb41 (ev1 rfl) rfl rfl) ?_
    refine lex_gr (gd_t rfl rfl rfl) rfl rfl (zaj [] [] [] rfl (ev1 rfl) (ec (ev2 rfl) en) rfl rfl (lown_d c d xb) rfl rfl rfl rfl rfl rfl) ?_
    refine lex_gr (gd_t rfl rfl rfl) rfl rfl (zaj [] [] [] rfl (ev1 rfl) (ec (ev2 rfl) (ec (ev2 rfl) en)) rfl rfl (same_d _ _ _ _ _ _ (by omega)) rfl rfl rfl rfl rfl rfl) ?_
    refine zag rfl rfl (op_and rfl (ev1 rfl) (ev3 rfl id)) ?_
    refine zag rfl rfl (zac (.inl rfl) (ev1 rfl)) ?_
    refine lex_gr (gd_t rfl rfl rfl) rfl rfl (zac (.inl rfl) (ev1 rfl)) ?_
    refine lex_gr (gd_t rfl rfl rfl) rfl rfl (zac (.inl rfl) (ev1 rfl)) ?_
    refine lex_gr (gd_t rfl rfl rfl) rfl rfl (zac (.inl rfl) (ev1 rfl)) ?_
    refine lex_gr (gd_t rfl rfl rfl) rfl rfl (op_len rfl sl23 (ev2 rfl)) ?_
    refine lex_gr (gd_t rfl rfl rfl) rfl rfl (op_sltk (j := (z.take 6000).length) rfl sl23 (ev2 rfl) (bd_some (ev2 rfl)) (fun _ => by omega) (fun _ => by omega) (fun _ => rfl)) ?_
    refine lex_gr (gd_t rfl rfl rfl) rfl rfl (zaj [] [] [] rfl (ev1 rfl) (ec (ev2 rfl) (ec (ev2 rfl) en)) rfl rfl (equalB (z.take 6000) (z.take (z.take 6000).length)) rfl rfl rfl rfl rfl rfl) ?_
    refine zag rfl rfl (op_and rfl (ev1 rfl) (ev3 rfl id)) ?_
    refine zag rfl rfl (zac (.inr rfl) (ev1 rfl)) ?_
    refine lex_nil ?_
    refine dwp_ret ?_
    refine kend0 (rs1 rfl (rv_t rfl)) rfl ?_
    rw [tk_len]
    simp
end Go.Proofs.Ytcbfnbfhlofkiaa
