/- the law of records that hold, walked -/
import Derived.Test.YtfdmfklofgmpfaaJl
namespace Go.Proofs.Ytfdmfklofgmpfaa
set_option linter.unusedVariables false
set_option linter.unusedSimpArgs false
open Go.RowKit

/-- the first thirty bytes of a row -/
def hdJ (r : List Nat) : List Nat := r.take (min r.length 30)
def fsH (R : List (List Nat)) (k : Nat) : List (List Nat) := ((fewJ R).take k).map hdJ
def hdsJ (R : List (List Nat)) : List (List Nat) := (fewJ R).map hdJ
theorem fsH_succ {R : List (List Nat)} {k : Nat} (h : k < (fewJ R).length) : fsH R (k + 1) = fsH R k ++ [hdJ (fewJ R)[k]] := by
  unfold fsH
  rw [List.take_succ_eq_append_getElem h, List.map_append]
  rfl
theorem fsH_len {R : List (List Nat)} {k : Nat} (h : k ≤ (fewJ R).length) : (fsH R k).length = k := by
  unfold fsH; rw [List.length_map, List.length_take]; omega
theorem fsH_all (R : List (List Nat)) : fsH R (fewJ R).length = hdsJ R := by unfold fsH hdsJ; rw [List.take_length]
theorem hds_len (R : List (List Nat)) : (hdsJ R).length = (fewJ R).length := List.length_map ..
theorem hds_n {R : List (List Nat)} (h : ∀ r ∈ R, isN r) : ∀ r ∈ hdsJ R, isN r := fun r hr x hx => by
  obtain ⟨q, hq, rfl⟩ := List.mem_map.1 hr
  exact fewJ_n h q hq x (List.mem_of_mem_take hx)
theorem hds_le (R : List (List Nat)) : ∀ r ∈ hdsJ R, r.length ≤ 65536 := fun r hr => by
  obtain ⟨q, hq, rfl⟩ := List.mem_map.1 hr
  unfold hdJ; rw [List.length_take]; omega
theorem cut_join {H : List (List Nat)} (hr : ∀ r ∈ H, isN r) (hl : ∀ r ∈ H, r.length ≤ 65536) (hn : H.length ≤ 6) : DFun Try.prog 14 [rN (joinJ H)] [] (rN (joinJ H)) [] := by
  have h1 := join_len hl
  have h := freeze (cut_o (joinJ H) (joinJ_n hr) (by omega)) rfl
  rw [recs_join hl, ← joinJ_len, List.take_length] at h
  exact h
/-- where the records of rows begin -/
def plH (H : List (List Nat)) : List Nat := (List.range H.length).map fun i => offJ (H.take i)
theorem plH_len (H : List (List Nat)) : (plH H).length = H.length := by simp [plH]
theorem plH_at {H : List (List Nat)} {k : Nat} (h : k < (plH H).length) : (plH H)[k] = offJ (H.take k) := by simp [plH]
theorem places_join {H : List (List Nat)} (hr : ∀ r ∈ H, isN r) (hl : ∀ r ∈ H, r.length ≤ 65536) (hn : H.length ≤ 6) : DFun Try.prog 12 [rN (joinJ H)] [] (.slf 1 (plH H).length ((plH H).flatMap inN)) [] := by
  have h1 := join_len hl
  have h := places_f (joinJ H) (joinJ_n hr) (by omega)
  have e : plJ (joinJ H) (recs (joinJ H)).length = plH H := by unfold plJ plH; rw [recs_join hl]
  rw [e] at h
  exact h
theorem join_take (H : List (List Nat)) (k : Nat) : (joinJ H).take (offJ (H.take k)) = joinJ (H.take k) := by
  have e : joinJ H = joinJ (H.take k) ++ joinJ (H.drop k) := by rw [← joinJ_app, List.take_append_drop]
  rw [e, ← joinJ_len, List.take_left]
theorem off_take_le (H : List (List Nat)) (k : Nat) : offJ (H.take k) ≤ (joinJ H).length := by
  have e := offJ_app (H.take k) (H.drop k)
  rw [List.take_append_drop] at e
  rw [joinJ_len]; omega
theorem off_next_le {H : List (List Nat)} {k : Nat} (h : k < H.length) : offJ (H.take k) + (recJ H[k]).length ≤ (joinJ H).length := by
  have := off_take_le H (k + 1)
  rw [off_succ h] at this
  rw [recJ_len]; omega
/-- the rows' records, one of them spoilt -/
def badJ (H : List (List Nat)) (k : Nat) (s : List Nat) (n : Nat) : List Nat := [(joinJ H).take (offJ (H.take k)), s, (joinJ H).drop (offJ (H.take k) + n)].flatten
theorem bad_eq (H : List (List Nat)) (k : Nat) (s : List Nat) (n : Nat) : badJ H k s n = joinJ (H.take k) ++ (s ++ (joinJ H).drop (offJ (H.take k) + n)) := by
  unfold badJ; rw [join_take]; simp
theorem bad_recs {H : List (List Nat)} {k mask bit n : Nat} (hr : ∀ r ∈ H, isN r) (hl : ∀ r ∈ H, r.length ≤ 65536) (hk : k < H.length) (hb : bit < 8 * (recJ H[k]).length) (hm : mask < 2 ^ 32) (h0 : ¬ ∀ j, j < (recJ H[k]).length → ((mask <<< bit) >>> (8 * j)) % 256 = 0) (h4 : (spl (mask <<< bit) (recJ H[k])).take 4 = (recJ H[k]).take 4) :
    recs (badJ H k (spl (mask <<< bit) (recJ H[k])) n) = H.take k := by
  rw [bad_eq, recs_app _ (fun r h => hl r (List.mem_of_mem_take h)), recs_nil (spoilt_err (hr _ (List.getElem_mem hk)) (hl _ (List.getElem_mem hk)) hb hm h0 h4), List.append_nil]
theorem scan_bad {H : List (List Nat)} {k mask bit : Nat} (hr : ∀ r ∈ H, isN r) (hl : ∀ r ∈ H, r.length ≤ 65536) (hn : H.length ≤ 6) (hk : k < H.length) (hb : bit < 8 * (recJ H[k]).length) (hm : mask < 2 ^ 32) (h0 : ¬ ∀ j, j < (recJ H[k]).length → ((mask <<< bit) >>> (8 * j)) % 256 = 0) (h4 : (spl (mask <<< bit) (recJ H[k])).take 4 = (recJ H[k]).take 4) :
    DFun Try.prog 8 [rN (badJ H k (spl (mask <<< bit) (recJ H[k])) (recJ H[k]).length)] [] (.tup [.slm 1 (H.take k).length ((H.take k).flatMap fun p => [rN p]), .val (.int .i64 (offJ (H.take k) : Nat))]) [] := by
  have h1 := join_len hl
  have hs := spl_len (mask <<< bit) (recJ H[k])
  have h2 := off_next_le hk
  have hlen : (badJ H k (spl (mask <<< bit) (recJ H[k])) (recJ H[k]).length).length = (joinJ H).length := by
    rw [bad_eq, List.length_append, List.length_append, hs, List.length_drop, joinJ_len]; rw [joinJ_len] at h2; rw [joinJ_len]; omega
  have hN : isN (badJ H k (spl (mask <<< bit) (recJ H[k])) (recJ H[k]).length) := by
    rw [bad_eq]
    intro x hx
    rcases List.mem_append.1 hx with hx | hx
    · exact joinJ_n (fun r h => hr r (List.mem_of_mem_take h)) x hx
    · rcases List.mem_append.1 hx with hx | hx
      · exact spl_lt (recJ_n (hr _ (List.getElem_mem hk))) x hx
      · exact joinJ_n hr x (List.mem_of_mem_drop hx)
  have h := scan_f _ hN (by rw [hlen]; omega)
  rw [bad_recs hr hl hk hb hm h0 h4] at h
  exact h
theorem holds_fin {a b : List Nat} (h : ¬ (!decide (a = b)) = true) : a = b := by simpa using h

set_option maxRecDepth 4000 in
set_option maxHeartbeats 1000000 in
theorem holds_d (R : List (List Nat)) (p : Int) (mask : Nat) (hR : ∀ r ∈ R, isN r) (hp : p ≤ 9223372036854775807) (hm : mask < 2 ^ 32) : DFun Try.prog 5 [.slm 1 (R).length ((R).flatMap fun p => [rN p]), .val (.int .i64 p), .val (.int .u32 (mask : Int))] [] (.val (.bool true)) [] := by
  refine dcalls_go (N := 147) 0 (by kernel_rfl) Try.func5 rfl rfl rfl (by simp only [fr0, Nat.zero_add, Nat.reduceAdd]; exact rfl) rfl fun s0 hs0 => ?_
  refine dwp_lenm (t := 0) rfl fun hl0 hL0 => ?_
  refine dwp_seq ?_
  have hfl := fewJ_len R
  have hHn := hds_n hR
  have hHl := hds_le R
  have hHe := hds_len R
  have hwr := wrap_nn p
  have hjl := join_len hHl
  refine dwp_region ?_
  refine walk_r rfl rfl rfl (op_move (.inr rfl) (ev1 rfl)) ?_
  refine walk_nil ?_
  refine dwp_seq ?_
  refine dwp_seq ?_
  refine dwp_region ?_
  refine walk_r rfl rfl rfl (dop_call [] [] [] rfl (ev1 rfl) en rfl rfl (wakes_d) rfl rfl rfl rfl rfl rfl) ?_
  refine walk_r rfl rfl rfl (op_not rfl (ev1 rfl)) ?_
  refine walk_nil ?_
  refine dwp_if_f rfl (rfl) ?_
  refine dwp_skip ?_
  refine dwp_seq ?_
  refine dwp_region ?_
  refine walk_r rfl rfl rfl (op_move (.inr rfl) (ev1 rfl)) ?_
  refine walk_nil ?_
  refine dwp_seq ?_
  refine dwp_seq ?_
  refine dwp_region ?_
  refine walk_r rfl rfl rfl (op_move (.inl rfl) (ev1 rfl)) ?_
  refine walk_r rfl rfl rfl (dop_call [] [] [] rfl (ev1 rfl) (ec (ev1 rfl) en) rfl rfl (few_f R) rfl rfl rfl rfl rfl rfl) ?_
  refine walk_r rfl rfl rfl (op_lenm rfl sl25 (ev1 rfl)) ?_
  refine walk_r rfl rfl rfl (op_move (.inl rfl) (ev1 rfl)) ?_
  refine walk_nil ?_
  refine dwp_block ?_
  refine dwp_adoptx 7 22 1 rfl rfl rfl ?_
  refine dwp_loopS ⟨hs0, rfl⟩ (α := Nat) (fun k => [(25, .val (.int .i64 (k : Int)))]) [(1, _), (2, _), (7, _), (23, _), (24, _)] (fun k => [(0, .arx 22 1 (fsH R k).length ((fsH R k).flatMap fun p => [rN p]))]) [.hole] (fun k => k ≤ (fewJ R).length) (fun k => (fewJ R).length - k) 0 [0] (by simp) rfl ⟨rfl, rfl, rfl, rfl, rfl, trivial⟩ ⟨rfl, trivial⟩ ⟨rfl, trivial⟩ ?_
  intro k hx
  simp only [upd, List.set_cons_zero, List.set_cons_succ, List.cons_append, List.nil_append]
  have hk := hx
  have hfh := fsH_len hk
  refine dwp_seq ?_
  refine dwp_region ?_
  refine walk_r rfl rfl rfl (op_lss rfl (ev1 rfl) (ev1 rfl)) ?_
  refine walk_nil ?_
  refine dwp_seq ?_
  refine dwp_cond rfl (fun c2 => ?_) (fun c2 => ?_)
  · try simp only [decide_eq_true_eq, decide_eq_false_iff_not, beq_iff_eq, bne_iff_ne, beq_eq_false_iff_ne, bne_eq_false_iff_eq, Bool.not_eq_true', Bool.not_eq_false', Bool.and_eq_true, Bool.or_eq_true, Bool.or_eq_false_iff, ne_eq, Decidable.not_not, Int.not_lt, Int.not_le] at c2
    refine dwp_skip ?_
    refine dwp_seq ?_
    refine dwp_block ?_
    refine dwp_seq ?_
    refine dwp_region ?_
    refine walk_r rfl rfl rfl (op_ixm (k) rfl sl25 (ev1 rfl) (ev1 rfl) (fun _ => rfl) (flat1_at (by omega))) ?_
    refine walk_r rfl rfl rfl (op_lddm rfl tb22 (ev1 rfl) rfl) ?_
    refine walk_r rfl rfl rfl (op_move (.inr rfl) (ev1 rfl)) ?_
    refine walk_nil ?_
    have hk6 : k < (fewJ R).length := by omega
    refine dwp_holes 1 (by simp only [holes, List.cons_append, List.nil_append]; exact rfl) ?_
    refine dwp_region ?_
    refine walk_r rfl rfl rfl (op_move (.inl rfl) (ev1 rfl)) ?_
    refine walk_r rfl rfl rfl (op_move (.inl rfl) (ev1 rfl)) ?_
    refine walk_r rfl rfl rfl (op_move (.inl rfl) (ev1 rfl)) ?_
    refine walk_r rfl rfl rfl (op_len rfl sl22 (ev1 rfl)) ?_
    refine walk_r rfl rfl rfl (op_min rfl (ev1 rfl) (ev1 rfl)) ?_
    refine walk_r rfl rfl rfl (op_sltk (j := min ((fewJ R)[k]).length 30) rfl sl22 (ev1 rfl) (bd_some (ev1 rfl)) (fun _ => by omega) (fun _ => by omega) (fun _ => rfl)) ?_
    refine walk_r rfl rfl rfl (op_bsm (ps := [(0, .tmp 34)]) rfl sl25 zr22 rfl (ec (ev1 rfl) en) rfl (by decide)) ?_
    refine walk_w rfl rfl rfl (op_appx (j := 1) rfl sl25 zr22 rfl (ev1 rfl) (ev1 rfl) rfl rfl rfl (fun _ => ⟨by omega, by omega⟩)) (by simp only [upd, List.set_cons_zero, List.set_cons_succ]; exact rfl) ?_
    refine walk_r rfl rfl rfl (op_move (.inr rfl) (ev1 rfl)) ?_
    refine walk_nil ?_
    refine dwp_region ?_
    refine walk_r rfl rfl rfl (op_add' rfl (ev1 rfl) (ev1 rfl) (fun _ => IntWalk.i64_in _ (by omega))) ?_
    refine walk_r rfl rfl rfl (op_move (.inl rfl) (ev1 rfl)) ?_
    refine walk_nil ?_
    refine ⟨k + 1, [1], by omega, by simp only []; omega, rfl, ⟨rfl, rfl, rfl, rfl, rfl, rfl, trivial⟩, ⟨arx_fits (by rw [fsH_succ (by omega), List.length_append]; rfl) (by rw [fsH_succ (by omega), List.flatMap_append]; rfl) (vwL_flat (fun _ => rfl) _), trivial⟩⟩
  · try simp only [decide_eq_true_eq, decide_eq_false_iff_not, beq_iff_eq, bne_iff_ne, beq_eq_false_iff_ne, bne_eq_false_iff_eq, Bool.not_eq_true', Bool.not_eq_false', Bool.and_eq_true, Bool.or_eq_true, Bool.or_eq_false_iff, ne_eq, Decidable.not_not, Int.not_lt, Int.not_le] at c2
    refine dwp_exit ?_
    refine dwp_seq ?_
    refine dwp_give 7 (nlL_flat1 (fun _ => rfl) _) rfl rfl (by simp only [List.set_cons_zero, List.set_cons_succ]; exact rfl) ?_
    obtain rfl : k = (fewJ R).length := by omega
    rw [fsH_all]
    refine dwp_region ?_
    refine walk_r rfl rfl rfl (op_move (.inl rfl) (ev1 rfl)) ?_
    refine walk_r rfl rfl rfl (dop_call [] [] [] rfl (ev1 rfl) (ec (ev1 rfl) en) rfl rfl (freeze (join_o (hdsJ R) hHn (by omega) hHl) rfl) rfl rfl rfl rfl rfl rfl) ?_
    refine walk_r rfl rfl rfl (op_move (.inl rfl) (ev1 rfl)) ?_
    refine walk_r rfl rfl rfl (op_ext rfl (ev1 rfl) rfl) ?_
    refine walk_r rfl rfl rfl (op_ext rfl (ev1 rfl) rfl) ?_
    refine walk_r rfl rfl rfl (op_move (.inr rfl) (ev1 rfl)) ?_
    refine walk_r rfl rfl rfl (op_move (.inr rfl) (ev1 rfl)) ?_
    refine walk_nil ?_
    refine dwp_seq ?_
    refine dwp_seq ?_
    by_cases h0 : (hdsJ R).length = 0
    · refine dwp_region ?_
      refine walk_r rfl rfl rfl (op_move (.inl rfl) (ev1 rfl)) ?_
      refine walk_r rfl rfl rfl (op_neq rfl (ev1 rfl) (ev1 rfl)) ?_
      refine walk_r rfl rfl rfl (op_move (.inl rfl) (ev1 rfl)) ?_
      refine walk_gr (gd_f rfl rfl rfl) rfl rfl rfl (op_move (.inl rfl) (ev1 rfl)) ?_
      refine walk_gr (gd_f rfl rfl rfl) rfl rfl rfl (op_lenm rfl sl25 (ev2 rfl)) ?_
      refine walk_gr (gd_f rfl rfl rfl) rfl rfl rfl (op_eql rfl (ev2 rfl) (ev1 rfl)) ?_
      refine walk_r rfl rfl rfl (op_or rfl (ev1 rfl) (ev3 rfl id)) ?_
      refine walk_nil ?_
      refine dwp_if_t rfl (by rw [h0]; rfl) ?_
      refine dwp_seq ?_
      refine dwp_region ?_
      refine walk_r rfl rfl rfl (op_move (.inl rfl) (ev1 rfl)) ?_
      refine walk_r rfl rfl rfl (op_eql rfl (ev1 rfl) (ev1 rfl)) ?_
      refine walk_r rfl rfl rfl (op_move (.inr rfl) (ev1 rfl)) ?_
      refine walk_nil ?_
      refine dwp_ret ?_
      refine kend0 (rs1 rfl (rv_t rfl)) rfl ?_
      first | rfl | simp [hpk]
    · refine dwp_region ?_
      refine walk_r rfl rfl rfl (op_move (.inl rfl) (ev1 rfl)) ?_
      refine walk_r rfl rfl rfl (op_neq rfl (ev1 rfl) (ev1 rfl)) ?_
      refine walk_r rfl rfl rfl (op_move (.inl rfl) (ev1 rfl)) ?_
      refine walk_gr (gd_f rfl rfl rfl) rfl rfl rfl (op_move (.inl rfl) (ev1 rfl)) ?_
      refine walk_gr (gd_f rfl rfl rfl) rfl rfl rfl (op_lenm rfl sl25 (ev2 rfl)) ?_
      refine walk_gr (gd_f rfl rfl rfl) rfl rfl rfl (op_eql rfl (ev2 rfl) (ev1 rfl)) ?_
      refine walk_r rfl rfl rfl (op_or rfl (ev1 rfl) (ev3 rfl id)) ?_
      refine walk_nil ?_
      refine dwp_if_f rfl (by simp; exact fun e => h0 (by rw [e]; rfl)) ?_
      refine dwp_skip ?_
      refine dwp_seq ?_
      refine dwp_region ?_
      refine walk_r rfl rfl rfl (op_move (.inl rfl) (ev1 rfl)) ?_
      refine walk_r rfl rfl rfl (dop_call [] [] [] rfl (ev1 rfl) (ec (ev1 rfl) en) rfl rfl (cut_join hHn hHl (by omega)) rfl rfl rfl rfl rfl rfl) ?_
      refine walk_r rfl rfl rfl (op_move (.inr rfl) (ev1 rfl)) ?_
      refine walk_nil ?_
      refine dwp_seq ?_
      refine dwp_seq ?_
      refine dwp_region ?_
      refine walk_r rfl rfl rfl (op_move (.inl rfl) (ev1 rfl)) ?_
      refine walk_r rfl rfl rfl (dop_call [] [] [] rfl (ev1 rfl) (ec (ev1 rfl) en) rfl rfl (cut_join hHn hHl (by omega)) rfl rfl rfl rfl rfl rfl) ?_
      refine walk_r rfl rfl rfl (op_move (.inl rfl) (ev1 rfl)) ?_
      refine walk_r rfl rfl rfl (dop_call [] [] [] rfl (ev1 rfl) (ec (ev1 rfl) (ec (ev1 rfl) en)) rfl rfl (equalN _ _) rfl rfl rfl rfl rfl rfl) ?_
      refine walk_r rfl rfl rfl (op_not rfl (ev1 rfl)) ?_
      refine walk_r rfl rfl rfl (op_move (.inl rfl) (ev1 rfl)) ?_
      refine walk_gr (gd_f rfl rfl rfl) rfl rfl rfl (op_move (.inl rfl) (ev1 rfl)) ?_
      refine walk_gr (gd_f rfl rfl rfl) rfl rfl rfl (op_move (.inl rfl) (ev1 rfl)) ?_
      refine walk_gr (gd_f rfl rfl rfl) rfl rfl rfl (dop_call [] [] [] rfl (ev1 rfl) (ec (ev2 rfl) (ec (ev2 rfl) en)) rfl rfl (equalN _ _) rfl rfl rfl rfl rfl rfl) ?_
      refine walk_gr (gd_f rfl rfl rfl) rfl rfl rfl (op_not rfl (ev2 rfl)) ?_
      refine walk_r rfl rfl rfl (op_or rfl (ev1 rfl) (ev3 rfl id)) ?_
      refine walk_nil ?_
      refine dwp_if_f rfl (by simp) ?_
      refine dwp_skip ?_
      refine dwp_seq ?_
      obtain ⟨k, hk, hke⟩ := placeJ p (show 0 < (hdsJ R).length by omega)
      have hon := off_next_le hk
      have hrl := recJ_len (hdsJ R)[k]
      have hkn := hHn _ (List.getElem_mem hk)
      have hkl := hHl _ (List.getElem_mem hk)
      have hrn := recJ_n hkn
      have hpk := plH_at (H := hdsJ R) (k := k) (by rw [plH_len]; exact hk)
      have hpl := plH_len (hdsJ R)
      have hotl := off_take_le (hdsJ R) k
      refine dwp_region ?_
      refine walk_r rfl rfl rfl (op_move (.inl rfl) (ev1 rfl)) ?_
      refine walk_r rfl rfl rfl (op_conv ty3 kn45 rfl (ev1 rfl)) ?_
      refine walk_r rfl rfl rfl (op_move (.inl rfl) (ev1 rfl)) ?_
      refine walk_r rfl rfl rfl (op_lenm rfl sl25 (ev1 rfl)) ?_
      refine walk_r rfl rfl rfl (op_conv' ty3 kn45 rfl (ev1 rfl) (fun _ => IntWalk.u64_in _ (by omega))) ?_
      refine walk_r rfl rfl rfl (op_rem' rfl (ev1 rfl) (ev1 rfl) (fun _ => ⟨by omega, by omega⟩)) ?_
      refine walk_r rfl rfl rfl (op_conv' ty45 kn3 rfl (ev1 rfl) (fun _ => IntWalk.i64_in _ (by rw [hke]; omega))) ?_
      refine walk_r rfl rfl rfl (op_move (.inr rfl) (ev1 rfl)) ?_
      refine walk_nil ?_
      refine dwp_seq ?_
      rw [hke]
      refine dwp_region ?_
      refine walk_r rfl rfl rfl (op_move (.inl rfl) (ev1 rfl)) ?_
      refine walk_r rfl rfl rfl (dop_call [] [] [] rfl (ev1 rfl) (ec (ev1 rfl) en) rfl rfl (places_join hHn hHl (by omega)) rfl rfl rfl rfl rfl rfl) ?_
      refine walk_r rfl rfl rfl (op_move (.inr rfl) (ev1 rfl)) ?_
      refine walk_nil ?_
      refine dwp_seq ?_
      refine dwp_seq ?_
      refine dwp_region ?_
      refine walk_r rfl rfl rfl (op_move (.inl rfl) (ev1 rfl)) ?_
      refine walk_r rfl rfl rfl (op_len rfl sl28 (ev1 rfl)) ?_
      refine walk_r rfl rfl rfl (op_move (.inl rfl) (ev1 rfl)) ?_
      refine walk_r rfl rfl rfl (op_lenm rfl sl25 (ev1 rfl)) ?_
      refine walk_r rfl rfl rfl (op_neq rfl (ev1 rfl) (ev1 rfl)) ?_
      refine walk_nil ?_
      refine dwp_if_f rfl (by simp [plH_len]) ?_
      refine dwp_skip ?_
      refine dwp_seq ?_
      by_cases hout : p < 0 ∨ 8 * ((recJ (hdsJ R)[k]).length : Int) ≤ p
      · refine dwp_region ?_
        refine walk_r rfl rfl rfl (op_move (.inl rfl) (ev1 rfl)) ?_
        refine walk_r rfl rfl rfl (op_move (.inl rfl) (ev1 rfl)) ?_
        refine walk_r rfl rfl rfl (op_ixm (k) rfl sl25 (ev1 rfl) (ev1 rfl) (fun _ => rfl) (flat1_at (by omega))) ?_
        refine walk_r rfl rfl rfl (op_lddm rfl tb22 (ev1 rfl) rfl) ?_
        refine walk_r rfl rfl rfl (dop_call [] [] [] rfl (ev1 rfl) (ec (ev1 rfl) en) rfl rfl (freeze (record_o (hdsJ R)[k] hkn hkl) rfl) rfl rfl rfl rfl rfl rfl) ?_
        refine walk_r rfl rfl rfl (op_move (.inl rfl) (ev1 rfl)) ?_
        refine walk_r rfl rfl rfl (op_ext rfl (ev1 rfl) rfl) ?_
        refine walk_r rfl rfl rfl (op_ext rfl (ev1 rfl) rfl) ?_
        refine walk_r rfl rfl rfl (op_move (.inr rfl) (ev1 rfl)) ?_
        refine walk_r rfl rfl rfl (op_move (.inr rfl) (ev1 rfl)) ?_
        refine walk_nil ?_
        refine dwp_seq ?_
        refine dwp_region ?_
        refine walk_r rfl rfl rfl (op_move (.inl rfl) (ev1 rfl)) ?_
        refine walk_r rfl rfl rfl (op_move (.inl rfl) (ev1 rfl)) ?_
        refine walk_r rfl rfl rfl (op_move (.inl rfl) (ev1 rfl)) ?_
        refine walk_r rfl rfl rfl (dop_call [] [] [] rfl (ev1 rfl) (ec (ev1 rfl) (ec (ev1 rfl) (ec (ev1 rfl) en))) rfl rfl (wk_nil2 (sz := 1) (spoil_out (recJ (hdsJ R)[k]) p mask hp hout)) rfl rfl rfl rfl rfl rfl) ?_
        refine walk_r rfl rfl rfl (op_move (.inl rfl) (ev1 rfl)) ?_
        refine walk_r rfl rfl rfl (op_ext rfl (ev1 rfl) rfl) ?_
        refine walk_r rfl rfl rfl (op_ext rfl (ev1 rfl) rfl) ?_
        refine walk_r rfl rfl rfl (op_move (.inr rfl) (ev1 rfl)) ?_
        refine walk_r rfl rfl rfl (op_move (.inr rfl) (ev1 rfl)) ?_
        refine walk_nil ?_
        refine dwp_seq ?_
        refine dwp_seq ?_
        refine dwp_region ?_
        refine walk_r rfl rfl rfl (op_move (.inl rfl) (ev1 rfl)) ?_
        refine walk_r rfl rfl rfl (op_neq rfl (ev1 rfl) (ev1 rfl)) ?_
        refine walk_r rfl rfl rfl (op_move (.inl rfl) (ev1 rfl)) ?_
        refine walk_gr (gd_f rfl rfl rfl) rfl rfl rfl (op_move (.inl rfl) (ev1 rfl)) ?_
        refine walk_gr (gd_f rfl rfl rfl) rfl rfl rfl (op_neq rfl (ev2 rfl) (ev1 rfl)) ?_
        refine walk_r rfl rfl rfl (op_or rfl (ev1 rfl) (ev3 rfl id)) ?_
        refine walk_nil ?_
        refine dwp_if_t rfl (rfl) ?_
        refine dwp_seq ?_
        refine dwp_region ?_
        refine walk_r rfl rfl rfl (op_move (.inl rfl) (ev1 rfl)) ?_
        refine walk_r rfl rfl rfl (op_eql rfl (ev1 rfl) (ev1 rfl)) ?_
        refine walk_r rfl rfl rfl (op_move (.inl rfl) (ev1 rfl)) ?_
        refine walk_gr (gd_t rfl rfl rfl) rfl rfl rfl (op_move (.inl rfl) (ev1 rfl)) ?_
        refine walk_gr (gd_t rfl rfl rfl) rfl rfl rfl (op_eql rfl (ev2 rfl) (ev1 rfl)) ?_
        refine walk_r rfl rfl rfl (op_and rfl (ev1 rfl) (ev3 rfl id)) ?_
        refine walk_r rfl rfl rfl (op_move (.inr rfl) (ev1 rfl)) ?_
        refine walk_nil ?_
        refine dwp_ret ?_
        refine kend0 (rs1 rfl (rv_t rfl)) rfl ?_
        first | rfl | simp [hpk]
      · obtain ⟨bit, rfl⟩ : ∃ bit : Nat, p = (bit : Int) := ⟨p.toNat, by omega⟩
        have hb : bit < 8 * (recJ (hdsJ R)[k]).length := by omega
        refine dwp_region ?_
        refine walk_r rfl rfl rfl (op_move (.inl rfl) (ev1 rfl)) ?_
        refine walk_r rfl rfl rfl (op_move (.inl rfl) (ev1 rfl)) ?_
        refine walk_r rfl rfl rfl (op_ixm (k) rfl sl25 (ev1 rfl) (ev1 rfl) (fun _ => rfl) (flat1_at (by omega))) ?_
        refine walk_r rfl rfl rfl (op_lddm rfl tb22 (ev1 rfl) rfl) ?_
        refine walk_r rfl rfl rfl (dop_call [] [] [] rfl (ev1 rfl) (ec (ev1 rfl) en) rfl rfl (freeze (record_o (hdsJ R)[k] hkn hkl) rfl) rfl rfl rfl rfl rfl rfl) ?_
        refine walk_r rfl rfl rfl (op_move (.inl rfl) (ev1 rfl)) ?_
        refine walk_r rfl rfl rfl (op_ext rfl (ev1 rfl) rfl) ?_
        refine walk_r rfl rfl rfl (op_ext rfl (ev1 rfl) rfl) ?_
        refine walk_r rfl rfl rfl (op_move (.inr rfl) (ev1 rfl)) ?_
        refine walk_r rfl rfl rfl (op_move (.inr rfl) (ev1 rfl)) ?_
        refine walk_nil ?_
        refine dwp_seq ?_
        by_cases hz : ∀ j, j < (recJ (hdsJ R)[k]).length → ((mask <<< bit) >>> (8 * j)) % 256 = 0
        · refine dwp_region ?_
          refine walk_r rfl rfl rfl (op_move (.inl rfl) (ev1 rfl)) ?_
          refine walk_r rfl rfl rfl (op_move (.inl rfl) (ev1 rfl)) ?_
          refine walk_r rfl rfl rfl (op_move (.inl rfl) (ev1 rfl)) ?_
          refine walk_r rfl rfl rfl (dop_call [] [] [] rfl (ev1 rfl) (ec (ev1 rfl) (ec (ev1 rfl) (ec (ev1 rfl) en))) rfl rfl (wk_nil2 (sz := 1) (spoil_no (recJ (hdsJ R)[k]) bit mask hm hb (by omega) hrn hz)) rfl rfl rfl rfl rfl rfl) ?_
          refine walk_r rfl rfl rfl (op_move (.inl rfl) (ev1 rfl)) ?_
          refine walk_r rfl rfl rfl (op_ext rfl (ev1 rfl) rfl) ?_
          refine walk_r rfl rfl rfl (op_ext rfl (ev1 rfl) rfl) ?_
          refine walk_r rfl rfl rfl (op_move (.inr rfl) (ev1 rfl)) ?_
          refine walk_r rfl rfl rfl (op_move (.inr rfl) (ev1 rfl)) ?_
          refine walk_nil ?_
          refine dwp_seq ?_
          refine dwp_seq ?_
          refine dwp_region ?_
          refine walk_r rfl rfl rfl (op_move (.inl rfl) (ev1 rfl)) ?_
          refine walk_r rfl rfl rfl (op_neq rfl (ev1 rfl) (ev1 rfl)) ?_
          refine walk_r rfl rfl rfl (op_move (.inl rfl) (ev1 rfl)) ?_
          refine walk_gr (gd_f rfl rfl rfl) rfl rfl rfl (op_move (.inl rfl) (ev1 rfl)) ?_
          refine walk_gr (gd_f rfl rfl rfl) rfl rfl rfl (op_neq rfl (ev2 rfl) (ev1 rfl)) ?_
          refine walk_r rfl rfl rfl (op_or rfl (ev1 rfl) (ev3 rfl id)) ?_
          refine walk_nil ?_
          refine dwp_if_t rfl (rfl) ?_
          refine dwp_seq ?_
          refine dwp_region ?_
          refine walk_r rfl rfl rfl (op_move (.inl rfl) (ev1 rfl)) ?_
          refine walk_r rfl rfl rfl (op_eql rfl (ev1 rfl) (ev1 rfl)) ?_
          refine walk_r rfl rfl rfl (op_move (.inl rfl) (ev1 rfl)) ?_
          refine walk_gr (gd_t rfl rfl rfl) rfl rfl rfl (op_move (.inl rfl) (ev1 rfl)) ?_
          refine walk_gr (gd_t rfl rfl rfl) rfl rfl rfl (op_eql rfl (ev2 rfl) (ev1 rfl)) ?_
          refine walk_r rfl rfl rfl (op_and rfl (ev1 rfl) (ev3 rfl id)) ?_
          refine walk_r rfl rfl rfl (op_move (.inr rfl) (ev1 rfl)) ?_
          refine walk_nil ?_
          refine dwp_ret ?_
          refine kend0 (rs1 rfl (rv_t rfl)) rfl ?_
          first | rfl | simp [hpk]
        · refine dwp_region ?_
          refine walk_r rfl rfl rfl (op_move (.inl rfl) (ev1 rfl)) ?_
          refine walk_r rfl rfl rfl (op_move (.inl rfl) (ev1 rfl)) ?_
          refine walk_r rfl rfl rfl (op_move (.inl rfl) (ev1 rfl)) ?_
          refine walk_r rfl rfl rfl (dop_call [] [] [] rfl (ev1 rfl) (ec (ev1 rfl) (ec (ev1 rfl) (ec (ev1 rfl) en))) rfl rfl (spoil_f (recJ (hdsJ R)[k]) bit mask hm hb (by omega) hrn hz) rfl rfl rfl rfl rfl rfl) ?_
          refine walk_r rfl rfl rfl (op_move (.inl rfl) (ev1 rfl)) ?_
          refine walk_r rfl rfl rfl (op_ext rfl (ev1 rfl) rfl) ?_
          refine walk_r rfl rfl rfl (op_ext rfl (ev1 rfl) rfl) ?_
          refine walk_r rfl rfl rfl (op_move (.inr rfl) (ev1 rfl)) ?_
          refine walk_r rfl rfl rfl (op_move (.inr rfl) (ev1 rfl)) ?_
          refine walk_nil ?_
          refine dwp_seq ?_
          refine dwp_seq ?_
          have hsl := spl_len (mask <<< bit) (recJ (hdsJ R)[k])
          refine dwp_region ?_
          refine walk_r rfl rfl rfl (op_move (.inl rfl) (ev1 rfl)) ?_
          refine walk_r rfl rfl rfl (op_neq rfl (ev1 rfl) (ev1 rfl)) ?_
          refine walk_r rfl rfl rfl (op_move (.inl rfl) (ev1 rfl)) ?_
          refine walk_gr (gd_f rfl rfl rfl) rfl rfl rfl (op_move (.inl rfl) (ev1 rfl)) ?_
          refine walk_gr (gd_f rfl rfl rfl) rfl rfl rfl (op_neq rfl (ev2 rfl) (ev1 rfl)) ?_
          refine walk_r rfl rfl rfl (op_or rfl (ev1 rfl) (ev3 rfl id)) ?_
          refine walk_nil ?_
          refine dwp_if_f rfl (rfl) ?_
          refine dwp_skip ?_
          refine dwp_seq ?_
          refine dwp_seq ?_
          refine dwp_draw [([], []), ([], []), ([], []), ([], []), ([], []), ([], [])] mixed (by kernel_rfl) ?_
          refine lex_r rfl rfl (op_move (.inl rfl) (ev1 rfl)) ?_
          refine lex_r rfl rfl (op_sltk (j := 4) rfl sl22 (ev1 rfl) (bd_some (ev1 rfl)) (fun _ => by omega) (fun _ => by omega) (fun _ => rfl)) ?_
          refine lex_r rfl rfl (op_move (.inl rfl) (ev1 rfl)) ?_
          refine lex_r rfl rfl (op_sltk (j := 4) rfl sl22 (ev1 rfl) (bd_some (ev1 rfl)) (fun _ => by omega) (fun _ => by omega) (fun _ => rfl)) ?_
          refine lex_r rfl rfl (dop_call [] [] [] rfl (ev1 rfl) (ec (ev1 rfl) (ec (ev1 rfl) en)) rfl rfl (equalN _ _) rfl rfl rfl rfl rfl rfl) ?_
          refine lex_r rfl rfl (op_not rfl (ev1 rfl)) ?_
          refine lex_nil ?_
          refine dwp_cond rfl (fun h4 => ?_) (fun h4 => ?_)
          · refine dwp_seq ?_
            refine dwp_region ?_
            refine walk_r rfl rfl rfl (op_move (.inr rfl) (ev1 rfl)) ?_
            refine walk_nil ?_
            refine dwp_ret ?_
            refine kend0 (rs1 rfl (rv_t rfl)) rfl ?_
            first | rfl | simp [hpk]
          · have h5 := holds_fin (by rw [h4]; decide)
            refine dwp_skip ?_
            refine dwp_seq ?_
            refine dwp_draw [([], []), ([], []), ([], []), ([], []), ([], []), ([], []), ([], []), ([], []), ([], []), ([], []), ([], []), ([], []), ([], []), ([], []), ([], []), ([], []), ([], []), ([], []), ([], []), ([], []), ([], []), ([], []), ([], []), ([], [])] mixed (by kernel_rfl) ?_
            refine lex_r rfl rfl (op_move (.inl rfl) (ev1 rfl)) ?_
            refine lex_r rfl rfl (op_move (.inl rfl) (ev1 rfl)) ?_
            refine lex_r rfl rfl (op_move (.inl rfl) (ev1 rfl)) ?_
            refine lex_r rfl rfl (op_ixsr (j := k) rfl sl28 (ev1 rfl) (ev1 rfl) (fun _ => rfl) (by decide) (by omega) (by omega)) ?_
            refine lex_r rfl rfl (op_ldod rfl tb3 (ev1 rfl) rfl) ?_
            refine lex_r rfl rfl (op_sltk (j := (offJ ((hdsJ R).take k))) rfl sl22 (ev1 rfl) (bd_some (ev1 rfl)) (fun _ => by rw [hpk]) (fun _ => by omega) (fun _ => rfl)) ?_
            refine lex_r rfl rfl (op_move (.inl rfl) (ev1 rfl)) ?_
            refine lex_r rfl rfl (op_move (.inl rfl) (ev1 rfl)) ?_
            refine lex_r rfl rfl (op_move (.inl rfl) (ev1 rfl)) ?_
            refine lex_r rfl rfl (op_move (.inl rfl) (ev1 rfl)) ?_
            refine lex_r rfl rfl (op_ixsr (j := k) rfl sl28 (ev1 rfl) (ev1 rfl) (fun _ => rfl) (by decide) (by omega) (by omega)) ?_
            refine lex_r rfl rfl (op_ldod rfl tb3 (ev1 rfl) rfl) ?_
            refine lex_r rfl rfl (op_move (.inl rfl) (ev1 rfl)) ?_
            refine lex_r rfl rfl (op_len rfl sl22 (ev1 rfl)) ?_
            refine lex_r rfl rfl (op_add' rfl (ev1 rfl) (ev1 rfl) (fun _ => IntWalk.i64_in _ (by rw [hpk]; omega))) ?_
            refine lex_r rfl rfl (op_sldr (i := ((offJ ((hdsJ R).take k)) + (recJ (hdsJ R)[k]).length)) rfl sl22 (ev1 rfl) (bd_some (ev1 rfl)) (fun _ => by rw [hpk]; rfl) (fun _ => by omega) (fun _ => rfl)) ?_
            refine lex_r rfl rfl (op_bsm (ps := [(0, .tmp 118), (1, .tmp 119), (2, .tmp 128)]) rfl sl25 zr22 rfl (ec (ev1 rfl) (ec (ev1 rfl) (ec (ev1 rfl) en))) rfl (by decide)) ?_
            refine lex_r rfl rfl (dop_call [] [] [] rfl (ev1 rfl) (ec (ev1 rfl) en) rfl rfl (freeze (concat_n (ps := [(joinJ (hdsJ R)).take (offJ ((hdsJ R).take k)), (spl (mask <<< bit) (recJ (hdsJ R)[k])), (joinJ (hdsJ R)).drop ((offJ ((hdsJ R).take k)) + (recJ (hdsJ R)[k]).length)]) _ _ rfl rfl (by simp; omega)) rfl) rfl rfl rfl rfl rfl rfl) ?_
            refine lex_r rfl rfl (dop_call [] [] [] rfl (ev1 rfl) (ec (ev1 rfl) en) rfl rfl (scan_bad hHn hHl (by omega) hk hb hm hz h5) rfl rfl rfl rfl rfl rfl) ?_
            refine lex_r rfl rfl (op_move (.inl rfl) (ev1 rfl)) ?_
            refine lex_r rfl rfl (op_ext rfl (ev1 rfl) rfl) ?_
            refine lex_r rfl rfl (op_ext rfl (ev1 rfl) rfl) ?_
            refine lex_r rfl rfl (op_move (.inr rfl) (ev1 rfl)) ?_
            refine lex_r rfl rfl (op_move (.inr rfl) (ev1 rfl)) ?_
            refine lex_nil ?_
            refine dwp_seq ?_
            refine dwp_region ?_
            refine walk_r rfl rfl rfl (op_move (.inl rfl) (ev1 rfl)) ?_
            refine walk_r rfl rfl rfl (op_move (.inl rfl) (ev1 rfl)) ?_
            refine walk_r rfl rfl rfl (op_move (.inl rfl) (ev1 rfl)) ?_
            refine walk_r rfl rfl rfl (op_ixsr (j := k) rfl sl28 (ev1 rfl) (ev1 rfl) (fun _ => rfl) (by decide) (by omega) (by omega)) ?_
            refine walk_r rfl rfl rfl (op_ldod rfl tb3 (ev1 rfl) rfl) ?_
            refine walk_r rfl rfl rfl (op_eql rfl (ev1 rfl) (ev1 rfl)) ?_
            refine walk_r rfl rfl rfl (op_move (.inl rfl) (ev1 rfl)) ?_
            refine walk_gr (gd_t rfl rfl rfl) rfl rfl rfl (op_move (.inl rfl) (ev1 rfl)) ?_
            refine walk_gr (gd_t rfl rfl rfl) rfl rfl rfl (op_move (.inl rfl) (ev1 rfl)) ?_
            refine walk_gr (gd_t rfl rfl rfl) rfl rfl rfl (op_move (.inl rfl) (ev1 rfl)) ?_
            refine walk_gr (gd_t rfl rfl rfl) rfl rfl rfl (op_slmtk (j := k) rfl sl25 (ev2 rfl) (bd_some (ev2 rfl)) (fun _ => by omega) (fun _ => by omega) (fun _ => rfl)) ?_
            refine walk_gr (gd_t rfl rfl rfl) rfl rfl rfl (dop_call [] [] [] rfl (ev1 rfl) (ec (ev2 rfl) (ec (ev2 rfl) en)) rfl rfl (same_d _ _) rfl rfl rfl rfl rfl rfl) ?_
            refine walk_r rfl rfl rfl (op_and rfl (ev1 rfl) (ev3 rfl id)) ?_
            refine walk_r rfl rfl rfl (op_move (.inr rfl) (ev1 rfl)) ?_
            refine walk_nil ?_
            refine dwp_ret ?_
            refine kend0 (rs1 rfl (rv_t rfl)) rfl ?_
            first | rfl | simp [hpk]

end Go.Proofs.Ytfdmfklofgmpfaa
