/- what holds of bytes -/
import Derived.Test.YtfdmfklofgmpfaaJd
namespace Go.Proofs.Ytfdmfklofgmpfaa
set_option linter.unusedVariables false
set_option linter.unusedSimpArgs false
open Go.RowKit

def plJ (b : List Nat) (k : Nat) : List Nat := (List.range k).map fun i => offJ ((recs b).take i)
theorem plJ_succ (b : List Nat) (k : Nat) : plJ b (k + 1) = plJ b k ++ [offJ ((recs b).take k)] := by simp [plJ, List.range_succ]
theorem plJ_len (b : List Nat) (k : Nat) : (plJ b k).length = k := by simp [plJ]
theorem off_k {b : List Nat} {k : Nat} (h : k < (recs b).length) : offJ ((recs b).take k) + (num4 (restJ b k) + 8) = offJ ((recs b).take (k + 1)) := by
  rw [off_succ h, (rest_at h).2.2]; omega
theorem rest_k {b : List Nat} {k : Nat} (h : k < (recs b).length) : (restJ b k).drop (num4 (restJ b k) + 8) = restJ b (k + 1) := by
  rw [(rest_at h).2.2]; exact rest_succ h
theorem rest_n {b : List Nat} (h : isN b) (k : Nat) : isN (restJ b k) := fun x hx => h x (List.mem_of_mem_drop hx)
theorem rest_len (b : List Nat) (k : Nat) : offJ ((recs b).take k) + (restJ b k).length = b.length := by
  have := off_le b k
  unfold restJ; rw [List.length_drop]; omega
theorem take_rec {b : List Nat} {k : Nat} (h : k < (recs b).length) : (recs b).take (k + 1) = (recs b).take k ++ [heldJ (restJ b k)] := by
  rw [List.take_succ_eq_append_getElem h, (rest_at h).2.1]
theorem recs_len (b : List Nat) : 8 * (recs b).length ≤ b.length := Nat.le_trans (off_ge _) (rest_end b).2

set_option maxRecDepth 4000 in
set_option maxHeartbeats 1000000 in
theorem told_some (b : List Nat) (hn : isN b) (hL : b.length ≤ 4611686018427387904) (hR : (recs b).length ≤ 1000000) (h0 : 0 < (recs b).length) : DFun Try.prog 50 [.yld 0, .loc 6 0] [.lp 38 [(2, .loc 1 0), (3, .loc 3 0), (5, .loc 5 0)] #[14] hlA hlB .ready none, .mix 25 [.arr 2], .arx 22 1 (([] : List (List Nat))).length ((([] : List (List Nat))).flatMap fun p => [rN p]), .mix 28 [.arr 4], .arr 3 1 (([] : List Nat)).length ((([] : List Nat)).flatMap inN), .flat 35 [.int .i64 0], .mix 88 [.fn (.func 49) [.loc 7 0] []], .mix 63 [.slf 1 (b).length ((b).flatMap un8), .val (.int .i64 ((0 : Nat) : Int))]] (.tup []) [.lp 38 [(2, .loc 1 0), (3, .loc 3 0), (5, .loc 5 0)] #[14] hlA hlB .done (some (.exit 0)), .mix 25 [.arr 8], .gone, .mix 28 [.arr 9], .gone, .flat 35 [.int .i64 (errJ (restJ b (recs b).length))], .mix 88 [.fn (.func 49) [.loc 7 0] []], .mix 63 [.slf 1 (restJ b (recs b).length).length ((restJ b (recs b).length).flatMap un8), .val (.int .i64 ((offJ ((recs b).take (recs b).length) : Nat) : Int))], .arx 22 1 ((recs b).take (recs b).length).length (((recs b).take (recs b).length).flatMap fun p => [rN p]), .arr 3 1 (plJ b (recs b).length).length ((plJ b (recs b).length).flatMap inN)] := by
  refine dcalls_go (N := 14) 8 (by kernel_rfl) Try.func50 rfl rfl rfl (by simp only [fr0, Nat.zero_add, Nat.reduceAdd]; exact rfl) rfl fun s0 hs0 => ?_
  refine dwp_jumps (α := Nat) 0 rfl (fun k => [] ++ [(0, .yld 0), (1, .loc 6 0)]) (fun k => upd [.lp 38 [(2, .loc 1 0), (3, .loc 3 0), (5, .loc 5 0)] #[14] hlA hlB .ready none, .mix 25 [.arr 8], .gone, .mix 28 [.arr 9], .gone, .flat 35 [.int .i64 0], .mix 88 [.fn (.func 49) [.loc 7 0] []], .hole, .hole, .hole] [(7, .mix 63 [.slf 1 (restJ b k).length ((restJ b k).flatMap un8), .val (.int .i64 ((offJ ((recs b).take k) : Nat) : Int))]), (8, .arx 22 1 ((recs b).take k).length (((recs b).take k).flatMap fun p => [rN p])), (9, .arr 3 1 (plJ b k).length ((plJ b k).flatMap inN))]) (fun k => 1 ≤ k ∧ k ≤ (recs b).length) (fun k => (recs b).length - k) ?_ (fun k hx => ?_)
  · refine dwp_seq ?_
    refine dwp_label ?_
    refine dwp_seq ?_
    have hek := (rest_at h0).1
    have hek1 := rest_k h0
    have hek2 := off_k h0
    have hek3 := take_rec h0
    refine dwp_holes 1 (by simp only [holes, List.cons_append, List.nil_append]; exact rfl) ?_
    refine dwp_region ?_
    refine walk_r rfl rfl rfl (op_ldm rfl tb88 (ev1 rfl) rfl rfl) ?_
    refine walk_w rfl rfl rfl (dop_call [7] [] [] rfl (ev1 rfl) en rfl rfl (try_ok (restJ b 0) (offJ ((recs b).take 0)) (rest_n hn 0) (by rw [rest_len]; omega) hek) rfl rfl rfl rfl rfl rfl) (by simp only [upd, List.set_cons_zero, List.set_cons_succ]; exact rfl) ?_
    refine walk_w rfl rfl rfl (op_alloc 8 rfl zr75 rfl) (by simp only [upd, List.set_cons_zero, List.set_cons_succ]; exact rfl) ?_
    refine walk_s rfl rfl (op_stam rfl tb75 (ev1 rfl) (ev1 rfl) rfl rfl rfl rfl) (by simp only [upd, List.set_cons_zero, List.set_cons_succ]; exact rfl) ?_
    refine walk_nil ?_
    refine dwp_seq ?_
    refine dwp_holes 2 (by simp only [holes, List.cons_append, List.nil_append]; exact rfl) ?_
    refine dwp_region ?_
    refine walk_r rfl rfl rfl (op_move (.inl rfl) (ev1 rfl)) ?_
    refine walk_r rfl rfl rfl (op_ldmw rfl tb75 (ev1 rfl) rfl rfl) ?_
    refine walk_w rfl rfl rfl (op_y (i := 0) [0, 1, 2, 3, 4, 5] [] [9, 10] rfl (ev1 rfl) (ec (ev1 rfl) en) rfl rfl (by exact mfits _ _ ⟨rfl, rfl, (by first | exact rfl | exact arx_fits rfl rfl (vwL_flat (fun _ => rfl) _) | exact arxg_fits rfl rfl (fun _ => rfl)), rfl, rfl, rfl, trivial⟩) (hRound_go [] [] (heldJ (restJ b 0)) 0 0 (by simp) (by simp)) rfl rfl rfl (by exact (wrc rfl (wrc rfl (wrc rfl (wrc rfl (wrc rfl (wrc rfl (wrc (by first | exact rfl | exact sb_arx (fun _ => rfl) | exact sb_arxg (fun _ => rfl) | exact sb_arxr (nlL_flatR (fun _ => rfl) _)) (wrc rfl rfl))))))))) rfl) (by simp only [upd, List.set_cons_zero, List.set_cons_succ]; exact rfl) ?_
    refine walk_r rfl rfl rfl (op_move (.inl rfl) (ev1 rfl)) ?_
    refine walk_gr (gd_t rfl rfl rfl) rfl rfl rfl (op_fa rfl fo75_2 (ev1 rfl)) ?_
    refine walk_gr (gd_t rfl rfl rfl) rfl rfl rfl (op_ldm rfl tb35 (ev2 rfl) rfl rfl) ?_
    refine walk_gr (gd_t rfl rfl rfl) rfl rfl rfl (op_eql rfl (ev2 rfl) (ev1 rfl)) ?_
    refine walk_r rfl rfl rfl (op_and rfl (ev1 rfl) (ev3 rfl id)) ?_
    refine walk_nil ?_
    refine dwp_if_t rfl (rfl) ?_
    refine dwp_goto ⟨rfl, 1, ⟨by omega, by omega⟩, fun a w hi => inv_ren (σ := [0, 1, 2, 3, 4, 5, 6, 7, 9, 10]) hi ⟨hs0, rfl⟩ rfl ⟨rfl, rfl, trivial⟩ ⟨rfl, rfl, rfl, rfl, rfl, rfl, rfl, by rw [hek1, hek2]; rfl, by rw [show (recs b).take 1 = [heldJ (restJ b 0)] from hek3]; rfl, rfl, trivial⟩⟩
  · simp only [upd, List.set_cons_zero, List.set_cons_succ, List.cons_append, List.nil_append]
    obtain ⟨hk1, hk⟩ := hx
    have hql : ((recs b).take k).length = k := by rw [List.length_take]; omega
    have hpl := plJ_len b k
    refine dwp_seq ?_
    refine dwp_skip ?_
    refine dwp_seq ?_
    by_cases hkn : k < (recs b).length
    · have hek := (rest_at hkn).1
      have hek1 := rest_k hkn
      have hek2 := off_k hkn
      have hek3 := take_rec hkn
      refine dwp_holes 1 (by simp only [holes, List.cons_append, List.nil_append]; exact rfl) ?_
      refine dwp_region ?_
      refine walk_r rfl rfl rfl (op_ldm rfl tb88 (ev1 rfl) rfl rfl) ?_
      refine walk_w rfl rfl rfl (dop_call [7] [] [] rfl (ev1 rfl) en rfl rfl (try_ok (restJ b k) (offJ ((recs b).take k)) (rest_n hn k) (by rw [rest_len]; omega) hek) rfl rfl rfl rfl rfl rfl) (by simp only [upd, List.set_cons_zero, List.set_cons_succ]; exact rfl) ?_
      refine walk_w rfl rfl rfl (op_alloc 10 rfl zr75 rfl) (by simp only [upd, List.set_cons_zero, List.set_cons_succ]; exact rfl) ?_
      refine walk_s rfl rfl (op_stam rfl tb75 (ev1 rfl) (ev1 rfl) rfl rfl rfl rfl) (by simp only [upd, List.set_cons_zero, List.set_cons_succ]; exact rfl) ?_
      refine walk_nil ?_
      refine dwp_seq ?_
      refine dwp_holes 2 (by simp only [holes, List.cons_append, List.nil_append]; exact rfl) ?_
      refine dwp_region ?_
      refine walk_r rfl rfl rfl (op_move (.inl rfl) (ev1 rfl)) ?_
      refine walk_r rfl rfl rfl (op_ldmw rfl tb75 (ev1 rfl) rfl rfl) ?_
      refine walk_w rfl rfl rfl (op_y (i := 0) [0, 1, 8, 3, 9, 5] [] [11, 12] rfl (ev1 rfl) (ec (ev1 rfl) en) rfl rfl (by exact mfits _ _ ⟨rfl, rfl, (by first | exact rfl | exact arx_fits rfl rfl (vwL_flat (fun _ => rfl) _) | exact arxg_fits rfl rfl (fun _ => rfl)), rfl, rfl, rfl, trivial⟩) (hRound_go ((recs b).take k) (plJ b k) (heldJ (restJ b k)) (offJ ((recs b).take k)) 0 (by omega) (by omega)) rfl rfl rfl (by exact (wrc rfl (wrc rfl (wrc rfl (wrc rfl (wrc rfl (wrc rfl (wrc (by first | exact rfl | exact sb_arx (fun _ => rfl) | exact sb_arxg (fun _ => rfl) | exact sb_arxr (nlL_flatR (fun _ => rfl) _)) (wrc rfl rfl))))))))) rfl) (by simp only [upd, List.set_cons_zero, List.set_cons_succ]; exact rfl) ?_
      refine walk_r rfl rfl rfl (op_move (.inl rfl) (ev1 rfl)) ?_
      refine walk_gr (gd_t rfl rfl rfl) rfl rfl rfl (op_fa rfl fo75_2 (ev1 rfl)) ?_
      refine walk_gr (gd_t rfl rfl rfl) rfl rfl rfl (op_ldm rfl tb35 (ev2 rfl) rfl rfl) ?_
      refine walk_gr (gd_t rfl rfl rfl) rfl rfl rfl (op_eql rfl (ev2 rfl) (ev1 rfl)) ?_
      refine walk_r rfl rfl rfl (op_and rfl (ev1 rfl) (ev3 rfl id)) ?_
      refine walk_nil ?_
      refine dwp_if_t rfl (rfl) ?_
      refine dwp_goto ⟨rfl, k + 1, ⟨by omega, by omega⟩, by omega, fun a w hi => inv_ren (σ := [0, 1, 2, 3, 4, 5, 6, 7, 11, 12]) hi ⟨hs0, rfl⟩ rfl ⟨rfl, rfl, trivial⟩ ⟨rfl, rfl, rfl, rfl, rfl, rfl, rfl, by rw [hek1, hek2]; rfl, arx_fits (by rw [hek3]) (by rw [hek3]) (vwL_flat (fun _ => rfl) _), by rw [plJ_succ]; exact arr_eq rfl rfl, trivial⟩⟩
    · obtain rfl : k = (recs b).length := by omega
      have hek := (rest_end b).1
      refine dwp_holes 1 (by simp only [holes, List.cons_append, List.nil_append]; exact rfl) ?_
      refine dwp_region ?_
      refine walk_r rfl rfl rfl (op_ldm rfl tb88 (ev1 rfl) rfl rfl) ?_
      refine walk_w rfl rfl rfl (dop_call [7] [] [] rfl (ev1 rfl) en rfl rfl (try_no (restJ b (recs b).length) (offJ ((recs b).take (recs b).length)) (rest_n hn (recs b).length) (by rw [rest_len]; omega) hek) rfl rfl rfl rfl rfl rfl) (by simp only [upd, List.set_cons_zero, List.set_cons_succ]; exact rfl) ?_
      refine walk_w rfl rfl rfl (op_alloc 10 rfl zr75 rfl) (by simp only [upd, List.set_cons_zero, List.set_cons_succ]; exact rfl) ?_
      refine walk_s rfl rfl (op_stam rfl tb75 (ev1 rfl) (ev1 rfl) rfl rfl rfl rfl) (by simp only [upd, List.set_cons_zero, List.set_cons_succ]; exact rfl) ?_
      refine walk_nil ?_
      refine dwp_seq ?_
      refine dwp_region ?_
      refine walk_r rfl rfl rfl (op_move (.inl rfl) (ev1 rfl)) ?_
      refine walk_r rfl rfl rfl (op_ldmw rfl tb75 (ev1 rfl) rfl rfl) ?_
      refine walk_w rfl rfl rfl (op_y (i := 0) [0, 1, 8, 3, 9, 5] [] [] rfl (ev1 rfl) (ec (ev1 rfl) en) rfl rfl (by exact mfits _ _ ⟨rfl, rfl, (by first | exact rfl | exact arx_fits rfl rfl (vwL_flat (fun _ => rfl) _) | exact arxg_fits rfl rfl (fun _ => rfl)), rfl, rfl, rfl, trivial⟩) (hRound_stop ((recs b).take (recs b).length) (plJ b (recs b).length) (offJ ((recs b).take (recs b).length)) _ hek) rfl rfl rfl (by exact (wrc rfl (wrc rfl (wrc (by first | exact rfl | exact sb_arx (fun _ => rfl) | exact sb_arxg (fun _ => rfl) | exact sb_arxr (nlL_flatR (fun _ => rfl) _)) (wrc rfl (wrc rfl (wrc rfl rfl))))))) rfl) (by simp only [upd, List.set_cons_zero, List.set_cons_succ]; exact rfl) ?_
      refine walk_r rfl rfl rfl (op_move (.inl rfl) (ev1 rfl)) ?_
      refine walk_gr (gd_t rfl rfl rfl) rfl rfl rfl (op_fa rfl fo75_2 (ev1 rfl)) ?_
      refine walk_gr (gd_t rfl rfl rfl) rfl rfl rfl (op_ldm rfl tb35 (ev2 rfl) rfl rfl) ?_
      refine walk_gr (gd_t rfl rfl rfl) rfl rfl rfl (op_eql rfl (ev2 rfl) (ev1 rfl)) ?_
      refine walk_r rfl rfl rfl (op_and rfl (ev1 rfl) (ev3 rfl id)) ?_
      refine walk_nil ?_
      refine dwp_if_f rfl (rfl) ?_
      refine dwp_skip ?_
      refine kend [0, 1, 2, 3, 4, 5, 6, 7, 8, 9] (res_none rfl) rfl rfl ?_ ⟨?_, ?_, ?_, ?_, ?_, ?_, ?_, ?_, ?_, ?_, trivial⟩
      rfl
      all_goals first | exact rfl | exact arx_fits rfl rfl (vwL_flat (fun _ => rfl) _)

set_option maxRecDepth 4000 in
set_option maxHeartbeats 1000000 in
theorem told_none (b : List Nat) (hn : isN b) (hL : b.length ≤ 4611686018427387904) (h0 : errJ b ≠ 0) : DFun Try.prog 50 [.yld 0, .loc 4 0] [.lp 38 [(2, .loc 1 0), (3, .loc 2 0), (5, .loc 3 0)] #[14] hlA hlB .ready none, .flat 25 [.slice none 0 0], .flat 28 [.slice none 0 0], .flat 35 [.int .i64 0], .mix 88 [.fn (.func 49) [.loc 5 0] []], .mix 63 [.slf 1 (b).length ((b).flatMap un8), .val (.int .i64 ((0 : Nat) : Int))]] (.tup []) [.lp 38 [(2, .loc 1 0), (3, .loc 2 0), (5, .loc 3 0)] #[14] hlA hlB .done (some (.exit 0)), .flat 25 [.slice none 0 0], .flat 28 [.slice none 0 0], .flat 35 [.int .i64 (errJ b)], .mix 88 [.fn (.func 49) [.loc 5 0] []], .mix 63 [.slf 1 (b).length ((b).flatMap un8), .val (.int .i64 ((0 : Nat) : Int))]] := by
  refine dcalls_go (N := 14) 6 (by kernel_rfl) Try.func50 rfl rfl rfl (by simp only [fr0, Nat.zero_add, Nat.reduceAdd]; exact rfl) rfl fun s0 hs0 => ?_
  refine dwp_scope ?_
  refine dwp_seq ?_
  refine dwp_label ?_
  refine dwp_seq ?_
  refine dwp_holes 1 (by simp only [holes, List.cons_append, List.nil_append]; exact rfl) ?_
  refine dwp_region ?_
  refine walk_r rfl rfl rfl (op_ldm rfl tb88 (ev1 rfl) rfl rfl) ?_
  refine walk_w rfl rfl rfl (dop_call [5] [] [] rfl (ev1 rfl) en rfl rfl (try_no b 0 hn (by omega) h0) rfl rfl rfl rfl rfl rfl) (by simp only [upd, List.set_cons_zero, List.set_cons_succ]; exact rfl) ?_
  refine walk_w rfl rfl rfl (op_alloc 6 rfl zr75 rfl) (by simp only [upd, List.set_cons_zero, List.set_cons_succ]; exact rfl) ?_
  refine walk_s rfl rfl (op_stam rfl tb75 (ev1 rfl) (ev1 rfl) rfl rfl rfl rfl) (by simp only [upd, List.set_cons_zero, List.set_cons_succ]; exact rfl) ?_
  refine walk_nil ?_
  refine dwp_seq ?_
  refine dwp_region ?_
  refine walk_r rfl rfl rfl (op_move (.inl rfl) (ev1 rfl)) ?_
  refine walk_r rfl rfl rfl (op_ldmw rfl tb75 (ev1 rfl) rfl rfl) ?_
  refine walk_w rfl rfl rfl (op_y (i := 0) [0, 1, 2, 3] [] [] rfl (ev1 rfl) (ec (ev1 rfl) en) rfl rfl rfl (hRound_none 0 _ h0) rfl rfl rfl rfl rfl) (by simp only [upd, List.set_cons_zero, List.set_cons_succ]; exact rfl) ?_
  refine walk_r rfl rfl rfl (op_move (.inl rfl) (ev1 rfl)) ?_
  refine walk_gr (gd_t rfl rfl rfl) rfl rfl rfl (op_fa rfl fo75_2 (ev1 rfl)) ?_
  refine walk_gr (gd_t rfl rfl rfl) rfl rfl rfl (op_ldm rfl tb35 (ev2 rfl) rfl rfl) ?_
  refine walk_gr (gd_t rfl rfl rfl) rfl rfl rfl (op_eql rfl (ev2 rfl) (ev1 rfl)) ?_
  refine walk_r rfl rfl rfl (op_and rfl (ev1 rfl) (ev3 rfl id)) ?_
  refine walk_nil ?_
  refine dwp_if_f rfl (rfl) ?_
  refine dwp_skip ?_
  refine kend [0, 1, 2, 3, 4, 5] (res_none rfl) rfl rfl ?_ ⟨rfl, rfl, rfl, rfl, rfl, rfl, trivial⟩
  rfl

set_option maxRecDepth 4000 in
set_option maxHeartbeats 1000000 in
theorem held_some (b : List Nat) (hn : isN b) (hL : b.length ≤ 2000000) (h0 : 0 < (recs b).length) : DFun Try.prog 24 [.slf 1 (b).length ((b).flatMap un8)] [] (.tup [.arr 0, .arr 1, .val (.int .i64 (offJ (recs b) : Nat)), .val (.int .i64 (errJ (restJ b (recs b).length)))]) [.arx 22 1 (recs b).length ((recs b).flatMap fun p => [rN p]), .arr 3 1 (plJ b (recs b).length).length ((plJ b (recs b).length).flatMap inN)] := by
  refine dcalls_go (N := 38) 0 (by kernel_rfl) Try.func24 rfl rfl rfl (by simp only [fr0, Nat.zero_add, Nat.reduceAdd]; exact rfl) rfl fun s0 hs0 => ?_
  refine dwp_len (t := 0) rfl fun hl0 hL0 => ?_
  refine dwp_seq ?_
  refine dwp_holes 3 (by simp only [holes, List.cons_append, List.nil_append]; exact rfl) ?_
  refine dwp_region ?_
  refine walk_w rfl rfl rfl (op_alloc 0 rfl zr25 rfl) (by simp only [upd, List.set_cons_zero, List.set_cons_succ]; exact rfl) ?_
  refine walk_w rfl rfl rfl (op_alloc 1 rfl zr28 rfl) (by simp only [upd, List.set_cons_zero, List.set_cons_succ]; exact rfl) ?_
  refine walk_r rfl rfl rfl (op_move (.inr rfl) (ev1 rfl)) ?_
  refine walk_w rfl rfl rfl (op_alloc 2 rfl zr35 rfl) (by simp only [upd, List.set_cons_zero, List.set_cons_succ]; exact rfl) ?_
  refine walk_nil ?_
  refine dwp_scope ?_
  refine dwp_seq ?_
  refine dwp_holes 1 (by simp only [holes, List.cons_append, List.nil_append]; exact rfl) ?_
  refine dwp_region ?_
  refine walk_r rfl rfl rfl (op_move (.inl rfl) (ev1 rfl)) ?_
  refine walk_r rfl rfl rfl (op_bld1 rfl fl61 zr61 (ev1 rfl) rfl) ?_
  refine walk_r rfl rfl rfl (op_bldA rfl (ev1 rfl) fl63 zr63 rfl) ?_
  refine walk_w rfl rfl rfl (op_boxam 3 rfl (ev1 rfl) rfl) (by simp only [upd, List.set_cons_zero, List.set_cons_succ]; exact rfl) ?_
  refine walk_r rfl rfl rfl (op_move (.inr rfl) (ev1 rfl)) ?_
  refine walk_nil ?_
  refine dwp_seq ?_
  refine dwp_label ?_
  refine dwp_seq ?_
  refine dwp_seq ?_
  refine dwp_holes 1 (by simp only [holes, List.cons_append, List.nil_append]; exact rfl) ?_
  refine dwp_region ?_
  refine walk_r rfl rfl rfl (op_move (.inl rfl) (ev1 rfl)) ?_
  refine walk_w rfl rfl rfl (dop_call [3] [] [4] rfl (ev1 rfl) (ec (ev1 rfl) en) rfl rfl (jtell_d _ _) rfl rfl rfl rfl rfl rfl) (by simp only [upd, List.set_cons_zero, List.set_cons_succ]; exact rfl) ?_
  refine walk_nil ?_
  refine dwp_block ?_
  refine dwp_adoptm 0 22 1 rfl (by simp only [List.cons_append, List.nil_append, List.set_cons_zero, List.set_cons_succ, List.length_cons, List.length_nil, Nat.zero_add, Nat.reduceAdd]; exact rfl) ?_
  refine dwp_adoptm 1 3 1 rfl (by simp only [List.cons_append, List.nil_append, List.set_cons_zero, List.set_cons_succ, List.length_cons, List.length_nil, Nat.zero_add, Nat.reduceAdd]; exact rfl) ?_
  refine dwp_reb 5 reb_arx rfl rfl (by simp only [List.cons_append, List.nil_append, List.set_cons_zero, List.set_cons_succ, List.map]; exact rfl) ?_
  refine dwp_hole ?_
  refine dwp_hole ?_
  refine dwp_hole ?_
  simp only [List.cons_append, List.nil_append]
  refine dwp_rf (FL := [(2, _), (3, _), (5, _)]) (st := .done) (pe := (some (.exit 0))) [7, 0, 5, 1, 6, 2, 4, 3] [] [8, 9] 7 rfl rfl (ev1 rfl) rfl (subF_lk ⟨rfl, rfl, rfl, trivial⟩) rfl rfl rfl (told_some b hn (by omega) (by have := recs_len b; omega) h0) rfl rfl rfl (by exact (wrc rfl (wrc rfl (wrc rfl (wrc rfl (wrc rfl (wrc rfl (wrc rfl (wrc rfl (wrc (by first | exact rfl | exact sb_arx (fun _ => rfl) | exact sb_arxg (fun _ => rfl) | exact sb_arxr (nlL_flatR (fun _ => rfl) _)) (wrc rfl rfl))))))))))) rfl rfl rfl (by simp) (fun e => ?_) (fun c e => ?_)
  · cases e
  · obtain rfl : c = .exit 0 := (Option.some.inj e).symm
    simp only [upd, List.set_cons_zero, List.set_cons_succ]
    refine dwp_exit ?_
    refine dwp_seq ?_
    refine dwp_draw [([0], []), ([1], []), ([], []), ([], []), ([], []), ([], []), ([3], []), ([2], []), ([0], [0]), ([1], [1]), ([], []), ([2], [2])] mixed (by kernel_rfl) ?_
    refine lex_r rfl rfl (op_ldm rfl tb25 (ev1 rfl) rfl rfl) ?_
    refine lex_r rfl rfl (op_ldm rfl tb28 (ev1 rfl) rfl rfl) ?_
    refine lex_r rfl rfl (op_move (.inl rfl) (ev1 rfl)) ?_
    refine lex_r rfl rfl (op_nc rfl (ev1 rfl) (fun s v h => by cases h; exact ⟨_, rfl⟩)) ?_
    refine lex_r rfl rfl (op_fa rfl fo63_0 (ev1 rfl)) ?_
    refine lex_r rfl rfl (op_fa rfl fo61_1 (ev1 rfl)) ?_
    refine lex_r rfl rfl (op_ldm rfl tb3 (ev1 rfl) rfl rfl) ?_
    refine lex_r rfl rfl (op_ldo rfl tb35 (ev1 rfl) rfl rfl) ?_
    refine lex_s rfl rfl (op_stm rfl tb25 (ev1 rfl) (ev1 rfl) (fun s v h => by cases h <;> exact ⟨rfl, rfl⟩) rfl (by first | decide | exact Nat.le_of_ble_eq_true rfl | simp)) rfl (by simp only [upd, List.set_cons_zero, List.set_cons_succ]; exact rfl) ?_
    refine lex_s rfl rfl (op_stm rfl tb28 (ev1 rfl) (ev1 rfl) (fun s v h => by cases h <;> exact ⟨rfl, rfl⟩) rfl (by first | decide | exact Nat.le_of_ble_eq_true rfl | simp)) rfl (by simp only [upd, List.set_cons_zero, List.set_cons_succ]; exact rfl) ?_
    refine lex_r rfl rfl (op_move (.inr rfl) (ev1 rfl)) ?_
    refine lex_s rfl rfl (op_stwi rfl tb35 (ev1 rfl) (ev1 rfl) rfl) rfl (by simp only [upd, List.set_cons_zero, List.set_cons_succ]; exact rfl) ?_
    refine lex_nil ?_
    refine dwp_ret ?_
    rw [List.take_length]
    refine kend [8, 9] (rs4 rfl (rv_m tb25 rfl rfl rfl) (rv_m tb28 rfl rfl rfl) (rv_t rfl) (rv_1 tb35 rfl rfl rfl)) rfl rfl ?_ ⟨?_, ?_, trivial⟩
    rfl
    all_goals first | exact rfl | exact arx_fits rfl rfl (vwL_flat (fun _ => rfl) _)

set_option maxRecDepth 4000 in
set_option maxHeartbeats 1000000 in
theorem held_none (b : List Nat) (hn : isN b) (hL : b.length ≤ 2000000) (h0 : errJ b ≠ 0) : DFun Try.prog 24 [.slf 1 (b).length ((b).flatMap un8)] [] (.tup [.val (.slice none 0 0), .val (.slice none 0 0), .val (.int .i64 0), .val (.int .i64 (errJ b))]) [] := by
  refine dcalls_go (N := 38) 0 (by kernel_rfl) Try.func24 rfl rfl rfl (by simp only [fr0, Nat.zero_add, Nat.reduceAdd]; exact rfl) rfl fun s0 hs0 => ?_
  refine dwp_len (t := 0) rfl fun hl0 hL0 => ?_
  refine dwp_seq ?_
  refine dwp_holes 3 (by simp only [holes, List.cons_append, List.nil_append]; exact rfl) ?_
  refine dwp_region ?_
  refine walk_w rfl rfl rfl (op_alloc 0 rfl zr25 rfl) (by simp only [upd, List.set_cons_zero, List.set_cons_succ]; exact rfl) ?_
  refine walk_w rfl rfl rfl (op_alloc 1 rfl zr28 rfl) (by simp only [upd, List.set_cons_zero, List.set_cons_succ]; exact rfl) ?_
  refine walk_r rfl rfl rfl (op_move (.inr rfl) (ev1 rfl)) ?_
  refine walk_w rfl rfl rfl (op_alloc 2 rfl zr35 rfl) (by simp only [upd, List.set_cons_zero, List.set_cons_succ]; exact rfl) ?_
  refine walk_nil ?_
  refine dwp_scope ?_
  refine dwp_seq ?_
  refine dwp_holes 1 (by simp only [holes, List.cons_append, List.nil_append]; exact rfl) ?_
  refine dwp_region ?_
  refine walk_r rfl rfl rfl (op_move (.inl rfl) (ev1 rfl)) ?_
  refine walk_r rfl rfl rfl (op_bld1 rfl fl61 zr61 (ev1 rfl) rfl) ?_
  refine walk_r rfl rfl rfl (op_bldA rfl (ev1 rfl) fl63 zr63 rfl) ?_
  refine walk_w rfl rfl rfl (op_boxam 3 rfl (ev1 rfl) rfl) (by simp only [upd, List.set_cons_zero, List.set_cons_succ]; exact rfl) ?_
  refine walk_r rfl rfl rfl (op_move (.inr rfl) (ev1 rfl)) ?_
  refine walk_nil ?_
  refine dwp_seq ?_
  refine dwp_label ?_
  refine dwp_seq ?_
  refine dwp_seq ?_
  refine dwp_holes 1 (by simp only [holes, List.cons_append, List.nil_append]; exact rfl) ?_
  refine dwp_region ?_
  refine walk_r rfl rfl rfl (op_move (.inl rfl) (ev1 rfl)) ?_
  refine walk_w rfl rfl rfl (dop_call [3] [] [4] rfl (ev1 rfl) (ec (ev1 rfl) en) rfl rfl (jtell_d _ _) rfl rfl rfl rfl rfl rfl) (by simp only [upd, List.set_cons_zero, List.set_cons_succ]; exact rfl) ?_
  refine walk_nil ?_
  refine dwp_block ?_
  refine dwp_hole ?_
  simp only [List.cons_append, List.nil_append]
  refine dwp_rf (FL := [(2, _), (3, _), (5, _)]) (st := .done) (pe := (some (.exit 0))) [5, 0, 1, 2, 4, 3] [] [] 5 rfl rfl (ev1 rfl) rfl (subF_lk ⟨rfl, rfl, rfl, trivial⟩) rfl rfl rfl (told_none b hn (by omega) h0) rfl rfl rfl rfl rfl rfl rfl (by simp) (fun e => ?_) (fun c e => ?_)
  · cases e
  · obtain rfl : c = .exit 0 := (Option.some.inj e).symm
    simp only [upd, List.set_cons_zero, List.set_cons_succ]
    refine dwp_exit ?_
    refine dwp_seq ?_
    refine dwp_draw [([0], []), ([1], []), ([], []), ([], []), ([], []), ([], []), ([3], []), ([2], []), ([0], [0]), ([1], [1]), ([], []), ([2], [2])] mixed (by kernel_rfl) ?_
    refine lex_r rfl rfl (op_ldo rfl tb25 (ev1 rfl) rfl rfl) ?_
    refine lex_r rfl rfl (op_ldo rfl tb28 (ev1 rfl) rfl rfl) ?_
    refine lex_r rfl rfl (op_move (.inl rfl) (ev1 rfl)) ?_
    refine lex_r rfl rfl (op_nc rfl (ev1 rfl) (fun s v h => by cases h; exact ⟨_, rfl⟩)) ?_
    refine lex_r rfl rfl (op_fa rfl fo63_0 (ev1 rfl)) ?_
    refine lex_r rfl rfl (op_fa rfl fo61_1 (ev1 rfl)) ?_
    refine lex_r rfl rfl (op_ldm rfl tb3 (ev1 rfl) rfl rfl) ?_
    refine lex_r rfl rfl (op_ldo rfl tb35 (ev1 rfl) rfl rfl) ?_
    refine lex_s rfl rfl (op_st rfl tb25 (ev1 rfl) (ev1 rfl) rfl rfl rfl rfl (by decide) rfl) rfl (by simp only [upd, List.set_cons_zero, List.set_cons_succ]; exact rfl) ?_
    refine lex_s rfl rfl (op_st rfl tb28 (ev1 rfl) (ev1 rfl) rfl rfl rfl rfl (by decide) rfl) rfl (by simp only [upd, List.set_cons_zero, List.set_cons_succ]; exact rfl) ?_
    refine lex_r rfl rfl (op_move (.inr rfl) (ev1 rfl)) ?_
    refine lex_s rfl rfl (op_stwi rfl tb35 (ev1 rfl) (ev1 rfl) rfl) rfl (by simp only [upd, List.set_cons_zero, List.set_cons_succ]; exact rfl) ?_
    refine lex_nil ?_
    refine dwp_ret ?_
    refine kend0 (rs4 rfl (rv_1 tb25 rfl rfl rfl) (rv_1 tb28 rfl rfl rfl) (rv_t rfl) (rv_1 tb35 rfl rfl rfl)) rfl ?_
    rfl

theorem wkD {P : Program} {f : FuncId} {args : List D} {d d' : D} (h : DFun P f args [] d []) (hd : ∀ s v, Rep s d v → Rep s d' v) : DFun P f args [] d' [] := by
  refine ⟨h.1, fun s vs hok hM hr => (h.2 s vs hok hM hr).mono ?_⟩
  rintro q w' ⟨s', rfl, ht, hor⟩
  rcases hor with ⟨d0, v, rfl, hrep, rfl, hMo⟩ | ⟨d0, v, _, _, hf⟩
  · exact ⟨s', rfl, ht, .inl ⟨d', v, rfl, hd _ _ hrep, rfl, hMo⟩⟩
  · exact hf.elim
theorem rep_tup {s : St} {l l' : List D} {v : Value} (hl : l'.length = l.length) (h : ∀ (j : Nat) d d' v, l[j]? = some d → l'[j]? = some d' → Rep s d v → Rep s d' v) (hr : Rep s (.tup l) v) : Rep s (.tup l') v := by
  cases hr with
  | @tup _ vs hvl hd =>
    refine .tup (by omega) fun j d' u h1 h2 => ?_
    have hj : j < l.length := by have := (List.getElem?_eq_some_iff.1 h1).1; omega
    exact h j _ _ u (List.getElem?_eq_getElem hj) h1 (hd j _ u (List.getElem?_eq_getElem hj) h2)
theorem rep_nilm {s : St} {v : Value} (h : Rep s (.val (.slice none 0 0)) v) : Rep s (.slm 1 0 []) v := by
  cases h
  exact .slm (vs := []) rfl rfl (Nat.le_refl _) (Nat.zero_le _) (fun _ => rfl) rfl (fun j d v h => by simp at h) (.inl rfl)
theorem rep_nilf {s : St} {v : Value} (h : Rep s (.val (.slice none 0 0)) v) : Rep s (.slf 1 0 []) v := by
  cases h
  exact .slf rfl (Nat.le_refl _) (Nat.zero_le _) (fun _ => rfl) (.inl rfl)
theorem frz_held {P : Program} {f : FuncId} {args : List D} {α : Type} {T T' : TypeId} {n m : Nat} {l : List α} {g : α → D} {L : List Value} {u v : Value} (h : DFun P f args [] (.tup [.arr 0, .arr 1, .val u, .val v]) [.arx T 1 n (l.flatMap fun a => [g a]), .arr T' 1 m L]) (hg : ∀ a M, vw1 [] allv M (g a) = some (g a)) :
    DFun P f args [] (.tup [.slm 1 n (l.flatMap fun a => [g a]), .slf 1 m L, .val u, .val v]) [] := freeze h (by
  have e := vwArr_rows (M := [.arx T 1 n (l.flatMap fun a => [g a]), .arr T' 1 m L]) (i := 0) rfl (fun a => hg a _)
  have e2 : vw [] allv [.arx T 1 n (l.flatMap fun a => [g a]), .arr T' 1 m L] (.arr 1) = some (.slf 1 m L) := rfl
  show (vwL [] allv _ [.arr 0, .arr 1, .val u, .val v]).map D.tup = _
  unfold vwL
  rw [e]
  unfold vwL
  rw [e2]
  rfl)
theorem held_f (b : List Nat) (hn : isN b) (hL : b.length ≤ 2000000) : DFun Try.prog 24 [rN b] [] (.tup [.slm 1 (recs b).length ((recs b).flatMap fun p => [rN p]), .slf 1 (plJ b (recs b).length).length ((plJ b (recs b).length).flatMap inN), .val (.int .i64 (offJ (recs b) : Nat)), .val (.int .i64 (errJ (restJ b (recs b).length)))]) [] := by
  by_cases h : errJ b = 0
  · exact frz_held (held_some b hn hL (by rw [recs_cons h]; simp)) (fun _ _ => rfl)
  · have h1 := held_none b hn hL h
    rw [show restJ b (recs b).length = b by rw [recs_nil h]; rfl, recs_nil h]
    refine wkD h1 fun s v hr => rep_tup (l := [.val (.slice none 0 0), .val (.slice none 0 0), .val (.int .i64 0), .val (.int .i64 (errJ b))]) rfl (fun j d d' v h1 h2 h3 => ?_) hr
    match j, h1, h2 with
    | 0, h1, h2 => cases h1; cases h2; exact rep_nilm h3
    | 1, h1, h2 => cases h1; cases h2; exact rep_nilf h3
    | 2, h1, h2 => cases h1; cases h2; exact h3
    | 3, h1, h2 => cases h1; cases h2; exact h3
    | n + 4, h1, h2 => cases h1

set_option maxRecDepth 4000 in
set_option maxHeartbeats 1000000 in
theorem scan_f (b : List Nat) (hn : isN b) (hL : b.length ≤ 2000000) : DFun Try.prog 8 [.slf 1 (b).length ((b).flatMap un8)] [] (.tup [.slm 1 (recs b).length ((recs b).flatMap fun p => [rN p]), .val (.int .i64 (offJ (recs b) : Nat))]) [] := by
  refine dcalls_go (N := 17) 0 (by kernel_rfl) Try.func8 rfl rfl rfl (by simp only [fr0, Nat.zero_add, Nat.reduceAdd]; exact rfl) rfl fun s0 hs0 => ?_
  refine dwp_len (t := 0) rfl fun hl0 hL0 => ?_
  refine dwp_seq ?_
  refine dwp_region ?_
  refine walk_r rfl rfl rfl (op_move (.inr rfl) (ev1 rfl)) ?_
  refine walk_r rfl rfl rfl (op_move (.inr rfl) (ev1 rfl)) ?_
  refine walk_nil ?_
  refine dwp_seq ?_
  refine dwp_region ?_
  refine walk_r rfl rfl rfl (op_move (.inl rfl) (ev1 rfl)) ?_
  refine walk_r rfl rfl rfl (dop_call [] [] [] rfl (ev1 rfl) (ec (ev1 rfl) en) rfl rfl (held_f b hn hL) rfl rfl rfl rfl rfl rfl) ?_
  refine walk_r rfl rfl rfl (op_move (.inl rfl) (ev1 rfl)) ?_
  refine walk_r rfl rfl rfl (op_ext rfl (ev1 rfl) rfl) ?_
  refine walk_r rfl rfl rfl (op_ext rfl (ev1 rfl) rfl) ?_
  refine walk_r rfl rfl rfl (op_ext rfl (ev1 rfl) rfl) ?_
  refine walk_r rfl rfl rfl (op_ext rfl (ev1 rfl) rfl) ?_
  refine walk_r rfl rfl rfl (op_move (.inr rfl) (ev1 rfl)) ?_
  refine walk_r rfl rfl rfl (op_move (.inr rfl) (ev1 rfl)) ?_
  refine walk_r rfl rfl rfl (op_move (.inr rfl) (ev1 rfl)) ?_
  refine walk_r rfl rfl rfl (op_move (.inr rfl) (ev1 rfl)) ?_
  refine walk_nil ?_
  refine dwp_seq ?_
  refine dwp_region ?_
  refine walk_r rfl rfl rfl (op_move (.inl rfl) (ev1 rfl)) ?_
  refine walk_r rfl rfl rfl (op_move (.inl rfl) (ev1 rfl)) ?_
  refine walk_r rfl rfl rfl (op_move (.inr rfl) (ev1 rfl)) ?_
  refine walk_r rfl rfl rfl (op_move (.inr rfl) (ev1 rfl)) ?_
  refine walk_nil ?_
  refine dwp_ret ?_
  refine kend0 (rs2 rfl (rv_t rfl) (rv_t rfl)) rfl ?_
  rfl

set_option maxRecDepth 4000 in
set_option maxHeartbeats 1000000 in
theorem places_f (b : List Nat) (hn : isN b) (hL : b.length ≤ 2000000) : DFun Try.prog 12 [.slf 1 (b).length ((b).flatMap un8)] [] (.slf 1 (plJ b (recs b).length).length ((plJ b (recs b).length).flatMap inN)) [] := by
  refine dcalls_go (N := 15) 0 (by kernel_rfl) Try.func12 rfl rfl rfl (by simp only [fr0, Nat.zero_add, Nat.reduceAdd]; exact rfl) rfl fun s0 hs0 => ?_
  refine dwp_len (t := 0) rfl fun hl0 hL0 => ?_
  refine dwp_seq ?_
  refine dwp_region ?_
  refine walk_r rfl rfl rfl (op_move (.inr rfl) (ev1 rfl)) ?_
  refine walk_nil ?_
  refine dwp_seq ?_
  refine dwp_region ?_
  refine walk_r rfl rfl rfl (op_move (.inl rfl) (ev1 rfl)) ?_
  refine walk_r rfl rfl rfl (dop_call [] [] [] rfl (ev1 rfl) (ec (ev1 rfl) en) rfl rfl (held_f b hn hL) rfl rfl rfl rfl rfl rfl) ?_
  refine walk_r rfl rfl rfl (op_move (.inl rfl) (ev1 rfl)) ?_
  refine walk_r rfl rfl rfl (op_ext rfl (ev1 rfl) rfl) ?_
  refine walk_r rfl rfl rfl (op_ext rfl (ev1 rfl) rfl) ?_
  refine walk_r rfl rfl rfl (op_ext rfl (ev1 rfl) rfl) ?_
  refine walk_r rfl rfl rfl (op_ext rfl (ev1 rfl) rfl) ?_
  refine walk_r rfl rfl rfl (op_move (.inr rfl) (ev1 rfl)) ?_
  refine walk_r rfl rfl rfl (op_move (.inr rfl) (ev1 rfl)) ?_
  refine walk_r rfl rfl rfl (op_move (.inr rfl) (ev1 rfl)) ?_
  refine walk_r rfl rfl rfl (op_move (.inr rfl) (ev1 rfl)) ?_
  refine walk_nil ?_
  refine dwp_seq ?_
  refine dwp_region ?_
  refine walk_r rfl rfl rfl (op_move (.inl rfl) (ev1 rfl)) ?_
  refine walk_r rfl rfl rfl (op_move (.inr rfl) (ev1 rfl)) ?_
  refine walk_nil ?_
  refine dwp_ret ?_
  refine kend0 (rs1 rfl (rv_t rfl)) rfl ?_
  rfl

set_option maxRecDepth 4000 in
set_option maxHeartbeats 1000000 in
theorem cut_o (b : List Nat) (hn : isN b) (hL : b.length ≤ 2000000) : DFun Try.prog 14 [.slf 1 (b).length ((b).flatMap un8)] [] (.arr 0) [.arr 5 1 (b.take (offJ (recs b))).length (((b.take (offJ (recs b)))).flatMap un8)] := by
  refine dcalls_go (N := 19) 0 (by kernel_rfl) Try.func14 rfl rfl rfl (by simp only [fr0, Nat.zero_add, Nat.reduceAdd]; exact rfl) rfl fun s0 hs0 => ?_
  refine dwp_len (t := 0) rfl fun hl0 hL0 => ?_
  refine dwp_seq ?_
  refine dwp_region ?_
  refine walk_r rfl rfl rfl (op_move (.inr rfl) (ev1 rfl)) ?_
  refine walk_nil ?_
  refine dwp_seq ?_
  refine dwp_region ?_
  refine walk_r rfl rfl rfl (op_move (.inl rfl) (ev1 rfl)) ?_
  refine walk_r rfl rfl rfl (dop_call [] [] [] rfl (ev1 rfl) (ec (ev1 rfl) en) rfl rfl (held_f b hn hL) rfl rfl rfl rfl rfl rfl) ?_
  refine walk_r rfl rfl rfl (op_move (.inl rfl) (ev1 rfl)) ?_
  refine walk_r rfl rfl rfl (op_ext rfl (ev1 rfl) rfl) ?_
  refine walk_r rfl rfl rfl (op_ext rfl (ev1 rfl) rfl) ?_
  refine walk_r rfl rfl rfl (op_ext rfl (ev1 rfl) rfl) ?_
  refine walk_r rfl rfl rfl (op_ext rfl (ev1 rfl) rfl) ?_
  refine walk_r rfl rfl rfl (op_move (.inr rfl) (ev1 rfl)) ?_
  refine walk_r rfl rfl rfl (op_move (.inr rfl) (ev1 rfl)) ?_
  refine walk_r rfl rfl rfl (op_move (.inr rfl) (ev1 rfl)) ?_
  refine walk_r rfl rfl rfl (op_move (.inr rfl) (ev1 rfl)) ?_
  refine walk_nil ?_
  refine dwp_seq ?_
  have hoe := (rest_end b).2
  refine dwp_holes 1 (by simp only [holes, List.cons_append, List.nil_append]; exact rfl) ?_
  refine dwp_region ?_
  refine walk_r rfl rfl rfl (op_move (.inl rfl) (ev1 rfl)) ?_
  refine walk_r rfl rfl rfl (op_move (.inl rfl) (ev1 rfl)) ?_
  refine walk_r rfl rfl rfl (op_move (.inl rfl) (ev1 rfl)) ?_
  refine walk_r rfl rfl rfl (op_sl3f (j := (offJ (recs b))) rfl sl22 (ev1 rfl) (ev1 rfl) (ev1 rfl) (fun hp => by first | omega | (simp at hp; omega)) (fun hp => by first | omega | (simp at hp; omega)) (fun hp => by first | omega | (simp at hp; omega)) (fun _ => rfl)) ?_
  refine walk_w rfl rfl rfl (dop_call [] [] [0] rfl (ev1 rfl) (ec (ev1 rfl) en) rfl rfl (cloneN _ (by rw [List.length_take]; omega)) rfl rfl rfl rfl rfl rfl) (by simp only [upd, List.set_cons_zero, List.set_cons_succ]; exact rfl) ?_
  refine walk_r rfl rfl rfl (op_move (.inr rfl) (ev1 rfl)) ?_
  refine walk_nil ?_
  refine dwp_ret ?_
  refine kend [0] (rs1 rfl (rv_t rfl)) rfl rfl ?_ ⟨rfl, trivial⟩
  rfl

set_option maxRecDepth 4000 in
set_option maxHeartbeats 1000000 in
theorem why_f (b : List Nat) (hn : isN b) (hL : b.length ≤ 2000000) : DFun Try.prog 15 [.slf 1 (b).length ((b).flatMap un8)] [] (.tup [.val (.int .i64 (offJ (recs b) : Nat)), .val (.int .i64 (if offJ (recs b) = b.length then 0 else errJ (restJ b (recs b).length)))]) [] := by
  refine dcalls_go (N := 22) 0 (by kernel_rfl) Try.func15 rfl rfl rfl (by simp only [fr0, Nat.zero_add, Nat.reduceAdd]; exact rfl) rfl fun s0 hs0 => ?_
  refine dwp_len (t := 0) rfl fun hl0 hL0 => ?_
  refine dwp_seq ?_
  refine dwp_region ?_
  refine walk_r rfl rfl rfl (op_move (.inr rfl) (ev1 rfl)) ?_
  refine walk_r rfl rfl rfl (op_move (.inr rfl) (ev1 rfl)) ?_
  refine walk_nil ?_
  refine dwp_seq ?_
  refine dwp_region ?_
  refine walk_r rfl rfl rfl (op_move (.inl rfl) (ev1 rfl)) ?_
  refine walk_r rfl rfl rfl (dop_call [] [] [] rfl (ev1 rfl) (ec (ev1 rfl) en) rfl rfl (held_f b hn hL) rfl rfl rfl rfl rfl rfl) ?_
  refine walk_r rfl rfl rfl (op_move (.inl rfl) (ev1 rfl)) ?_
  refine walk_r rfl rfl rfl (op_ext rfl (ev1 rfl) rfl) ?_
  refine walk_r rfl rfl rfl (op_ext rfl (ev1 rfl) rfl) ?_
  refine walk_r rfl rfl rfl (op_ext rfl (ev1 rfl) rfl) ?_
  refine walk_r rfl rfl rfl (op_ext rfl (ev1 rfl) rfl) ?_
  refine walk_r rfl rfl rfl (op_move (.inr rfl) (ev1 rfl)) ?_
  refine walk_r rfl rfl rfl (op_move (.inr rfl) (ev1 rfl)) ?_
  refine walk_r rfl rfl rfl (op_move (.inr rfl) (ev1 rfl)) ?_
  refine walk_r rfl rfl rfl (op_move (.inr rfl) (ev1 rfl)) ?_
  refine walk_nil ?_
  refine dwp_seq ?_
  refine dwp_seq ?_
  refine dwp_region ?_
  refine walk_r rfl rfl rfl (op_move (.inl rfl) (ev1 rfl)) ?_
  refine walk_r rfl rfl rfl (op_move (.inl rfl) (ev1 rfl)) ?_
  refine walk_r rfl rfl rfl (op_len rfl sl22 (ev1 rfl)) ?_
  refine walk_r rfl rfl rfl (op_eql rfl (ev1 rfl) (ev1 rfl)) ?_
  refine walk_nil ?_
  refine dwp_cond rfl (fun c1 => ?_) (fun c1 => ?_)
  · refine dwp_seq ?_
    refine dwp_region ?_
    refine walk_r rfl rfl rfl (op_move (.inl rfl) (ev1 rfl)) ?_
    refine walk_r rfl rfl rfl (op_move (.inr rfl) (ev1 rfl)) ?_
    refine walk_r rfl rfl rfl (op_move (.inr rfl) (ev1 rfl)) ?_
    refine walk_nil ?_
    refine dwp_ret ?_
    refine kend0 (rs2 rfl (rv_t rfl) (rv_t rfl)) rfl ?_
    rw [if_pos (by simp at c1; omega)]
  · refine dwp_skip ?_
    refine dwp_seq ?_
    refine dwp_region ?_
    refine walk_r rfl rfl rfl (op_move (.inl rfl) (ev1 rfl)) ?_
    refine walk_r rfl rfl rfl (op_move (.inl rfl) (ev1 rfl)) ?_
    refine walk_r rfl rfl rfl (op_move (.inr rfl) (ev1 rfl)) ?_
    refine walk_r rfl rfl rfl (op_move (.inr rfl) (ev1 rfl)) ?_
    refine walk_nil ?_
    refine dwp_ret ?_
    refine kend0 (rs2 rfl (rv_t rfl) (rv_t rfl)) rfl ?_
    rw [if_neg (by simp at c1; omega)]

set_option maxRecDepth 4000 in
set_option maxHeartbeats 1000000 in
theorem fs1_idle (e : Int) : DDef Try.prog 29 [.loc 0 0] [.flat 35 [.int .i64 e]] none none [.flat 35 [.int .i64 0]] := by
  refine ddef_go1 (dr := .tup []) (t := 1) (N := 3) 1 (by kernel_rfl) Try.func29 rfl rfl rfl (by simp only [fr0, Nat.zero_add, Nat.reduceAdd]; exact rfl) rfl rfl rfl rfl rfl fun s0 hs0 => ?_
  refine walk_r rfl rfl rfl (dop_call [] [] [] rfl (ev1 rfl) (ec (ev1 rfl) en) rfl rfl (jtold_no) rfl rfl rfl rfl rfl rfl) ?_
  refine walk_s rfl rfl (op_stwi rfl tb35 (ev1 rfl) (ev1 rfl) rfl) (by simp only [upd, List.set_cons_zero, List.set_cons_succ]; exact rfl) ?_
  refine walk_nil ?_
  refine kend [0] (res_none rfl) rfl rfl ?_ ⟨rfl, trivial⟩
  rfl

set_option maxRecDepth 4000 in
set_option maxHeartbeats 1000000 in
theorem fs1_caught (e n : Int) : DDef Try.prog 29 [.loc 0 0] [.flat 35 [.int .i64 e]] (some (.ifc 79 (.val (.agg #[.int .i64 n])))) none [.flat 35 [.int .i64 n]] := by
  refine ddef_go1 (dr := .tup []) (t := 1) (N := 3) 1 (by kernel_rfl) Try.func29 rfl rfl rfl (by simp only [fr0, Nat.zero_add, Nat.reduceAdd]; exact rfl) rfl rfl rfl rfl rfl fun s0 hs0 => ?_
  refine walk_r rfl rfl rfl (dop_call [] [] [] rfl (ev1 rfl) (ec (ev1 rfl) en) rfl rfl (jtold_w n) rfl rfl rfl rfl rfl rfl) ?_
  refine walk_s rfl rfl (op_stwi rfl tb35 (ev1 rfl) (ev1 rfl) rfl) (by simp only [upd, List.set_cons_zero, List.set_cons_succ]; exact rfl) ?_
  refine walk_nil ?_
  refine kend [0] (res_none rfl) rfl rfl ?_ ⟨rfl, trivial⟩
  rfl

set_option maxRecDepth 4000 in
set_option maxHeartbeats 1000000 in
theorem ap1_idle (e : Int) : DDef Try.prog 37 [.loc 0 0] [.flat 35 [.int .i64 e]] none none [.flat 35 [.int .i64 0]] := by
  refine ddef_go1 (dr := .tup []) (t := 1) (N := 3) 1 (by kernel_rfl) Try.func37 rfl rfl rfl (by simp only [fr0, Nat.zero_add, Nat.reduceAdd]; exact rfl) rfl rfl rfl rfl rfl fun s0 hs0 => ?_
  refine walk_r rfl rfl rfl (dop_call [] [] [] rfl (ev1 rfl) (ec (ev1 rfl) en) rfl rfl (jtold_no) rfl rfl rfl rfl rfl rfl) ?_
  refine walk_s rfl rfl (op_stwi rfl tb35 (ev1 rfl) (ev1 rfl) rfl) (by simp only [upd, List.set_cons_zero, List.set_cons_succ]; exact rfl) ?_
  refine walk_nil ?_
  refine kend [0] (res_none rfl) rfl rfl ?_ ⟨rfl, trivial⟩
  rfl

set_option maxRecDepth 4000 in
set_option maxHeartbeats 1000000 in
theorem ap1_caught (e n : Int) : DDef Try.prog 37 [.loc 0 0] [.flat 35 [.int .i64 e]] (some (.ifc 79 (.val (.agg #[.int .i64 n])))) none [.flat 35 [.int .i64 n]] := by
  refine ddef_go1 (dr := .tup []) (t := 1) (N := 3) 1 (by kernel_rfl) Try.func37 rfl rfl rfl (by simp only [fr0, Nat.zero_add, Nat.reduceAdd]; exact rfl) rfl rfl rfl rfl rfl fun s0 hs0 => ?_
  refine walk_r rfl rfl rfl (dop_call [] [] [] rfl (ev1 rfl) (ec (ev1 rfl) en) rfl rfl (jtold_w n) rfl rfl rfl rfl rfl rfl) ?_
  refine walk_s rfl rfl (op_stwi rfl tb35 (ev1 rfl) (ev1 rfl) rfl) (by simp only [upd, List.set_cons_zero, List.set_cons_succ]; exact rfl) ?_
  refine walk_nil ?_
  refine kend [0] (res_none rfl) rfl rfl ?_ ⟨rfl, trivial⟩
  rfl

set_option maxRecDepth 4000 in
set_option maxHeartbeats 1000000 in
theorem first_ok (b : List Nat) (hn : isN b) (hL : b.length ≤ 2000000) (h : errJ b = 0) : DFun Try.prog 17 [.slf 1 (b).length ((b).flatMap un8)] [] (.tup [rN (heldJ b), .val (.int .i64 (0 + (num4 b + 8) : Nat)), .val (.int .i64 0)]) [] := by
  refine dcalls_body (N := 16) 0 (by kernel_rfl) Try.func17 rfl rfl rfl (by simp only [fr0, Nat.zero_add, Nat.reduceAdd]; exact rfl) rfl fun s0 hs0 => ?_
  refine dbody_seq rfl hs0 ?_
  refine dwp_holes 1 (by simp only [holes, List.cons_append, List.nil_append]; exact rfl) ?_
  refine dwp_region ?_
  refine walk_r rfl rfl rfl (op_move (.inr rfl) (ev1 rfl)) ?_
  refine walk_r rfl rfl rfl (op_move (.inr rfl) (ev1 rfl)) ?_
  refine walk_w rfl rfl rfl (op_alloc 0 rfl zr35 rfl) (by simp only [upd, List.set_cons_zero, List.set_cons_succ]; exact rfl) ?_
  refine walk_nil ?_
  refine dbody_defer (l0 := [_]) rfl rfl rfl rfl rfl hs0 ?_
  refine walk_r rfl rfl rfl (op_mkf rfl en (ec (ev1 rfl) en)) ?_
  refine walk_nil ⟨_, _, _, 1, ev1 rfl, Nat.le_trans hs0 (by decide), rfl, ?_⟩
  have hs1 : s0.M.length ≤ 1 := Nat.le_trans hs0 (by decide)
  refine dbody_end rfl hs0 ?_
  refine dwp_seq ?_
  refine dwp_holes 1 (by simp only [holes, List.cons_append, List.nil_append]; exact rfl) ?_
  refine dwp_region ?_
  refine walk_r rfl rfl rfl (op_move (.inl rfl) (ev1 rfl)) ?_
  refine walk_r rfl rfl rfl (op_bld1 rfl fl61 zr61 (ev1 rfl) rfl) ?_
  refine walk_r rfl rfl rfl (op_bldA rfl (ev1 rfl) fl63 zr63 rfl) ?_
  refine walk_w rfl rfl rfl (op_alloc 1 rfl zr63 rfl) (by simp only [upd, List.set_cons_zero, List.set_cons_succ]; exact rfl) ?_
  refine walk_s rfl rfl (op_stam rfl tb63 (ev1 rfl) (ev1 rfl) rfl rfl rfl rfl) (by simp only [upd, List.set_cons_zero, List.set_cons_succ]; exact rfl) ?_
  refine walk_nil ?_
  refine dwp_seq ?_
  refine dwp_region ?_
  refine walk_w rfl rfl rfl (dop_call [1] [] [] rfl (ev1 rfl) (ec (ev1 rfl) en) rfl rfl (next_f b 0 hn (by omega) h) rfl rfl rfl rfl rfl rfl) (by simp only [upd, List.set_cons_zero, List.set_cons_succ]; exact rfl) ?_
  refine walk_r rfl rfl rfl (op_move (.inr rfl) (ev1 rfl)) ?_
  refine walk_nil ?_
  refine dwp_seq ?_
  refine dwp_draw [([], []), ([], []), ([], []), ([1], []), ([], []), ([], []), ([0], [0])] mixed (by kernel_rfl) ?_
  refine lex_r rfl rfl (op_move (.inl rfl) (ev1 rfl)) ?_
  refine lex_r rfl rfl (op_fa rfl fo63_0 (ev1 rfl)) ?_
  refine lex_r rfl rfl (op_fa rfl fo61_1 (ev1 rfl)) ?_
  refine lex_r rfl rfl (op_ldm rfl tb3 (ev1 rfl) rfl rfl) ?_
  refine lex_r rfl rfl (op_move (.inr rfl) (ev1 rfl)) ?_
  refine lex_r rfl rfl (op_move (.inr rfl) (ev1 rfl)) ?_
  refine lex_s rfl rfl (op_stwi rfl tb35 (ev1 rfl) (ev1 rfl) rfl) rfl (by simp only [upd, List.set_cons_zero, List.set_cons_succ]; exact rfl) ?_
  refine lex_nil ?_
  refine dwp_ret ?_
  refine kdef (dturn_idle [0] [] rfl rfl (fs1_idle _) rfl rfl rfl rfl rfl) ?_
  refine kend0 (rs3 rfl (rv_t rfl) (rv_t rfl) (rv_1 tb35 rfl rfl rfl)) rfl ?_
  rfl

set_option maxRecDepth 4000 in
set_option maxHeartbeats 1000000 in
theorem first_no (b : List Nat) (hn : isN b) (hL : b.length ≤ 2000000) (h : errJ b ≠ 0) : DFun Try.prog 17 [.slf 1 (b).length ((b).flatMap un8)] [] (.tup [.val (.slice none 0 0), .val (.int .i64 0), .val (.int .i64 (errJ b))]) [] := by
  refine dcalls_body (N := 16) 0 (by kernel_rfl) Try.func17 rfl rfl rfl (by simp only [fr0, Nat.zero_add, Nat.reduceAdd]; exact rfl) rfl fun s0 hs0 => ?_
  refine dbody_seq rfl hs0 ?_
  refine dwp_holes 1 (by simp only [holes, List.cons_append, List.nil_append]; exact rfl) ?_
  refine dwp_region ?_
  refine walk_r rfl rfl rfl (op_move (.inr rfl) (ev1 rfl)) ?_
  refine walk_r rfl rfl rfl (op_move (.inr rfl) (ev1 rfl)) ?_
  refine walk_w rfl rfl rfl (op_alloc 0 rfl zr35 rfl) (by simp only [upd, List.set_cons_zero, List.set_cons_succ]; exact rfl) ?_
  refine walk_nil ?_
  refine dbody_defer (l0 := [_]) rfl rfl rfl rfl rfl hs0 ?_
  refine walk_r rfl rfl rfl (op_mkf rfl en (ec (ev1 rfl) en)) ?_
  refine walk_nil ⟨_, _, _, 1, ev1 rfl, Nat.le_trans hs0 (by decide), rfl, ?_⟩
  have hs1 : s0.M.length ≤ 1 := Nat.le_trans hs0 (by decide)
  refine dbody_end rfl hs0 ?_
  refine dwp_seq ?_
  refine dwp_holes 1 (by simp only [holes, List.cons_append, List.nil_append]; exact rfl) ?_
  refine dwp_region ?_
  refine walk_r rfl rfl rfl (op_move (.inl rfl) (ev1 rfl)) ?_
  refine walk_r rfl rfl rfl (op_bld1 rfl fl61 zr61 (ev1 rfl) rfl) ?_
  refine walk_r rfl rfl rfl (op_bldA rfl (ev1 rfl) fl63 zr63 rfl) ?_
  refine walk_w rfl rfl rfl (op_alloc 1 rfl zr63 rfl) (by simp only [upd, List.set_cons_zero, List.set_cons_succ]; exact rfl) ?_
  refine walk_s rfl rfl (op_stam rfl tb63 (ev1 rfl) (ev1 rfl) rfl rfl rfl rfl) (by simp only [upd, List.set_cons_zero, List.set_cons_succ]; exact rfl) ?_
  refine walk_nil ?_
  refine dwp_seq ?_
  refine dwp_region ?_
  refine walk_p rfl (dop_callP [1] [] [] rfl (ev1 rfl) (ec (ev1 rfl) en) rfl rfl (next_no b 0 hn (by omega) h) rfl rfl rfl rfl rfl rfl) rfl ?_
  refine kdef (dturn_caught [0] [] rfl rfl rfl (fs1_caught _ _) rfl rfl rfl rfl rfl) ?_
  refine kend0 (rs3 rfl (rv_t rfl) (rv_t rfl) (rv_1 tb35 rfl rfl rfl)) rfl ?_
  rfl

set_option maxRecDepth 4000 in
set_option maxHeartbeats 1000000 in
theorem append_no (b : List Nat) (hn : isN b) (hL : b.length ≤ 2000000) (R : List (List Nat)) (h : offJ (recs b) ≠ b.length) : DFun Try.prog 23 [.slf 1 (b).length ((b).flatMap un8), .slm 1 (R).length ((R).flatMap fun p => [rN p])] [] (.tup [.val (.slice none 0 0), .val (.int .i64 2)]) [] := by
  refine dcalls_body (N := 22) 0 (by kernel_rfl) Try.func23 rfl rfl rfl (by simp only [fr0, Nat.zero_add, Nat.reduceAdd]; exact rfl) rfl fun s0 hs0 => ?_
  refine dbody_seq rfl hs0 ?_
  refine dwp_holes 1 (by simp only [holes, List.cons_append, List.nil_append]; exact rfl) ?_
  refine dwp_region ?_
  refine walk_r rfl rfl rfl (op_move (.inr rfl) (ev1 rfl)) ?_
  refine walk_w rfl rfl rfl (op_alloc 0 rfl zr35 rfl) (by simp only [upd, List.set_cons_zero, List.set_cons_succ]; exact rfl) ?_
  refine walk_nil ?_
  refine dbody_defer (l0 := [_]) rfl rfl rfl rfl rfl hs0 ?_
  refine walk_r rfl rfl rfl (op_mkf rfl en (ec (ev1 rfl) en)) ?_
  refine walk_nil ⟨_, _, _, 1, ev1 rfl, Nat.le_trans hs0 (by decide), rfl, ?_⟩
  have hs1 : s0.M.length ≤ 1 := Nat.le_trans hs0 (by decide)
  refine dbody_end rfl hs0 ?_
  refine dwp_seq ?_
  refine dwp_region ?_
  refine walk_r rfl rfl rfl (op_move (.inl rfl) (ev1 rfl)) ?_
  refine walk_r rfl rfl rfl (dop_call [] [] [] rfl (ev1 rfl) (ec (ev1 rfl) en) rfl rfl (why_f b hn hL) rfl rfl rfl rfl rfl rfl) ?_
  refine walk_r rfl rfl rfl (op_move (.inl rfl) (ev1 rfl)) ?_
  refine walk_r rfl rfl rfl (op_ext rfl (ev1 rfl) rfl) ?_
  refine walk_r rfl rfl rfl (op_ext rfl (ev1 rfl) rfl) ?_
  refine walk_r rfl rfl rfl (op_move (.inr rfl) (ev1 rfl)) ?_
  refine walk_r rfl rfl rfl (op_move (.inr rfl) (ev1 rfl)) ?_
  refine walk_nil ?_
  refine dwp_seq ?_
  have hre := (rest_end b).1
  refine dwp_region ?_
  refine walk_r rfl rfl rfl (op_move (.inl rfl) (ev1 rfl)) ?_
  refine walk_r rfl rfl rfl (op_eql rfl (ev1 rfl) (ev1 rfl)) ?_
  refine walk_p rfl (dop_callP [] [] [] rfl (ev1 rfl) (ec (ev1 rfl) (ec (ev1 rfl) en)) rfl rfl (jneed_no _ _ (by rw [if_neg h]; simpa using hre)) rfl rfl rfl rfl rfl rfl) rfl ?_
  refine kdef (dturn_caught [0] [] rfl rfl rfl (ap1_caught _ _) rfl rfl rfl rfl rfl) ?_
  refine kend0 (rs2 rfl (rv_t rfl) (rv_1 tb35 rfl rfl rfl)) rfl ?_
  rfl

theorem slf_nil {s : St} {v : Value} (h : Rep s (.val (.slice none 0 0)) v) : Rep s (.slf 1 0 []) v := rep_nilf h
def cutJ (r : List Nat) : List Nat := r.take (min r.length 65537)
def sixJ (R : List (List Nat)) : List (List Nat) := R.take (min R.length 6)
def fsJ (R : List (List Nat)) (k : Nat) : List (List Nat) := ((sixJ R).take k).map cutJ
def fewJ (R : List (List Nat)) : List (List Nat) := (sixJ R).map cutJ
theorem sixJ_len (R : List (List Nat)) : (sixJ R).length ≤ 6 := by unfold sixJ; rw [List.length_take]; omega
theorem fewJ_len (R : List (List Nat)) : (fewJ R).length ≤ 6 := by unfold fewJ; rw [List.length_map]; exact sixJ_len R
theorem fsJ_succ {R : List (List Nat)} {k : Nat} (h : k < (sixJ R).length) : fsJ R (k + 1) = fsJ R k ++ [cutJ (sixJ R)[k]] := by
  unfold fsJ
  rw [List.take_succ_eq_append_getElem h, List.map_append]
  rfl
theorem fsJ_len {R : List (List Nat)} {k : Nat} (h : k ≤ (sixJ R).length) : (fsJ R k).length = k := by
  unfold fsJ; rw [List.length_map, List.length_take]; omega
theorem fsJ_all (R : List (List Nat)) : fsJ R (sixJ R).length = fewJ R := by unfold fsJ fewJ; rw [List.take_length]
theorem fewJ_n {R : List (List Nat)} (h : ∀ r ∈ R, isN r) : ∀ r ∈ fewJ R, isN r := fun r hr x hx => by
  obtain ⟨q, hq, rfl⟩ := List.mem_map.1 hr
  exact h q (List.mem_of_mem_take hq) x (List.mem_of_mem_take hx)

set_option maxRecDepth 4000 in
set_option maxHeartbeats 1000000 in
theorem few_o (R : List (List Nat)) : DFun Try.prog 18 [.slm 1 (R).length ((R).flatMap fun p => [rN p])] [] (.arr 0) [.arx 22 1 (fewJ R).length ((fewJ R).flatMap fun p => [rN p])] := by
  refine dcalls_go (N := 27) 0 (by kernel_rfl) Try.func18 rfl rfl rfl (by simp only [fr0, Nat.zero_add, Nat.reduceAdd]; exact rfl) rfl fun s0 hs0 => ?_
  refine dwp_lenm (t := 0) rfl fun hl0 hL0 => ?_
  refine dwp_seq ?_
  refine dwp_region ?_
  refine walk_r rfl rfl rfl (op_move (.inr rfl) (ev1 rfl)) ?_
  refine walk_nil ?_
  refine dwp_seq ?_
  have hs6 := sixJ_len R
  have hs6e : (R.take (min R.length 6)).length = (sixJ R).length := rfl
  refine dwp_region ?_
  refine walk_r rfl rfl rfl (op_move (.inr rfl) (ev1 rfl)) ?_
  refine walk_nil ?_
  refine dwp_seq ?_
  refine dwp_seq ?_
  refine dwp_region ?_
  refine walk_r rfl rfl rfl (op_move (.inl rfl) (ev1 rfl)) ?_
  refine walk_r rfl rfl rfl (op_move (.inl rfl) (ev1 rfl)) ?_
  refine walk_r rfl rfl rfl (op_lenm rfl sl25 (ev1 rfl)) ?_
  refine walk_r rfl rfl rfl (op_min rfl (ev1 rfl) (ev1 rfl)) ?_
  refine walk_r rfl rfl rfl (op_slmtk (j := min R.length 6) rfl sl25 (ev1 rfl) (bd_some (ev1 rfl)) (fun _ => by omega) (fun _ => by omega) (fun _ => rfl)) ?_
  refine walk_r rfl rfl rfl (op_lenm rfl sl25 (ev1 rfl)) ?_
  refine walk_r rfl rfl rfl (op_move (.inl rfl) (ev1 rfl)) ?_
  refine walk_nil ?_
  refine dwp_block ?_
  refine dwp_adoptx 3 22 1 rfl rfl rfl ?_
  refine dwp_loopS ⟨hs0, rfl⟩ (α := Nat) (fun k => [(12, .val (.int .i64 (k : Int)))]) [(3, _), (10, _), (11, _)] (fun k => [(0, .arx 22 1 (fsJ R k).length ((fsJ R k).flatMap fun p => [rN p]))]) [.hole] (fun k => k ≤ (sixJ R).length) (fun k => (sixJ R).length - k) 0 [0] (by simp) rfl ⟨rfl, rfl, rfl, trivial⟩ ⟨rfl, trivial⟩ ⟨rfl, trivial⟩ ?_
  intro k hx
  simp only [upd, List.set_cons_zero, List.set_cons_succ, List.cons_append, List.nil_append]
  have hk := hx
  have hfl := fsJ_len hk
  refine dwp_seq ?_
  refine dwp_region ?_
  refine walk_r rfl rfl rfl (op_lss rfl (ev1 rfl) (ev1 rfl)) ?_
  refine walk_nil ?_
  refine dwp_seq ?_
  refine dwp_cond rfl (fun c1 => ?_) (fun c1 => ?_)
  · try simp only [decide_eq_true_eq, decide_eq_false_iff_not, beq_iff_eq, bne_iff_ne, beq_eq_false_iff_ne, bne_eq_false_iff_eq, Bool.not_eq_true', Bool.not_eq_false', Bool.and_eq_true, Bool.or_eq_true, Bool.or_eq_false_iff, ne_eq, Decidable.not_not, Int.not_lt, Int.not_le] at c1
    refine dwp_skip ?_
    refine dwp_seq ?_
    refine dwp_block ?_
    refine dwp_seq ?_
    refine dwp_region ?_
    refine walk_r rfl rfl rfl (op_ixm (k) rfl sl25 (ev1 rfl) (ev1 rfl) (fun _ => rfl) (flat1_at ((show k < (sixJ R).length by omega)))) ?_
    refine walk_r rfl rfl rfl (op_lddm rfl tb22 (ev1 rfl) rfl) ?_
    refine walk_r rfl rfl rfl (op_move (.inr rfl) (ev1 rfl)) ?_
    refine walk_nil ?_
    have hk6 : k < (sixJ R).length := by omega
    refine dwp_holes 1 (by simp only [holes, List.cons_append, List.nil_append]; exact rfl) ?_
    refine dwp_region ?_
    refine walk_r rfl rfl rfl (op_move (.inl rfl) (ev1 rfl)) ?_
    refine walk_r rfl rfl rfl (op_move (.inl rfl) (ev1 rfl)) ?_
    refine walk_r rfl rfl rfl (op_move (.inl rfl) (ev1 rfl)) ?_
    refine walk_r rfl rfl rfl (op_len rfl sl22 (ev1 rfl)) ?_
    refine walk_r rfl rfl rfl (op_min rfl (ev1 rfl) (ev1 rfl)) ?_
    refine walk_r rfl rfl rfl (op_sltk (j := min ((sixJ R)[k]).length 65537) rfl sl22 (ev1 rfl) (bd_some (ev1 rfl)) (fun _ => by omega) (fun _ => by omega) (fun _ => rfl)) ?_
    refine walk_r rfl rfl rfl (dop_call [] [] [] rfl (ev1 rfl) (ec (ev1 rfl) en) rfl rfl (cloneN_f (cutJ (sixJ R)[k]) (by unfold cutJ; rw [List.length_take]; omega)) rfl rfl rfl rfl rfl rfl) ?_
    refine walk_r rfl rfl rfl (op_bsm (ps := [(0, .tmp 22)]) rfl sl25 zr22 rfl (ec (ev1 rfl) en) rfl (by decide)) ?_
    refine walk_w rfl rfl rfl (op_appx (j := 1) rfl sl25 zr22 rfl (ev1 rfl) (ev1 rfl) rfl rfl rfl (fun _ => ⟨by omega, by omega⟩)) (by simp only [upd, List.set_cons_zero, List.set_cons_succ]; exact rfl) ?_
    refine walk_r rfl rfl rfl (op_move (.inr rfl) (ev1 rfl)) ?_
    refine walk_nil ?_
    refine dwp_region ?_
    refine walk_r rfl rfl rfl (op_add' rfl (ev1 rfl) (ev1 rfl) (fun _ => IntWalk.i64_in _ (by omega))) ?_
    refine walk_r rfl rfl rfl (op_move (.inl rfl) (ev1 rfl)) ?_
    refine walk_nil ?_
    refine ⟨k + 1, [1], by omega, by simp only []; omega, rfl, ⟨rfl, rfl, rfl, rfl, trivial⟩, ⟨arx_fits (by rw [fsJ_succ (by omega), List.length_append]; rfl) (by rw [fsJ_succ (by omega), List.flatMap_append]; rfl) (vwL_flat (fun _ => rfl) _), trivial⟩⟩
  · try simp only [decide_eq_true_eq, decide_eq_false_iff_not, beq_iff_eq, bne_iff_ne, beq_eq_false_iff_ne, bne_eq_false_iff_eq, Bool.not_eq_true', Bool.not_eq_false', Bool.and_eq_true, Bool.or_eq_true, Bool.or_eq_false_iff, ne_eq, Decidable.not_not, Int.not_lt, Int.not_le] at c1
    refine dwp_exit ?_
    refine dwp_seq ?_
    refine dwp_region ?_
    refine walk_r rfl rfl rfl (op_move (.inl rfl) (ev1 rfl)) ?_
    refine walk_r rfl rfl rfl (op_move (.inr rfl) (ev1 rfl)) ?_
    refine walk_nil ?_
    refine dwp_ret ?_
    obtain rfl : k = (sixJ R).length := by omega
    refine kend [0] (rs1 rfl (rv_t rfl)) rfl rfl ?_ ⟨?_, trivial⟩
    rfl
    exact arx_fits (by rw [fsJ_all]) (by rw [fsJ_all]) (vwL_flat (fun _ => rfl) _)

theorem few_f (R : List (List Nat)) : DFun Try.prog 18 [.slm 1 R.length (R.flatMap fun p => [rN p])] [] (.slm 1 (fewJ R).length ((fewJ R).flatMap fun p => [rN p])) [] := frz_rows (few_o R) (fun _ _ => rfl)

set_option maxRecDepth 4000 in
set_option maxHeartbeats 1000000 in
theorem same1_d (l r : List Nat) : DFun Try.prog 26 [.slf 1 (l).length ((l).flatMap un8), .slf 1 (r).length ((r).flatMap un8)] [] (.val (.bool (decide (l = r)))) [] := by
  refine dcalls_go (N := 8) 0 (by kernel_rfl) Try.func26 rfl rfl rfl (by simp only [fr0, Nat.zero_add, Nat.reduceAdd]; exact rfl) rfl fun s0 hs0 => ?_
  refine dwp_len (t := 0) rfl fun hl0 hL0 => ?_
  refine dwp_len (t := 1) rfl fun hl1 hL1 => ?_
  refine dwp_seq ?_
  refine dwp_region ?_
  refine walk_r rfl rfl rfl (op_move (.inr rfl) (ev1 rfl)) ?_
  refine walk_nil ?_
  refine dwp_seq ?_
  refine dwp_region ?_
  refine walk_r rfl rfl rfl (op_move (.inl rfl) (ev1 rfl)) ?_
  refine walk_r rfl rfl rfl (op_move (.inl rfl) (ev1 rfl)) ?_
  refine walk_r rfl rfl rfl (dop_call [] [] [] rfl (ev1 rfl) (ec (ev1 rfl) (ec (ev1 rfl) en)) rfl rfl (equalN l r) rfl rfl rfl rfl rfl rfl) ?_
  refine walk_r rfl rfl rfl (op_move (.inr rfl) (ev1 rfl)) ?_
  refine walk_nil ?_
  refine dwp_ret ?_
  refine kend0 (rs1 rfl (rv_t rfl)) rfl ?_
  rfl

set_option maxRecDepth 4000 in
set_option maxHeartbeats 1000000 in
theorem eqf_d (l r : List (List Nat)) : DFun Try.prog 25 [.slm 1 (l).length ((l).flatMap fun p => [rN p]), .slm 1 (r).length ((r).flatMap fun p => [rN p]), .fn (.func 26) [] []] [] (.val (.bool (decide (l = r)))) [] := by
  refine dcalls_go (N := 32) 0 (by kernel_rfl) Try.func25 rfl rfl rfl (by simp only [fr0, Nat.zero_add, Nat.reduceAdd]; exact rfl) rfl fun s0 hs0 => ?_
  refine dwp_lenm (t := 0) rfl fun hl0 hL0 => ?_
  refine dwp_lenm (t := 1) rfl fun hl1 hL1 => ?_
  refine dwp_seq ?_
  refine dwp_region ?_
  refine walk_r rfl rfl rfl (op_move (.inr rfl) (ev1 rfl)) ?_
  refine walk_nil ?_
  refine dwp_seq ?_
  refine dwp_seq ?_
  refine dwp_region ?_
  refine walk_r rfl rfl rfl (op_move (.inl rfl) (ev1 rfl)) ?_
  refine walk_r rfl rfl rfl (op_lenm rfl sl25 (ev1 rfl)) ?_
  refine walk_r rfl rfl rfl (op_move (.inl rfl) (ev1 rfl)) ?_
  refine walk_r rfl rfl rfl (op_lenm rfl sl25 (ev1 rfl)) ?_
  refine walk_r rfl rfl rfl (op_neq rfl (ev1 rfl) (ev1 rfl)) ?_
  refine walk_nil ?_
  refine dwp_cond rfl (fun c1 => ?_) (fun c1 => ?_)
  · try simp only [decide_eq_true_eq, decide_eq_false_iff_not, beq_iff_eq, bne_iff_ne, beq_eq_false_iff_ne, bne_eq_false_iff_eq, Bool.not_eq_true', Bool.not_eq_false', Bool.and_eq_true, Bool.or_eq_true, Bool.or_eq_false_iff, ne_eq, Decidable.not_not, Int.not_lt, Int.not_le] at c1
    refine dwp_seq ?_
    refine dwp_region ?_
    refine walk_r rfl rfl rfl (op_move (.inr rfl) (ev1 rfl)) ?_
    refine walk_nil ?_
    refine dwp_ret ?_
    refine kend0 (rs1 rfl (rv_t rfl)) rfl ?_
    have hne : l ≠ r := fun e => by subst e; exact c1 rfl
    rw [decide_eq_false hne]
  · try simp only [decide_eq_true_eq, decide_eq_false_iff_not, beq_iff_eq, bne_iff_ne, beq_eq_false_iff_ne, bne_eq_false_iff_eq, Bool.not_eq_true', Bool.not_eq_false', Bool.and_eq_true, Bool.or_eq_true, Bool.or_eq_false_iff, ne_eq, Decidable.not_not, Int.not_lt, Int.not_le] at c1
    have hlen : l.length = r.length := by omega
    refine dwp_skip ?_
    refine dwp_seq ?_
    refine dwp_seq ?_
    refine dwp_region ?_
    refine walk_r rfl rfl rfl (op_move (.inl rfl) (ev1 rfl)) ?_
    refine walk_r rfl rfl rfl (op_lenm rfl sl25 (ev1 rfl)) ?_
    refine walk_r rfl rfl rfl (op_move (.inl rfl) (ev1 rfl)) ?_
    refine walk_nil ?_
    refine dwp_block ?_
    refine dwp_loopS ⟨hs0, rfl⟩ (α := Nat) (fun k => [(17, .val (.int .i64 (k : Int)))]) [(1, _), (2, _), (15, _), (16, _)] (fun k => []) [] (fun k => k ≤ l.length ∧ l.take k = r.take k) (fun k => l.length - k) 0 [] (by simp) rfl ⟨rfl, rfl, rfl, rfl, trivial⟩ ⟨rfl, trivial⟩ trivial ?_
    intro k hx
    simp only [upd, List.set_cons_zero, List.set_cons_succ, List.cons_append, List.nil_append]
    obtain ⟨hk, he⟩ := hx
    refine dwp_seq ?_
    refine dwp_region ?_
    refine walk_r rfl rfl rfl (op_lss rfl (ev1 rfl) (ev1 rfl)) ?_
    refine walk_nil ?_
    refine dwp_seq ?_
    refine dwp_cond rfl (fun c2 => ?_) (fun c2 => ?_)
    · try simp only [decide_eq_true_eq, decide_eq_false_iff_not, beq_iff_eq, bne_iff_ne, beq_eq_false_iff_ne, bne_eq_false_iff_eq, Bool.not_eq_true', Bool.not_eq_false', Bool.and_eq_true, Bool.or_eq_true, Bool.or_eq_false_iff, ne_eq, Decidable.not_not, Int.not_lt, Int.not_le] at c2
      refine dwp_skip ?_
      refine dwp_seq ?_
      refine dwp_block ?_
      refine dwp_seq ?_
      refine dwp_region ?_
      refine walk_r rfl rfl rfl (op_move (.inl rfl) (ev1 rfl)) ?_
      refine walk_r rfl rfl rfl (op_ixm (k) rfl sl25 (ev1 rfl) (ev1 rfl) (fun _ => rfl) (flat1_at (by omega))) ?_
      refine walk_r rfl rfl rfl (op_lddm rfl tb22 (ev1 rfl) rfl) ?_
      refine walk_r rfl rfl rfl (op_move (.inr rfl) (ev1 rfl)) ?_
      refine walk_r rfl rfl rfl (op_move (.inr rfl) (ev1 rfl)) ?_
      refine walk_nil ?_
      refine dwp_seq ?_
      refine dwp_region ?_
      refine walk_r rfl rfl rfl (op_move (.inl rfl) (ev1 rfl)) ?_
      refine walk_r rfl rfl rfl (op_move (.inl rfl) (ev1 rfl)) ?_
      refine walk_r rfl rfl rfl (op_ixm (k) rfl sl25 (ev1 rfl) (ev1 rfl) (fun _ => rfl) (flat1_at (by omega))) ?_
      refine walk_r rfl rfl rfl (op_lddm rfl tb22 (ev1 rfl) rfl) ?_
      refine walk_r rfl rfl rfl (op_move (.inr rfl) (ev1 rfl)) ?_
      refine walk_nil ?_
      refine dwp_seq ?_
      refine dwp_region ?_
      refine walk_r rfl rfl rfl (op_move (.inl rfl) (ev1 rfl)) ?_
      refine walk_r rfl rfl rfl (op_move (.inl rfl) (ev1 rfl)) ?_
      refine walk_r rfl rfl rfl (op_move (.inl rfl) (ev1 rfl)) ?_
      refine walk_r rfl rfl rfl (dop_call [] [] [] rfl (ev1 rfl) (ec (ev1 rfl) (ec (ev1 rfl) en)) rfl rfl (same1_d _ _) rfl rfl rfl rfl rfl rfl) ?_
      refine walk_r rfl rfl rfl (op_not rfl (ev1 rfl)) ?_
      refine walk_nil ?_
      refine dwp_cond rfl (fun c2_ => ?_) (fun c2_ => ?_)
      · have c3_ : l[k] ≠ r[k] := by simpa using c2_
        refine dwp_seq ?_
        refine dwp_region ?_
        refine walk_r rfl rfl rfl (op_move (.inr rfl) (ev1 rfl)) ?_
        refine walk_nil ?_
        refine dwp_ret ?_
        refine kend0 (rs1 rfl (rv_t rfl)) rfl ?_
        have hne : l ≠ r := fun e => by subst e; exact c3_ rfl
        rw [decide_eq_false hne]
      · have c3_ : l[k] = r[k] := by simpa using c2_
        refine dwp_skip ?_
        refine dwp_region ?_
        refine walk_r rfl rfl rfl (op_add' rfl (ev1 rfl) (ev1 rfl) (fun _ => IntWalk.i64_in _ (by omega))) ?_
        refine walk_r rfl rfl rfl (op_move (.inl rfl) (ev1 rfl)) ?_
        refine walk_nil ?_
        refine ⟨k + 1, [], ⟨by omega, by rw [List.take_succ_eq_append_getElem (by omega), List.take_succ_eq_append_getElem (by omega), he, c3_]⟩, by simp only []; omega, rfl, ⟨rfl, rfl, rfl, rfl, rfl, trivial⟩, trivial⟩
    · try simp only [decide_eq_true_eq, decide_eq_false_iff_not, beq_iff_eq, bne_iff_ne, beq_eq_false_iff_ne, bne_eq_false_iff_eq, Bool.not_eq_true', Bool.not_eq_false', Bool.and_eq_true, Bool.or_eq_true, Bool.or_eq_false_iff, ne_eq, Decidable.not_not, Int.not_lt, Int.not_le] at c2
      refine dwp_exit ?_
      refine dwp_seq ?_
      refine dwp_region ?_
      refine walk_r rfl rfl rfl (op_move (.inr rfl) (ev1 rfl)) ?_
      refine walk_nil ?_
      refine dwp_ret ?_
      refine kend0 (rs1 rfl (rv_t rfl)) rfl ?_
      have e : l = r := by
        have h := he
        rw [List.take_of_length_le (by omega), List.take_of_length_le (by omega)] at h
        exact h
      rw [decide_eq_true e]

set_option maxRecDepth 4000 in
set_option maxHeartbeats 1000000 in
theorem same_d (l r : List (List Nat)) : DFun Try.prog 10 [.slm 1 (l).length ((l).flatMap fun p => [rN p]), .slm 1 (r).length ((r).flatMap fun p => [rN p])] [] (.val (.bool (decide (l = r)))) [] := by
  refine dcalls_go (N := 8) 0 (by kernel_rfl) Try.func10 rfl rfl rfl (by simp only [fr0, Nat.zero_add, Nat.reduceAdd]; exact rfl) rfl fun s0 hs0 => ?_
  refine dwp_lenm (t := 0) rfl fun hl0 hL0 => ?_
  refine dwp_lenm (t := 1) rfl fun hl1 hL1 => ?_
  refine dwp_seq ?_
  refine dwp_region ?_
  refine walk_r rfl rfl rfl (op_move (.inr rfl) (ev1 rfl)) ?_
  refine walk_nil ?_
  refine dwp_seq ?_
  refine dwp_region ?_
  refine walk_r rfl rfl rfl (op_move (.inl rfl) (ev1 rfl)) ?_
  refine walk_r rfl rfl rfl (op_move (.inl rfl) (ev1 rfl)) ?_
  refine walk_r rfl rfl rfl (dop_call [] [] [] rfl (ev1 rfl) (ec (ev1 rfl) (ec (ev1 rfl) (ec (ev1 rfl) en))) rfl rfl (eqf_d l r) rfl rfl rfl rfl rfl rfl) ?_
  refine walk_r rfl rfl rfl (op_move (.inr rfl) (ev1 rfl)) ?_
  refine walk_nil ?_
  refine dwp_ret ?_
  refine kend0 (rs1 rfl (rv_t rfl)) rfl ?_
  rfl

end Go.Proofs.Ytfdmfklofgmpfaa
