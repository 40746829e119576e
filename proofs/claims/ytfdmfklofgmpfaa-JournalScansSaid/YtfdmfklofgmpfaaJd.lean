/- the record that stands next -/
import Derived.Test.YtfdmfklofgmpfaaJa
namespace Go.Proofs.Ytfdmfklofgmpfaa
set_option linter.unusedVariables false
set_option linter.unusedSimpArgs false
open Go.RowKit

theorem nat8 {l : List Nat} (h : isN l) : Oct.isBs (l.map fun x : Nat => (x : Int)) := fun x hx => by
  obtain ⟨n, hn, rfl⟩ := List.mem_map.1 hx
  have := h n hn
  omega
theorem map_inj : ∀ {a b : List Nat}, (a.map fun x : Nat => (x : Int)) = (b.map fun x : Nat => (x : Int)) → a = b
  | [], [], _ => rfl
  | [], _ :: _, h => by simp at h
  | _ :: _, [], h => by simp at h
  | x :: a, y :: b, h => by
    simp only [List.map_cons, List.cons.injEq, Int.natCast_inj] at h
    rw [h.1, map_inj h.2]
theorem num4_lt {l : List Nat} (h : isN l) : num4 l < 4294967296 := by
  have h1 := Oct.valD_lt (l.take 4) fun x hx => h x (List.mem_of_mem_take hx)
  have h2 : 256 ^ (l.take 4).length ≤ 256 ^ 4 := Nat.pow_le_pow_right (by decide) (by rw [List.length_take]; omega)
  unfold num4
  omega
theorem get4_ok (l : List Nat) (hn : isN l) (hL : l.length ≤ 9223372036854775807) (h : 4 ≤ l.length) : DFun Try.prog 42 [rN l, .val (.int .i64 0), .val (.int .i64 4)] [] (.tup [.val (.int .u64 (num4 l : Nat)), .val (.int .i64 0)]) [] := by
  have h1 := Oct.get_ok (l.map fun x : Nat => (x : Int)) (by rw [List.length_map]; exact hL) 0 4 (by decide) (by rw [List.length_map]; omega)
  obtain ⟨m, e1, e2, e3, e4⟩ := Oct.numN_val (w := 4) (nat8 hn) (by decide) (by rw [List.length_map]; exact h)
  rw [← List.map_take] at e1
  have e5 := map_inj e1
  rw [List.drop_zero, e4, ← e5, cast8, List.length_map] at h1
  exact h1
theorem get4_no (l : List Nat) (hL : l.length ≤ 9223372036854775807) (h : l.length < 4) : DFun Try.prog 42 [rN l, .val (.int .i64 0), .val (.int .i64 4)] [] (.tup [.val (.int .u64 0), .val (.int .i64 110)]) [] := by
  have h1 := Oct.get_short (l.map fun x : Nat => (x : Int)) (by rw [List.length_map]; exact hL) 0 4 (by decide) (by omega) (by rw [List.length_map]; omega)
  rw [cast8, List.length_map] at h1
  exact h1
theorem openJ (l : List Nat) (hn : isN l) (h : errJ l = 0) : DFun Try.prog 43 [.slf 1 (l.take (num4 l + 8)).length ((l.take (num4 l + 8)).flatMap un8)] [] (.tup [rN (l.take (num4 l + 4)), .val (.int .i64 0)]) [] := by
  obtain ⟨h1, h2, h3, h4⟩ := err_ok h
  have hl : (l.take (num4 l + 8)).length = num4 l + 8 := by rw [List.length_take]; omega
  have e : (l.take (num4 l + 8)).take ((l.take (num4 l + 8)).length - 4) = l.take (num4 l + 4) := by rw [hl, List.take_take]; congr 1; omega
  have h5 := freeze (open_o (l.take (num4 l + 8)) (fun x hx => hn x (List.mem_of_mem_take hx)) (by omega) (by omega) (by rw [e, hl]; exact h4)) rfl
  rw [e] at h5
  exact h5
theorem openJ_no (l : List Nat) (hn : isN l) (h2 : num4 l ≤ 65536) (h3 : num4 l + 8 ≤ l.length) (h4 : ¬ four (moreC 0 (l.take (num4 l + 4))) = (l.take (num4 l + 8)).drop (num4 l + 4)) : DFun Try.prog 43 [.slf 1 (l.take (num4 l + 8)).length ((l.take (num4 l + 8)).flatMap un8)] [] (.tup [.val (.slice none 0 0), .val (.int .i64 120)]) [] := by
  have hl : (l.take (num4 l + 8)).length = num4 l + 8 := by rw [List.length_take]; omega
  have e : (l.take (num4 l + 8)).take ((l.take (num4 l + 8)).length - 4) = l.take (num4 l + 4) := by rw [hl, List.take_take]; congr 1; omega
  exact open_no (l.take (num4 l + 8)) (fun x hx => hn x (List.mem_of_mem_take hx)) (by omega) (by omega) (by rw [e, hl]; exact h4)
theorem clone_n {l : List Nat} (n : Nat) (L : List Value) (h1 : n = l.length) (h2 : L = l.flatMap un8) (hl : l.length ≤ 2000000) : DFun Try.prog 7 [.slf 1 n L] [] (.arr 0) [.arr 5 1 l.length (l.flatMap un8)] := by
  subst h1 h2; exact cloneN l hl

set_option maxRecDepth 4000 in
set_option maxHeartbeats 1000000 in
theorem next_o (l : List Nat) (a : Nat) (hn : isN l) (hL : a + l.length ≤ 4611686018427387904) (h : errJ l = 0) : DFun Try.prog 31 [.loc 0 0] [.mix 63 [.slf 1 (l).length ((l).flatMap un8), .val (.int .i64 (a : Int))]] (.arr 1) [.mix 63 [.slf 1 (l.drop (num4 l + 8)).length ((l.drop (num4 l + 8)).flatMap un8), .val (.int .i64 ((a + (num4 l + 8) : Nat) : Int))], .arr 5 1 (heldJ l).length (((heldJ l)).flatMap un8)] := by
  refine dcalls_go (N := 88) 1 (by kernel_rfl) Try.func31 rfl rfl rfl (by simp only [fr0, Nat.zero_add, Nat.reduceAdd]; exact rfl) rfl fun s0 hs0 => ?_
  refine dwp_seq ?_
  have hnl := num4_lt hn
  obtain ⟨q1, q2, q3, q4⟩ := err_ok h
  refine dwp_region ?_
  refine walk_r rfl rfl rfl (op_move (.inr rfl) (ev1 rfl)) ?_
  refine walk_nil ?_
  refine dwp_seq ?_
  refine dwp_region ?_
  refine walk_r rfl rfl rfl (op_move (.inl rfl) (ev1 rfl)) ?_
  refine walk_r rfl rfl rfl (op_nc rfl (ev1 rfl) (fun s v h => by cases h; exact ⟨_, rfl⟩)) ?_
  refine walk_r rfl rfl rfl (op_fa rfl fo63_0 (ev1 rfl)) ?_
  refine walk_r rfl rfl rfl (op_fa rfl fo61_0 (ev1 rfl)) ?_
  refine walk_r rfl rfl rfl (op_ldm rfl tb22 (ev1 rfl) rfl rfl) ?_
  refine walk_r rfl rfl rfl (dop_call [] [] [] rfl (ev1 rfl) (ec (ev1 rfl) (ec (ev1 rfl) (ec (ev1 rfl) en))) rfl rfl (get4_ok l hn (by omega) (by omega)) rfl rfl rfl rfl rfl rfl) ?_
  refine walk_r rfl rfl rfl (op_move (.inl rfl) (ev1 rfl)) ?_
  refine walk_r rfl rfl rfl (op_ext rfl (ev1 rfl) rfl) ?_
  refine walk_r rfl rfl rfl (op_ext rfl (ev1 rfl) rfl) ?_
  refine walk_r rfl rfl rfl (op_move (.inr rfl) (ev1 rfl)) ?_
  refine walk_r rfl rfl rfl (op_move (.inr rfl) (ev1 rfl)) ?_
  refine walk_nil ?_
  refine dwp_seq ?_
  refine dwp_region ?_
  refine walk_r rfl rfl rfl (op_move (.inl rfl) (ev1 rfl)) ?_
  refine walk_r rfl rfl rfl (op_eql rfl (ev1 rfl) (ev1 rfl)) ?_
  refine walk_r rfl rfl rfl (dop_call [] [] [] rfl (ev1 rfl) (ec (ev1 rfl) (ec (ev1 rfl) en)) rfl rfl (jneed_ok _ _ (rfl)) rfl rfl rfl rfl rfl rfl) ?_
  refine walk_nil ?_
  refine dwp_seq ?_
  refine dwp_region ?_
  refine walk_r rfl rfl rfl (op_move (.inl rfl) (ev1 rfl)) ?_
  refine walk_r rfl rfl rfl (op_leq rfl (ev1 rfl) (ev1 rfl)) ?_
  refine walk_r rfl rfl rfl (dop_call [] [] [] rfl (ev1 rfl) (ec (ev1 rfl) (ec (ev1 rfl) en)) rfl rfl (jneed_ok _ _ (by simp; omega)) rfl rfl rfl rfl rfl rfl) ?_
  refine walk_nil ?_
  refine dwp_seq ?_
  refine dwp_region ?_
  refine walk_r rfl rfl rfl (op_move (.inl rfl) (ev1 rfl)) ?_
  refine walk_r rfl rfl rfl (op_conv' ty55 kn3 rfl (ev1 rfl) (fun _ => IntWalk.i64_in _ (by omega))) ?_
  refine walk_r rfl rfl rfl (op_add' rfl (ev1 rfl) (ev1 rfl) (fun _ => IntWalk.i64_in _ (by omega))) ?_
  refine walk_r rfl rfl rfl (op_add' rfl (ev1 rfl) (ev1 rfl) (fun _ => IntWalk.i64_in _ (by omega))) ?_
  refine walk_r rfl rfl rfl (op_move (.inr rfl) (ev1 rfl)) ?_
  refine walk_nil ?_
  refine dwp_seq ?_
  refine dwp_region ?_
  refine walk_r rfl rfl rfl (op_move (.inl rfl) (ev1 rfl)) ?_
  refine walk_r rfl rfl rfl (op_move (.inl rfl) (ev1 rfl)) ?_
  refine walk_r rfl rfl rfl (op_nc rfl (ev1 rfl) (fun s v h => by cases h; exact ⟨_, rfl⟩)) ?_
  refine walk_r rfl rfl rfl (op_fa rfl fo63_0 (ev1 rfl)) ?_
  refine walk_r rfl rfl rfl (op_fa rfl fo61_0 (ev1 rfl)) ?_
  refine walk_r rfl rfl rfl (op_ldm rfl tb22 (ev1 rfl) rfl rfl) ?_
  refine walk_r rfl rfl rfl (op_len rfl sl22 (ev1 rfl)) ?_
  refine walk_r rfl rfl rfl (op_leq rfl (ev1 rfl) (ev1 rfl)) ?_
  refine walk_r rfl rfl rfl (dop_call [] [] [] rfl (ev1 rfl) (ec (ev1 rfl) (ec (ev1 rfl) en)) rfl rfl (jneed_ok _ _ (by simp; omega)) rfl rfl rfl rfl rfl rfl) ?_
  refine walk_nil ?_
  refine dwp_seq ?_
  refine dwp_region ?_
  refine walk_r rfl rfl rfl (op_move (.inl rfl) (ev1 rfl)) ?_
  refine walk_r rfl rfl rfl (op_nc rfl (ev1 rfl) (fun s v h => by cases h; exact ⟨_, rfl⟩)) ?_
  refine walk_r rfl rfl rfl (op_fa rfl fo63_0 (ev1 rfl)) ?_
  refine walk_r rfl rfl rfl (op_fa rfl fo61_0 (ev1 rfl)) ?_
  refine walk_r rfl rfl rfl (op_ldm rfl tb22 (ev1 rfl) rfl rfl) ?_
  refine walk_r rfl rfl rfl (op_move (.inl rfl) (ev1 rfl)) ?_
  refine walk_r rfl rfl rfl (op_move (.inl rfl) (ev1 rfl)) ?_
  refine walk_r rfl rfl rfl (op_sl3f (j := num4 l + 8) rfl sl22 (ev1 rfl) (ev1 rfl) (ev1 rfl) (fun hp => by first | omega | (simp at hp; omega)) (fun hp => by first | omega | (simp at hp; omega)) (fun hp => by first | omega | (simp at hp; omega)) (fun _ => rfl)) ?_
  refine walk_r rfl rfl rfl (dop_call [] [] [] rfl (ev1 rfl) (ec (ev1 rfl) en) rfl rfl (openJ l hn h) rfl rfl rfl rfl rfl rfl) ?_
  refine walk_r rfl rfl rfl (op_move (.inl rfl) (ev1 rfl)) ?_
  refine walk_r rfl rfl rfl (op_ext rfl (ev1 rfl) rfl) ?_
  refine walk_r rfl rfl rfl (op_ext rfl (ev1 rfl) rfl) ?_
  refine walk_r rfl rfl rfl (op_move (.inr rfl) (ev1 rfl)) ?_
  refine walk_r rfl rfl rfl (op_move (.inr rfl) (ev1 rfl)) ?_
  refine walk_nil ?_
  refine dwp_seq ?_
  refine dwp_region ?_
  refine walk_r rfl rfl rfl (op_move (.inl rfl) (ev1 rfl)) ?_
  refine walk_r rfl rfl rfl (op_eql rfl (ev1 rfl) (ev1 rfl)) ?_
  refine walk_r rfl rfl rfl (op_move (.inl rfl) (ev1 rfl)) ?_
  refine walk_r rfl rfl rfl (dop_call [] [] [] rfl (ev1 rfl) (ec (ev1 rfl) (ec (ev1 rfl) en)) rfl rfl (jneed_ok _ _ (rfl)) rfl rfl rfl rfl rfl rfl) ?_
  refine walk_nil ?_
  refine dwp_seq ?_
  refine dwp_draw [([], []), ([], []), ([], []), ([], []), ([], []), ([], []), ([0], []), ([], []), ([], []), ([], []), ([], []), ([], []), ([0], []), ([], []), ([], []), ([], []), ([], []), ([], []), ([0], []), ([], []), ([], []), ([], []), ([], []), ([], []), ([], []), ([0], []), ([], []), ([], []), ([], []), ([], []), ([], []), ([0], [0]), ([], []), ([], []), ([], []), ([0], [0])] mixed (by kernel_rfl) ?_
  refine lex_r rfl rfl (op_move (.inl rfl) (ev1 rfl)) ?_
  refine lex_r rfl rfl (op_move (.inl rfl) (ev1 rfl)) ?_
  refine lex_r rfl rfl (op_move (.inl rfl) (ev1 rfl)) ?_
  refine lex_r rfl rfl (op_nc rfl (ev1 rfl) (fun s v h => by cases h; exact ⟨_, rfl⟩)) ?_
  refine lex_r rfl rfl (op_fa rfl fo63_0 (ev1 rfl)) ?_
  refine lex_r rfl rfl (op_fa rfl fo61_0 (ev1 rfl)) ?_
  refine lex_r rfl rfl (op_ldm rfl tb22 (ev1 rfl) rfl rfl) ?_
  refine lex_r rfl rfl (op_move (.inl rfl) (ev1 rfl)) ?_
  refine lex_r rfl rfl (op_move (.inl rfl) (ev1 rfl)) ?_
  refine lex_r rfl rfl (op_nc rfl (ev1 rfl) (fun s v h => by cases h; exact ⟨_, rfl⟩)) ?_
  refine lex_r rfl rfl (op_fa rfl fo63_0 (ev1 rfl)) ?_
  refine lex_r rfl rfl (op_fa rfl fo61_0 (ev1 rfl)) ?_
  refine lex_r rfl rfl (op_ldm rfl tb22 (ev1 rfl) rfl rfl) ?_
  refine lex_r rfl rfl (op_len rfl sl22 (ev1 rfl)) ?_
  refine lex_r rfl rfl (op_move (.inl rfl) (ev1 rfl)) ?_
  refine lex_r rfl rfl (op_nc rfl (ev1 rfl) (fun s v h => by cases h; exact ⟨_, rfl⟩)) ?_
  refine lex_r rfl rfl (op_fa rfl fo63_0 (ev1 rfl)) ?_
  refine lex_r rfl rfl (op_fa rfl fo61_0 (ev1 rfl)) ?_
  refine lex_r rfl rfl (op_ldm rfl tb22 (ev1 rfl) rfl rfl) ?_
  refine lex_r rfl rfl (op_len rfl sl22 (ev1 rfl)) ?_
  refine lex_r rfl rfl (op_sl3d (i := num4 l + 8) rfl sl22 (ev1 rfl) (ev1 rfl) (ev1 rfl) (ev1 rfl) (fun hp => by first | omega | (simp at hp; omega)) (fun hp => by first | omega | (simp at hp; omega)) (fun hp => by first | omega | (simp at hp; omega)) (fun hp => by first | omega | (simp at hp; omega)) (fun _ => rfl)) ?_
  refine lex_r rfl rfl (op_move (.inl rfl) (ev1 rfl)) ?_
  refine lex_r rfl rfl (op_nc rfl (ev1 rfl) (fun s v h => by cases h; exact ⟨_, rfl⟩)) ?_
  refine lex_r rfl rfl (op_fa rfl fo63_0 (ev1 rfl)) ?_
  refine lex_r rfl rfl (op_fa rfl fo61_1 (ev1 rfl)) ?_
  refine lex_r rfl rfl (op_ldm rfl tb3 (ev1 rfl) rfl rfl) ?_
  refine lex_r rfl rfl (op_move (.inl rfl) (ev1 rfl)) ?_
  refine lex_r rfl rfl (op_add' rfl (ev1 rfl) (ev1 rfl) (fun _ => IntWalk.i64_in _ (by omega))) ?_
  refine lex_r rfl rfl (op_nc rfl (ev1 rfl) (fun s v h => by cases h; exact ⟨_, rfl⟩)) ?_
  refine lex_r rfl rfl (op_fa rfl fo63_0 (ev1 rfl)) ?_
  refine lex_r rfl rfl (op_fa rfl fo61_0 (ev1 rfl)) ?_
  refine lex_s rfl rfl (op_stm rfl tb22 (ev1 rfl) (ev1 rfl) (fun s v h => by cases h <;> exact ⟨rfl, rfl⟩) rfl (by first | decide | exact Nat.le_of_ble_eq_true rfl | simp)) rfl (by simp only [upd, List.set_cons_zero, List.set_cons_succ]; exact rfl) ?_
  refine lex_r rfl rfl (op_nc rfl (ev1 rfl) (fun s v h => by cases h; exact ⟨_, rfl⟩)) ?_
  refine lex_r rfl rfl (op_fa rfl fo63_0 (ev1 rfl)) ?_
  refine lex_r rfl rfl (op_fa rfl fo61_1 (ev1 rfl)) ?_
  refine lex_s rfl rfl (op_stm rfl tb3 (ev1 rfl) (ev1 rfl) (fun s v h => by cases h <;> exact ⟨rfl, rfl⟩) rfl (by first | decide | exact Nat.le_of_ble_eq_true rfl | simp)) rfl (by simp only [upd, List.set_cons_zero, List.set_cons_succ]; exact rfl) ?_
  refine lex_nil ?_
  refine dwp_seq ?_
  have htl : (l.take (num4 l + 4)).length = num4 l + 4 := by rw [List.length_take]; omega
  refine dwp_holes 1 (by simp only [holes, List.cons_append, List.nil_append]; exact rfl) ?_
  refine dwp_region ?_
  refine walk_r rfl rfl rfl (op_move (.inl rfl) (ev1 rfl)) ?_
  refine walk_r rfl rfl rfl (op_sldr (i := 4) rfl sl22 (ev1 rfl) (bd_some (ev1 rfl)) (fun _ => by omega) (fun _ => by omega) (fun _ => rfl)) ?_
  refine walk_w rfl rfl rfl (dop_call [] [] [1] rfl (ev1 rfl) (ec (ev1 rfl) en) rfl rfl (clone_n (l := heldJ l) _ _ rfl rfl (by rw [held_len h]; omega)) rfl rfl rfl rfl rfl rfl) (by simp only [upd, List.set_cons_zero, List.set_cons_succ]; exact rfl) ?_
  refine walk_r rfl rfl rfl (op_move (.inr rfl) (ev1 rfl)) ?_
  refine walk_nil ?_
  refine dwp_ret ?_
  rw [show (a : Int) + (4 + (num4 l : Int) + 4) = ((a + (num4 l + 8) : Nat) : Int) by omega]
  refine kend [0, 1] (rs1 rfl (rv_t rfl)) rfl rfl ?_ ⟨rfl, rfl, trivial⟩
  rfl

set_option maxRecDepth 4000 in
set_option maxHeartbeats 1000000 in
theorem next_s (l : List Nat) (a : Nat) (hn : isN l) (hL : a + l.length ≤ 4611686018427387904) (h : l.length < 4) : DPan Try.prog 31 [.loc 0 0] [.mix 63 [.slf 1 (l).length ((l).flatMap un8), .val (.int .i64 (a : Int))]] (.ifc 79 (.val (.agg #[.int .i64 110]))) [.mix 63 [.slf 1 (l).length ((l).flatMap un8), .val (.int .i64 (a : Int))]] := by
  refine dcalls_go (N := 88) 1 (by kernel_rfl) Try.func31 rfl rfl rfl (by simp only [fr0, Nat.zero_add, Nat.reduceAdd]; exact rfl) rfl fun s0 hs0 => ?_
  refine dwp_seq ?_
  refine dwp_region ?_
  refine walk_r rfl rfl rfl (op_move (.inr rfl) (ev1 rfl)) ?_
  refine walk_nil ?_
  refine dwp_seq ?_
  refine dwp_region ?_
  refine walk_r rfl rfl rfl (op_move (.inl rfl) (ev1 rfl)) ?_
  refine walk_r rfl rfl rfl (op_nc rfl (ev1 rfl) (fun s v h => by cases h; exact ⟨_, rfl⟩)) ?_
  refine walk_r rfl rfl rfl (op_fa rfl fo63_0 (ev1 rfl)) ?_
  refine walk_r rfl rfl rfl (op_fa rfl fo61_0 (ev1 rfl)) ?_
  refine walk_r rfl rfl rfl (op_ldm rfl tb22 (ev1 rfl) rfl rfl) ?_
  refine walk_r rfl rfl rfl (dop_call [] [] [] rfl (ev1 rfl) (ec (ev1 rfl) (ec (ev1 rfl) (ec (ev1 rfl) en))) rfl rfl (get4_no l (by omega) h) rfl rfl rfl rfl rfl rfl) ?_
  refine walk_r rfl rfl rfl (op_move (.inl rfl) (ev1 rfl)) ?_
  refine walk_r rfl rfl rfl (op_ext rfl (ev1 rfl) rfl) ?_
  refine walk_r rfl rfl rfl (op_ext rfl (ev1 rfl) rfl) ?_
  refine walk_r rfl rfl rfl (op_move (.inr rfl) (ev1 rfl)) ?_
  refine walk_r rfl rfl rfl (op_move (.inr rfl) (ev1 rfl)) ?_
  refine walk_nil ?_
  refine dwp_seq ?_
  refine dwp_region ?_
  refine walk_r rfl rfl rfl (op_move (.inl rfl) (ev1 rfl)) ?_
  refine walk_r rfl rfl rfl (op_eql rfl (ev1 rfl) (ev1 rfl)) ?_
  refine walk_p rfl (dop_callP [] [] [] rfl (ev1 rfl) (ec (ev1 rfl) (ec (ev1 rfl) en)) rfl rfl (jneed_no _ _ (rfl)) rfl rfl rfl rfl rfl rfl) rfl ?_
  refine kpan [0] rfl rfl ?_ ⟨rfl, trivial⟩
  rfl

set_option maxRecDepth 4000 in
set_option maxHeartbeats 1000000 in
theorem next_l (l : List Nat) (a : Nat) (hn : isN l) (hL : a + l.length ≤ 4611686018427387904) (h : 4 ≤ l.length) (h2 : 65536 < num4 l) : DPan Try.prog 31 [.loc 0 0] [.mix 63 [.slf 1 (l).length ((l).flatMap un8), .val (.int .i64 (a : Int))]] (.ifc 79 (.val (.agg #[.int .i64 3]))) [.mix 63 [.slf 1 (l).length ((l).flatMap un8), .val (.int .i64 (a : Int))]] := by
  refine dcalls_go (N := 88) 1 (by kernel_rfl) Try.func31 rfl rfl rfl (by simp only [fr0, Nat.zero_add, Nat.reduceAdd]; exact rfl) rfl fun s0 hs0 => ?_
  refine dwp_seq ?_
  refine dwp_region ?_
  refine walk_r rfl rfl rfl (op_move (.inr rfl) (ev1 rfl)) ?_
  refine walk_nil ?_
  refine dwp_seq ?_
  refine dwp_region ?_
  refine walk_r rfl rfl rfl (op_move (.inl rfl) (ev1 rfl)) ?_
  refine walk_r rfl rfl rfl (op_nc rfl (ev1 rfl) (fun s v h => by cases h; exact ⟨_, rfl⟩)) ?_
  refine walk_r rfl rfl rfl (op_fa rfl fo63_0 (ev1 rfl)) ?_
  refine walk_r rfl rfl rfl (op_fa rfl fo61_0 (ev1 rfl)) ?_
  refine walk_r rfl rfl rfl (op_ldm rfl tb22 (ev1 rfl) rfl rfl) ?_
  refine walk_r rfl rfl rfl (dop_call [] [] [] rfl (ev1 rfl) (ec (ev1 rfl) (ec (ev1 rfl) (ec (ev1 rfl) en))) rfl rfl (get4_ok l hn (by omega) (by omega)) rfl rfl rfl rfl rfl rfl) ?_
  refine walk_r rfl rfl rfl (op_move (.inl rfl) (ev1 rfl)) ?_
  refine walk_r rfl rfl rfl (op_ext rfl (ev1 rfl) rfl) ?_
  refine walk_r rfl rfl rfl (op_ext rfl (ev1 rfl) rfl) ?_
  refine walk_r rfl rfl rfl (op_move (.inr rfl) (ev1 rfl)) ?_
  refine walk_r rfl rfl rfl (op_move (.inr rfl) (ev1 rfl)) ?_
  refine walk_nil ?_
  refine dwp_seq ?_
  refine dwp_region ?_
  refine walk_r rfl rfl rfl (op_move (.inl rfl) (ev1 rfl)) ?_
  refine walk_r rfl rfl rfl (op_eql rfl (ev1 rfl) (ev1 rfl)) ?_
  refine walk_r rfl rfl rfl (dop_call [] [] [] rfl (ev1 rfl) (ec (ev1 rfl) (ec (ev1 rfl) en)) rfl rfl (jneed_ok _ _ (rfl)) rfl rfl rfl rfl rfl rfl) ?_
  refine walk_nil ?_
  refine dwp_seq ?_
  refine dwp_region ?_
  refine walk_r rfl rfl rfl (op_move (.inl rfl) (ev1 rfl)) ?_
  refine walk_r rfl rfl rfl (op_leq rfl (ev1 rfl) (ev1 rfl)) ?_
  refine walk_p rfl (dop_callP [] [] [] rfl (ev1 rfl) (ec (ev1 rfl) (ec (ev1 rfl) en)) rfl rfl (jneed_no _ _ (by simp; omega)) rfl rfl rfl rfl rfl rfl) rfl ?_
  refine kpan [0] rfl rfl ?_ ⟨rfl, trivial⟩
  rfl

set_option maxRecDepth 4000 in
set_option maxHeartbeats 1000000 in
theorem next_t (l : List Nat) (a : Nat) (hn : isN l) (hL : a + l.length ≤ 4611686018427387904) (h : 4 ≤ l.length) (h2 : num4 l ≤ 65536) (h3 : l.length < num4 l + 8) : DPan Try.prog 31 [.loc 0 0] [.mix 63 [.slf 1 (l).length ((l).flatMap un8), .val (.int .i64 (a : Int))]] (.ifc 79 (.val (.agg #[.int .i64 110]))) [.mix 63 [.slf 1 (l).length ((l).flatMap un8), .val (.int .i64 (a : Int))]] := by
  refine dcalls_go (N := 88) 1 (by kernel_rfl) Try.func31 rfl rfl rfl (by simp only [fr0, Nat.zero_add, Nat.reduceAdd]; exact rfl) rfl fun s0 hs0 => ?_
  refine dwp_seq ?_
  refine dwp_region ?_
  refine walk_r rfl rfl rfl (op_move (.inr rfl) (ev1 rfl)) ?_
  refine walk_nil ?_
  refine dwp_seq ?_
  refine dwp_region ?_
  refine walk_r rfl rfl rfl (op_move (.inl rfl) (ev1 rfl)) ?_
  refine walk_r rfl rfl rfl (op_nc rfl (ev1 rfl) (fun s v h => by cases h; exact ⟨_, rfl⟩)) ?_
  refine walk_r rfl rfl rfl (op_fa rfl fo63_0 (ev1 rfl)) ?_
  refine walk_r rfl rfl rfl (op_fa rfl fo61_0 (ev1 rfl)) ?_
  refine walk_r rfl rfl rfl (op_ldm rfl tb22 (ev1 rfl) rfl rfl) ?_
  refine walk_r rfl rfl rfl (dop_call [] [] [] rfl (ev1 rfl) (ec (ev1 rfl) (ec (ev1 rfl) (ec (ev1 rfl) en))) rfl rfl (get4_ok l hn (by omega) (by omega)) rfl rfl rfl rfl rfl rfl) ?_
  refine walk_r rfl rfl rfl (op_move (.inl rfl) (ev1 rfl)) ?_
  refine walk_r rfl rfl rfl (op_ext rfl (ev1 rfl) rfl) ?_
  refine walk_r rfl rfl rfl (op_ext rfl (ev1 rfl) rfl) ?_
  refine walk_r rfl rfl rfl (op_move (.inr rfl) (ev1 rfl)) ?_
  refine walk_r rfl rfl rfl (op_move (.inr rfl) (ev1 rfl)) ?_
  refine walk_nil ?_
  refine dwp_seq ?_
  refine dwp_region ?_
  refine walk_r rfl rfl rfl (op_move (.inl rfl) (ev1 rfl)) ?_
  refine walk_r rfl rfl rfl (op_eql rfl (ev1 rfl) (ev1 rfl)) ?_
  refine walk_r rfl rfl rfl (dop_call [] [] [] rfl (ev1 rfl) (ec (ev1 rfl) (ec (ev1 rfl) en)) rfl rfl (jneed_ok _ _ (rfl)) rfl rfl rfl rfl rfl rfl) ?_
  refine walk_nil ?_
  refine dwp_seq ?_
  refine dwp_region ?_
  refine walk_r rfl rfl rfl (op_move (.inl rfl) (ev1 rfl)) ?_
  refine walk_r rfl rfl rfl (op_leq rfl (ev1 rfl) (ev1 rfl)) ?_
  refine walk_r rfl rfl rfl (dop_call [] [] [] rfl (ev1 rfl) (ec (ev1 rfl) (ec (ev1 rfl) en)) rfl rfl (jneed_ok _ _ (by simp; omega)) rfl rfl rfl rfl rfl rfl) ?_
  refine walk_nil ?_
  refine dwp_seq ?_
  refine dwp_region ?_
  refine walk_r rfl rfl rfl (op_move (.inl rfl) (ev1 rfl)) ?_
  refine walk_r rfl rfl rfl (op_conv' ty55 kn3 rfl (ev1 rfl) (fun _ => IntWalk.i64_in _ (by omega))) ?_
  refine walk_r rfl rfl rfl (op_add' rfl (ev1 rfl) (ev1 rfl) (fun _ => IntWalk.i64_in _ (by omega))) ?_
  refine walk_r rfl rfl rfl (op_add' rfl (ev1 rfl) (ev1 rfl) (fun _ => IntWalk.i64_in _ (by omega))) ?_
  refine walk_r rfl rfl rfl (op_move (.inr rfl) (ev1 rfl)) ?_
  refine walk_nil ?_
  refine dwp_seq ?_
  refine dwp_region ?_
  refine walk_r rfl rfl rfl (op_move (.inl rfl) (ev1 rfl)) ?_
  refine walk_r rfl rfl rfl (op_move (.inl rfl) (ev1 rfl)) ?_
  refine walk_r rfl rfl rfl (op_nc rfl (ev1 rfl) (fun s v h => by cases h; exact ⟨_, rfl⟩)) ?_
  refine walk_r rfl rfl rfl (op_fa rfl fo63_0 (ev1 rfl)) ?_
  refine walk_r rfl rfl rfl (op_fa rfl fo61_0 (ev1 rfl)) ?_
  refine walk_r rfl rfl rfl (op_ldm rfl tb22 (ev1 rfl) rfl rfl) ?_
  refine walk_r rfl rfl rfl (op_len rfl sl22 (ev1 rfl)) ?_
  refine walk_r rfl rfl rfl (op_leq rfl (ev1 rfl) (ev1 rfl)) ?_
  refine walk_p rfl (dop_callP [] [] [] rfl (ev1 rfl) (ec (ev1 rfl) (ec (ev1 rfl) en)) rfl rfl (jneed_no _ _ (by simp; omega)) rfl rfl rfl rfl rfl rfl) rfl ?_
  refine kpan [0] rfl rfl ?_ ⟨rfl, trivial⟩
  rfl

set_option maxRecDepth 4000 in
set_option maxHeartbeats 1000000 in
theorem next_x (l : List Nat) (a : Nat) (hn : isN l) (hL : a + l.length ≤ 4611686018427387904) (h2 : num4 l ≤ 65536) (h3 : num4 l + 8 ≤ l.length) (h4 : ¬ four (moreC 0 (l.take (num4 l + 4))) = (l.take (num4 l + 8)).drop (num4 l + 4)) : DPan Try.prog 31 [.loc 0 0] [.mix 63 [.slf 1 (l).length ((l).flatMap un8), .val (.int .i64 (a : Int))]] (.ifc 79 (.val (.agg #[.int .i64 120]))) [.mix 63 [.slf 1 (l).length ((l).flatMap un8), .val (.int .i64 (a : Int))]] := by
  refine dcalls_go (N := 88) 1 (by kernel_rfl) Try.func31 rfl rfl rfl (by simp only [fr0, Nat.zero_add, Nat.reduceAdd]; exact rfl) rfl fun s0 hs0 => ?_
  refine dwp_seq ?_
  have hnl := num4_lt hn
  refine dwp_region ?_
  refine walk_r rfl rfl rfl (op_move (.inr rfl) (ev1 rfl)) ?_
  refine walk_nil ?_
  refine dwp_seq ?_
  refine dwp_region ?_
  refine walk_r rfl rfl rfl (op_move (.inl rfl) (ev1 rfl)) ?_
  refine walk_r rfl rfl rfl (op_nc rfl (ev1 rfl) (fun s v h => by cases h; exact ⟨_, rfl⟩)) ?_
  refine walk_r rfl rfl rfl (op_fa rfl fo63_0 (ev1 rfl)) ?_
  refine walk_r rfl rfl rfl (op_fa rfl fo61_0 (ev1 rfl)) ?_
  refine walk_r rfl rfl rfl (op_ldm rfl tb22 (ev1 rfl) rfl rfl) ?_
  refine walk_r rfl rfl rfl (dop_call [] [] [] rfl (ev1 rfl) (ec (ev1 rfl) (ec (ev1 rfl) (ec (ev1 rfl) en))) rfl rfl (get4_ok l hn (by omega) (by omega)) rfl rfl rfl rfl rfl rfl) ?_
  refine walk_r rfl rfl rfl (op_move (.inl rfl) (ev1 rfl)) ?_
  refine walk_r rfl rfl rfl (op_ext rfl (ev1 rfl) rfl) ?_
  refine walk_r rfl rfl rfl (op_ext rfl (ev1 rfl) rfl) ?_
  refine walk_r rfl rfl rfl (op_move (.inr rfl) (ev1 rfl)) ?_
  refine walk_r rfl rfl rfl (op_move (.inr rfl) (ev1 rfl)) ?_
  refine walk_nil ?_
  refine dwp_seq ?_
  refine dwp_region ?_
  refine walk_r rfl rfl rfl (op_move (.inl rfl) (ev1 rfl)) ?_
  refine walk_r rfl rfl rfl (op_eql rfl (ev1 rfl) (ev1 rfl)) ?_
  refine walk_r rfl rfl rfl (dop_call [] [] [] rfl (ev1 rfl) (ec (ev1 rfl) (ec (ev1 rfl) en)) rfl rfl (jneed_ok _ _ (rfl)) rfl rfl rfl rfl rfl rfl) ?_
  refine walk_nil ?_
  refine dwp_seq ?_
  refine dwp_region ?_
  refine walk_r rfl rfl rfl (op_move (.inl rfl) (ev1 rfl)) ?_
  refine walk_r rfl rfl rfl (op_leq rfl (ev1 rfl) (ev1 rfl)) ?_
  refine walk_r rfl rfl rfl (dop_call [] [] [] rfl (ev1 rfl) (ec (ev1 rfl) (ec (ev1 rfl) en)) rfl rfl (jneed_ok _ _ (by simp; omega)) rfl rfl rfl rfl rfl rfl) ?_
  refine walk_nil ?_
  refine dwp_seq ?_
  refine dwp_region ?_
  refine walk_r rfl rfl rfl (op_move (.inl rfl) (ev1 rfl)) ?_
  refine walk_r rfl rfl rfl (op_conv' ty55 kn3 rfl (ev1 rfl) (fun _ => IntWalk.i64_in _ (by omega))) ?_
  refine walk_r rfl rfl rfl (op_add' rfl (ev1 rfl) (ev1 rfl) (fun _ => IntWalk.i64_in _ (by omega))) ?_
  refine walk_r rfl rfl rfl (op_add' rfl (ev1 rfl) (ev1 rfl) (fun _ => IntWalk.i64_in _ (by omega))) ?_
  refine walk_r rfl rfl rfl (op_move (.inr rfl) (ev1 rfl)) ?_
  refine walk_nil ?_
  refine dwp_seq ?_
  refine dwp_region ?_
  refine walk_r rfl rfl rfl (op_move (.inl rfl) (ev1 rfl)) ?_
  refine walk_r rfl rfl rfl (op_move (.inl rfl) (ev1 rfl)) ?_
  refine walk_r rfl rfl rfl (op_nc rfl (ev1 rfl) (fun s v h => by cases h; exact ⟨_, rfl⟩)) ?_
  refine walk_r rfl rfl rfl (op_fa rfl fo63_0 (ev1 rfl)) ?_
  refine walk_r rfl rfl rfl (op_fa rfl fo61_0 (ev1 rfl)) ?_
  refine walk_r rfl rfl rfl (op_ldm rfl tb22 (ev1 rfl) rfl rfl) ?_
  refine walk_r rfl rfl rfl (op_len rfl sl22 (ev1 rfl)) ?_
  refine walk_r rfl rfl rfl (op_leq rfl (ev1 rfl) (ev1 rfl)) ?_
  refine walk_r rfl rfl rfl (dop_call [] [] [] rfl (ev1 rfl) (ec (ev1 rfl) (ec (ev1 rfl) en)) rfl rfl (jneed_ok _ _ (by simp; omega)) rfl rfl rfl rfl rfl rfl) ?_
  refine walk_nil ?_
  refine dwp_seq ?_
  refine dwp_region ?_
  refine walk_r rfl rfl rfl (op_move (.inl rfl) (ev1 rfl)) ?_
  refine walk_r rfl rfl rfl (op_nc rfl (ev1 rfl) (fun s v h => by cases h; exact ⟨_, rfl⟩)) ?_
  refine walk_r rfl rfl rfl (op_fa rfl fo63_0 (ev1 rfl)) ?_
  refine walk_r rfl rfl rfl (op_fa rfl fo61_0 (ev1 rfl)) ?_
  refine walk_r rfl rfl rfl (op_ldm rfl tb22 (ev1 rfl) rfl rfl) ?_
  refine walk_r rfl rfl rfl (op_move (.inl rfl) (ev1 rfl)) ?_
  refine walk_r rfl rfl rfl (op_move (.inl rfl) (ev1 rfl)) ?_
  refine walk_r rfl rfl rfl (op_sl3f (j := num4 l + 8) rfl sl22 (ev1 rfl) (ev1 rfl) (ev1 rfl) (fun hp => by first | omega | (simp at hp; omega)) (fun hp => by first | omega | (simp at hp; omega)) (fun hp => by first | omega | (simp at hp; omega)) (fun _ => rfl)) ?_
  refine walk_r rfl rfl rfl (dop_call [] [] [] rfl (ev1 rfl) (ec (ev1 rfl) en) rfl rfl (openJ_no l hn h2 h3 h4) rfl rfl rfl rfl rfl rfl) ?_
  refine walk_r rfl rfl rfl (op_move (.inl rfl) (ev1 rfl)) ?_
  refine walk_r rfl rfl rfl (op_ext rfl (ev1 rfl) rfl) ?_
  refine walk_r rfl rfl rfl (op_ext rfl (ev1 rfl) rfl) ?_
  refine walk_r rfl rfl rfl (op_move (.inr rfl) (ev1 rfl)) ?_
  refine walk_r rfl rfl rfl (op_move (.inr rfl) (ev1 rfl)) ?_
  refine walk_nil ?_
  refine dwp_seq ?_
  refine dwp_region ?_
  refine walk_r rfl rfl rfl (op_move (.inl rfl) (ev1 rfl)) ?_
  refine walk_r rfl rfl rfl (op_eql rfl (ev1 rfl) (ev1 rfl)) ?_
  refine walk_r rfl rfl rfl (op_move (.inl rfl) (ev1 rfl)) ?_
  refine walk_p rfl (dop_callP [] [] [] rfl (ev1 rfl) (ec (ev1 rfl) (ec (ev1 rfl) en)) rfl rfl (jneed_no _ _ (rfl)) rfl rfl rfl rfl rfl rfl) rfl ?_
  refine kpan [0] rfl rfl ?_ ⟨rfl, trivial⟩
  rfl

theorem next_no (l : List Nat) (a : Nat) (hn : isN l) (hL : a + l.length ≤ 4611686018427387904) (h : errJ l ≠ 0) : DPan Try.prog 31 [.loc 0 0] [.mix 63 [rN l, .val (.int .i64 (a : Int))]] (.ifc 79 (.val (.agg #[.int .i64 (errJ l)]))) [.mix 63 [rN l, .val (.int .i64 (a : Int))]] := by
  by_cases h1 : l.length < 4
  · rw [err_s h1]; exact next_s l a hn hL h1
  · by_cases h2 : 65536 < num4 l
    · rw [err_l (by omega) h2]; exact next_l l a hn hL (by omega) h2
    · by_cases h3 : l.length < num4 l + 8
      · rw [err_t (by omega) (by omega) h3]; exact next_t l a hn hL (by omega) (by omega) h3
      · by_cases h4 : four (moreC 0 (l.take (num4 l + 4))) = (l.take (num4 l + 8)).drop (num4 l + 4)
        · exact absurd (err_of (by omega) (by omega) (by omega) h4) h
        · rw [err_x (by omega) (by omega) (by omega) h4]; exact next_x l a hn hL (by omega) (by omega) h4

theorem next_f (l : List Nat) (a : Nat) (hn : isN l) (hL : a + l.length ≤ 4611686018427387904) (h : errJ l = 0) : DFun Try.prog 31 [.loc 0 0] [.mix 63 [rN l, .val (.int .i64 (a : Int))]] (rN (heldJ l)) [.mix 63 [rN (l.drop (num4 l + 8)), .val (.int .i64 ((a + (num4 l + 8) : Nat) : Int))]] :=
  freezeN (m := 1) (σ := [0]) (next_o l a hn hL h) rfl rfl rfl ⟨rfl, trivial⟩

set_option maxRecDepth 4000 in
set_option maxHeartbeats 1000000 in
theorem try1_idle (r : List Nat) (a e : Int) : DDef Try.prog 62 [.loc 0 0] [.mix 75 [rN r, .val (.int .i64 a), .val (.int .i64 e)]] none none [.mix 75 [rN r, .val (.int .i64 a), .val (.int .i64 0)]] := by
  refine ddef_go1 (dr := .tup []) (t := 1) (N := 4) 1 (by kernel_rfl) Try.func62 rfl rfl rfl (by simp only [fr0, Nat.zero_add, Nat.reduceAdd]; exact rfl) rfl rfl rfl rfl rfl fun s0 hs0 => ?_
  refine walk_r rfl rfl rfl (dop_call [] [] [] rfl (ev1 rfl) (ec (ev1 rfl) en) rfl rfl (jtold_no) rfl rfl rfl rfl rfl rfl) ?_
  refine walk_r rfl rfl rfl (op_fa rfl fo75_2 (ev1 rfl)) ?_
  refine walk_s rfl rfl (op_stm rfl tb35 (ev1 rfl) (ev1 rfl) (fun s v h => by cases h <;> exact ⟨rfl, rfl⟩) rfl (by first | decide | exact Nat.le_of_ble_eq_true rfl | simp)) (by simp only [upd, List.set_cons_zero, List.set_cons_succ]; exact rfl) ?_
  refine walk_nil ?_
  refine kend [0] (res_none rfl) rfl rfl ?_ ⟨rfl, trivial⟩
  rfl

set_option maxRecDepth 4000 in
set_option maxHeartbeats 1000000 in
theorem try1_caught (a e n : Int) : DDef Try.prog 62 [.loc 0 0] [.mix 75 [.val (.slice none 0 0), .val (.int .i64 a), .val (.int .i64 e)]] (some (.ifc 79 (.val (.agg #[.int .i64 n])))) none [.mix 75 [.val (.slice none 0 0), .val (.int .i64 a), .val (.int .i64 n)]] := by
  refine ddef_go1 (dr := .tup []) (t := 1) (N := 4) 1 (by kernel_rfl) Try.func62 rfl rfl rfl (by simp only [fr0, Nat.zero_add, Nat.reduceAdd]; exact rfl) rfl rfl rfl rfl rfl fun s0 hs0 => ?_
  refine walk_r rfl rfl rfl (dop_call [] [] [] rfl (ev1 rfl) (ec (ev1 rfl) en) rfl rfl (jtold_w n) rfl rfl rfl rfl rfl rfl) ?_
  refine walk_r rfl rfl rfl (op_fa rfl fo75_2 (ev1 rfl)) ?_
  refine walk_s rfl rfl (op_stm rfl tb35 (ev1 rfl) (ev1 rfl) (fun s v h => by cases h <;> exact ⟨rfl, rfl⟩) rfl (by first | decide | exact Nat.le_of_ble_eq_true rfl | simp)) (by simp only [upd, List.set_cons_zero, List.set_cons_succ]; exact rfl) ?_
  refine walk_nil ?_
  refine kend [0] (res_none rfl) rfl rfl ?_ ⟨rfl, trivial⟩
  rfl

set_option maxRecDepth 4000 in
set_option maxHeartbeats 1000000 in
theorem try_ok (l : List Nat) (a : Nat) (hn : isN l) (hL : a + l.length ≤ 4611686018427387904) (h : errJ l = 0) : DFun Try.prog 49 [.loc 0 0] [.mix 63 [.slf 1 (l).length ((l).flatMap un8), .val (.int .i64 (a : Int))]] (.agg [rN (heldJ l), .val (.int .i64 (a : Int)), .val (.int .i64 0)]) [.mix 63 [.slf 1 (l.drop (num4 l + 8)).length ((l.drop (num4 l + 8)).flatMap un8), .val (.int .i64 ((a + (num4 l + 8) : Nat) : Int))]] := by
  refine dcalls_body (N := 14) 1 (by kernel_rfl) Try.func49 rfl rfl rfl (by simp only [fr0, Nat.zero_add, Nat.reduceAdd]; exact rfl) rfl fun s0 hs0 => ?_
  refine dbody_seq rfl hs0 ?_
  refine dwp_holes 1 (by simp only [holes, List.cons_append, List.nil_append]; exact rfl) ?_
  refine dwp_region ?_
  refine walk_w rfl rfl rfl (op_alloc 1 rfl zr75 rfl) (by simp only [upd, List.set_cons_zero, List.set_cons_succ]; exact rfl) ?_
  refine walk_nil ?_
  refine dbody_defer (l0 := [_]) rfl rfl rfl rfl rfl hs0 ?_
  refine walk_r rfl rfl rfl (op_mkf rfl en (ec (ev1 rfl) en)) ?_
  refine walk_nil ⟨_, _, _, 2, ev1 rfl, Nat.le_trans hs0 (by decide), rfl, ?_⟩
  have hs1 : s0.M.length ≤ 2 := Nat.le_trans hs0 (by decide)
  refine dbody_end rfl hs0 ?_
  refine dwp_seq ?_
  refine dwp_reb 1 reb_mix rfl rfl (by simp only [List.cons_append, List.nil_append, List.set_cons_zero, List.set_cons_succ, List.map]; exact rfl) ?_
  refine dwp_region ?_
  refine walk_r rfl rfl rfl (op_move (.inl rfl) (ev1 rfl)) ?_
  refine walk_r rfl rfl rfl (op_nc rfl (ev1 rfl) (fun s v h => by cases h; exact ⟨_, rfl⟩)) ?_
  refine walk_r rfl rfl rfl (op_fa rfl fo63_0 (ev1 rfl)) ?_
  refine walk_r rfl rfl rfl (op_fa rfl fo61_1 (ev1 rfl)) ?_
  refine walk_r rfl rfl rfl (op_ldm rfl tb3 (ev1 rfl) rfl rfl) ?_
  refine walk_r rfl rfl rfl (op_fa rfl fo75_1 (ev1 rfl)) ?_
  refine walk_s rfl rfl (op_stm rfl tb3 (ev1 rfl) (ev1 rfl) (fun s v h => by cases h <;> exact ⟨rfl, rfl⟩) rfl (by first | decide | exact Nat.le_of_ble_eq_true rfl | simp)) (by simp only [upd, List.set_cons_zero, List.set_cons_succ]; exact rfl) ?_
  refine walk_nil ?_
  refine dwp_seq ?_
  refine dwp_region ?_
  refine walk_r rfl rfl rfl (op_move (.inl rfl) (ev1 rfl)) ?_
  refine walk_w rfl rfl rfl (dop_call [0] [] [] rfl (ev1 rfl) (ec (ev1 rfl) en) rfl rfl (next_f l a hn hL h) rfl rfl rfl rfl rfl rfl) (by simp only [upd, List.set_cons_zero, List.set_cons_succ]; exact rfl) ?_
  refine walk_r rfl rfl rfl (op_fa rfl fo75_0 (ev1 rfl)) ?_
  refine walk_s rfl rfl (op_stm rfl tb22 (ev1 rfl) (ev1 rfl) (fun s v h => by cases h <;> exact ⟨rfl, rfl⟩) rfl (by first | decide | exact Nat.le_of_ble_eq_true rfl | simp)) (by simp only [upd, List.set_cons_zero, List.set_cons_succ]; exact rfl) ?_
  refine walk_nil ?_
  refine dwp_seq ?_
  refine dwp_region ?_
  refine walk_r rfl rfl rfl (op_ldmw rfl tb75 (ev1 rfl) rfl rfl) ?_
  refine walk_s rfl rfl (op_stmw rfl tb75 (ev1 rfl) (ev1 rfl) rfl rfl rfl rfl) (by simp only [upd, List.set_cons_zero, List.set_cons_succ]; exact rfl) ?_
  refine walk_nil ?_
  refine dwp_ret ?_
  refine kdef (dturn_idle [1] [] rfl rfl (try1_idle _ _ _) rfl rfl rfl rfl rfl) ?_
  refine kend [0] (rs1 rfl (rv_mw tb75 rfl rfl rfl)) rfl rfl ?_ ⟨rfl, trivial⟩
  rfl

set_option maxRecDepth 4000 in
set_option maxHeartbeats 1000000 in
theorem try_no (l : List Nat) (a : Nat) (hn : isN l) (hL : a + l.length ≤ 4611686018427387904) (h : errJ l ≠ 0) : DFun Try.prog 49 [.loc 0 0] [.mix 63 [.slf 1 (l).length ((l).flatMap un8), .val (.int .i64 (a : Int))]] (.agg [.val (.slice none 0 0), .val (.int .i64 (a : Int)), .val (.int .i64 (errJ l))]) [.mix 63 [.slf 1 (l).length ((l).flatMap un8), .val (.int .i64 (a : Int))]] := by
  refine dcalls_body (N := 14) 1 (by kernel_rfl) Try.func49 rfl rfl rfl (by simp only [fr0, Nat.zero_add, Nat.reduceAdd]; exact rfl) rfl fun s0 hs0 => ?_
  refine dbody_seq rfl hs0 ?_
  refine dwp_holes 1 (by simp only [holes, List.cons_append, List.nil_append]; exact rfl) ?_
  refine dwp_region ?_
  refine walk_w rfl rfl rfl (op_alloc 1 rfl zr75 rfl) (by simp only [upd, List.set_cons_zero, List.set_cons_succ]; exact rfl) ?_
  refine walk_nil ?_
  refine dbody_defer (l0 := [_]) rfl rfl rfl rfl rfl hs0 ?_
  refine walk_r rfl rfl rfl (op_mkf rfl en (ec (ev1 rfl) en)) ?_
  refine walk_nil ⟨_, _, _, 2, ev1 rfl, Nat.le_trans hs0 (by decide), rfl, ?_⟩
  have hs1 : s0.M.length ≤ 2 := Nat.le_trans hs0 (by decide)
  refine dbody_end rfl hs0 ?_
  refine dwp_seq ?_
  refine dwp_reb 1 reb_mix rfl rfl (by simp only [List.cons_append, List.nil_append, List.set_cons_zero, List.set_cons_succ, List.map]; exact rfl) ?_
  refine dwp_region ?_
  refine walk_r rfl rfl rfl (op_move (.inl rfl) (ev1 rfl)) ?_
  refine walk_r rfl rfl rfl (op_nc rfl (ev1 rfl) (fun s v h => by cases h; exact ⟨_, rfl⟩)) ?_
  refine walk_r rfl rfl rfl (op_fa rfl fo63_0 (ev1 rfl)) ?_
  refine walk_r rfl rfl rfl (op_fa rfl fo61_1 (ev1 rfl)) ?_
  refine walk_r rfl rfl rfl (op_ldm rfl tb3 (ev1 rfl) rfl rfl) ?_
  refine walk_r rfl rfl rfl (op_fa rfl fo75_1 (ev1 rfl)) ?_
  refine walk_s rfl rfl (op_stm rfl tb3 (ev1 rfl) (ev1 rfl) (fun s v h => by cases h <;> exact ⟨rfl, rfl⟩) rfl (by first | decide | exact Nat.le_of_ble_eq_true rfl | simp)) (by simp only [upd, List.set_cons_zero, List.set_cons_succ]; exact rfl) ?_
  refine walk_nil ?_
  refine dwp_seq ?_
  refine dwp_region ?_
  refine walk_r rfl rfl rfl (op_move (.inl rfl) (ev1 rfl)) ?_
  refine walk_p rfl (dop_callP [0] [] [] rfl (ev1 rfl) (ec (ev1 rfl) en) rfl rfl (next_no l a hn hL h) rfl rfl rfl rfl rfl rfl) rfl ?_
  refine kdef (dturn_caught [1] [] rfl rfl rfl (try1_caught _ _ _) rfl rfl rfl rfl rfl) ?_
  refine kend [0] (rs1 rfl (rv_mw tb75 rfl rfl rfl)) rfl rfl ?_ ⟨rfl, trivial⟩
  rfl

set_option maxRecDepth 4000 in
set_option maxHeartbeats 1000000 in
theorem jtell_d (l : List Nat) (a : Int) : DFun Try.prog 39 [.loc 0 0] [.mix 63 [.slf 1 (l).length ((l).flatMap un8), .val (.int .i64 a)]] (.fn (.func 50) [] [.loc 1 0]) [.mix 63 [.slf 1 (l).length ((l).flatMap un8), .val (.int .i64 a)], .mix 88 [.fn (.func 49) [.loc 0 0] []]] := by
  refine dcalls_go (N := 7) 1 (by kernel_rfl) Try.func39 rfl rfl rfl (by simp only [fr0, Nat.zero_add, Nat.reduceAdd]; exact rfl) rfl fun s0 hs0 => ?_
  refine dwp_seq ?_
  refine dwp_region ?_
  refine walk_r rfl rfl rfl (op_move (.inr rfl) (ev1 rfl)) ?_
  refine walk_nil ?_
  refine dwp_seq ?_
  refine dwp_holes 1 (by simp only [holes, List.cons_append, List.nil_append]; exact rfl) ?_
  refine dwp_region ?_
  refine walk_r rfl rfl rfl (op_move (.inl rfl) (ev1 rfl)) ?_
  refine walk_r rfl rfl rfl (op_mkf rfl (ec (ev1 rfl) en) en) ?_
  refine walk_w rfl rfl rfl (op_alloc 1 rfl zr88 rfl) (by simp only [upd, List.set_cons_zero, List.set_cons_succ]; exact rfl) ?_
  refine walk_s rfl rfl (op_stfm rfl tb88 (ev1 rfl) (ev1 rfl) (fun s v h => by cases h <;> exact ⟨rfl, rfl⟩) rfl (by decide)) (by simp only [upd, List.set_cons_zero, List.set_cons_succ]; exact rfl) ?_
  refine walk_nil ?_
  refine dwp_seq ?_
  refine dwp_region ?_
  refine walk_r rfl rfl rfl (op_mkf rfl en (ec (ev1 rfl) en)) ?_
  refine walk_r rfl rfl rfl (op_move (.inr rfl) (ev1 rfl)) ?_
  refine walk_nil ?_
  refine dwp_ret ?_
  refine kend [0, 1] (rs1 rfl (rv_t rfl)) rfl rfl ?_ ⟨rfl, rfl, trivial⟩
  rfl

noncomputable def hlA : Code := rfA (pth [1, 0, 1, 1, 0, 1, 0] (bodyOf Try.f24))
noncomputable def hlB : Code := rfB (pth [1, 0, 1, 1, 0, 1, 0] (bodyOf Try.f24))

def inN (n : Nat) : List Value := [.int .i64 (n : Int)]
theorem inN_len (n : Nat) : (inN n).length = 1 := rfl

set_option maxRecDepth 4000 in
set_option maxHeartbeats 1000000 in
theorem hRound_go (R : List (List Nat)) (Q : List Nat) (r : List Nat) (a : Nat) (e : Int) (hR : R.length ≤ 1000000000) (hQ : Q.length ≤ 1000000000) : DRound Try.prog 0 [.agg [rN r, .val (.int .i64 (a : Int)), .val (.int .i64 0)]] [.lp 38 [(2, .loc 1 0), (3, .loc 3 0), (5, .loc 5 0)] #[14] hlA hlB .ready none, .mix 25 [.arr 2], .arx 22 1 (R).length ((R).flatMap fun p => [rN p]), .mix 28 [.arr 4], .arr 3 1 (Q).length ((Q).flatMap inN), .flat 35 [.int .i64 e]] true [.lp 38 [(2, .loc 1 0), (3, .loc 3 0), (5, .loc 5 0)] #[14] hlA hlB .ready none, .mix 25 [.arr 6], .gone, .mix 28 [.arr 7], .gone, .flat 35 [.int .i64 e], .arx 22 1 ((R ++ [r])).length (((R ++ [r])).flatMap fun p => [rN p]), .arr 3 1 ((Q ++ [a])).length (((Q ++ [a])).flatMap inN)] := by
  refine dround_go 6 rfl rfl (by simp) rfl rfl fun s0 hs0 => ?_
  refine dwp_holes 1 (by simp only [holes, List.cons_append, List.nil_append]; exact rfl) ?_
  refine dwp_region ?_
  refine walk_w rfl rfl rfl (op_alloc 6 rfl zr75 rfl) (by simp only [upd, List.set_cons_zero, List.set_cons_succ]; exact rfl) ?_
  refine walk_s rfl rfl (op_stam rfl tb75 (ev1 rfl) (ev1 rfl) rfl rfl rfl rfl) (by simp only [upd, List.set_cons_zero, List.set_cons_succ]; exact rfl) ?_
  refine walk_nil ?_
  refine ⟨rfl, ?_⟩
  simp only [List.set_cons_zero, List.set_cons_succ]
  refine dwp_block ?_
  refine dwp_seq ?_
  refine dwp_seq ?_
  refine dwp_region ?_
  refine walk_r rfl rfl rfl (op_fa rfl fo75_2 (ev1 rfl)) ?_
  refine walk_r rfl rfl rfl (op_ldm rfl tb35 (ev1 rfl) rfl rfl) ?_
  refine walk_r rfl rfl rfl (op_neq rfl (ev1 rfl) (ev1 rfl)) ?_
  refine walk_nil ?_
  refine dwp_if_f rfl (rfl) ?_
  refine dwp_skip ?_
  refine dwp_holes 2 (by simp only [holes, List.cons_append, List.nil_append]; exact rfl) ?_
  refine dwp_draw [([1], []), ([], []), ([6], []), ([], []), ([2, 7], [2, 7]), ([3], []), ([], []), ([6], []), ([], []), ([4, 8], [4, 8]), ([1], [1]), ([3], [3])] mixed (by kernel_rfl) ?_
  refine lex_r rfl rfl (op_ldm rfl tb25 (ev1 rfl) rfl rfl) ?_
  refine lex_r rfl rfl (op_fa rfl fo75_0 (ev1 rfl)) ?_
  refine lex_r rfl rfl (op_ldm rfl tb22 (ev1 rfl) rfl rfl) ?_
  refine lex_r rfl rfl (op_bsm (ps := [(0, .tmp 22)]) rfl sl25 zr22 rfl (ec (ev1 rfl) en) rfl (by decide)) ?_
  refine lex_w rfl rfl (op_appx (j := 7) rfl sl25 zr22 rfl (ev1 rfl) (ev1 rfl) rfl rfl rfl (fun _ => ⟨by omega, by omega⟩)) rfl (by simp only [upd, List.set_cons_zero, List.set_cons_succ]; exact rfl) ?_
  refine lex_r rfl rfl (op_ldm rfl tb28 (ev1 rfl) rfl rfl) ?_
  refine lex_r rfl rfl (op_fa rfl fo75_1 (ev1 rfl)) ?_
  refine lex_r rfl rfl (op_ldm rfl tb3 (ev1 rfl) rfl rfl) ?_
  refine lex_r rfl rfl (op_bs (ps := [(0, .tmp 27)]) rfl sl28 zr3 rfl (vc (ev1 rfl) vn) rfl (by decide) (by decide)) ?_
  refine lex_w rfl rfl (op_app (j := 8) rfl sl28 zr3 rfl (ev1 rfl) (ev1 rfl) src_slf rfl rfl (fun _ => rfl) (fun _ => ⟨by omega, by omega⟩)) rfl (by simp only [upd, List.set_cons_zero, List.set_cons_succ]; exact rfl) ?_
  refine lex_s rfl rfl (op_stm rfl tb25 (ev1 rfl) (ev1 rfl) (fun s v h => by cases h <;> exact ⟨rfl, rfl⟩) rfl (by first | decide | exact Nat.le_of_ble_eq_true rfl | simp)) rfl (by simp only [upd, List.set_cons_zero, List.set_cons_succ]; exact rfl) ?_
  refine lex_s rfl rfl (op_stm rfl tb28 (ev1 rfl) (ev1 rfl) (fun s v h => by cases h <;> exact ⟨rfl, rfl⟩) rfl (by first | decide | exact Nat.le_of_ble_eq_true rfl | simp)) rfl (by simp only [upd, List.set_cons_zero, List.set_cons_succ]; exact rfl) ?_
  refine lex_nil ?_
  refine ⟨rfl, rfl, [0, 1, 2, 3, 4, 5, 7, 8], rfl, ⟨rfl, rfl, rfl, rfl, rfl, rfl, arx_fits (by simp) (by rw [List.flatMap_append]; rfl) (vwL_flat (fun _ => rfl) _), arr_eq (by simp) (by rw [List.flatMap_append]; rfl), trivial⟩⟩

set_option maxRecDepth 4000 in
set_option maxHeartbeats 1000000 in
theorem hRound_stop (R : List (List Nat)) (Q : List Nat) (a : Nat) (e : Int) (he : e ≠ 0) : DRound Try.prog 0 [.agg [.val (.slice none 0 0), .val (.int .i64 (a : Int)), .val (.int .i64 e)]] [.lp 38 [(2, .loc 1 0), (3, .loc 3 0), (5, .loc 5 0)] #[14] hlA hlB .ready none, .mix 25 [.arr 2], .arx 22 1 (R).length ((R).flatMap fun p => [rN p]), .mix 28 [.arr 4], .arr 3 1 (Q).length ((Q).flatMap inN), .flat 35 [.int .i64 0]] false [.lp 38 [(2, .loc 1 0), (3, .loc 3 0), (5, .loc 5 0)] #[14] hlA hlB .done (some (.exit 0)), .mix 25 [.arr 2], .arx 22 1 (R).length ((R).flatMap fun p => [rN p]), .mix 28 [.arr 4], .arr 3 1 (Q).length ((Q).flatMap inN), .flat 35 [.int .i64 e]] := by
  refine dround_go 6 rfl rfl (by simp) rfl rfl fun s0 hs0 => ?_
  refine dwp_holes 1 (by simp only [holes, List.cons_append, List.nil_append]; exact rfl) ?_
  refine dwp_region ?_
  refine walk_w rfl rfl rfl (op_alloc 6 rfl zr75 rfl) (by simp only [upd, List.set_cons_zero, List.set_cons_succ]; exact rfl) ?_
  refine walk_s rfl rfl (op_stam rfl tb75 (ev1 rfl) (ev1 rfl) rfl rfl rfl rfl) (by simp only [upd, List.set_cons_zero, List.set_cons_succ]; exact rfl) ?_
  refine walk_nil ?_
  refine ⟨rfl, ?_⟩
  simp only [List.set_cons_zero, List.set_cons_succ]
  refine dwp_block ?_
  refine dwp_seq ?_
  refine dwp_seq ?_
  refine dwp_region ?_
  refine walk_r rfl rfl rfl (op_fa rfl fo75_2 (ev1 rfl)) ?_
  refine walk_r rfl rfl rfl (op_ldm rfl tb35 (ev1 rfl) rfl rfl) ?_
  refine walk_r rfl rfl rfl (op_neq rfl (ev1 rfl) (ev1 rfl)) ?_
  refine walk_nil ?_
  refine dwp_if_t rfl (by simp [he]) ?_
  refine dwp_seq ?_
  refine dwp_region ?_
  refine walk_r rfl rfl rfl (op_fa rfl fo75_2 (ev1 rfl)) ?_
  refine walk_r rfl rfl rfl (op_ldm rfl tb35 (ev1 rfl) rfl rfl) ?_
  refine walk_s rfl rfl (op_stwi rfl tb35 (ev1 rfl) (ev1 rfl) rfl) (by simp only [upd, List.set_cons_zero, List.set_cons_succ]; exact rfl) ?_
  refine walk_nil ?_
  refine dwp_exit ?_
  refine ⟨rfl, rfl, [0, 1, 2, 3, 4, 5], rfl, ⟨rfl, rfl, arx_fits rfl rfl (vwL_flat (fun _ => rfl) _), rfl, rfl, rfl, trivial⟩⟩

set_option maxRecDepth 4000 in
set_option maxHeartbeats 1000000 in
theorem hRound_none (a : Nat) (e : Int) (he : e ≠ 0) : DRound Try.prog 0 [.agg [.val (.slice none 0 0), .val (.int .i64 (a : Int)), .val (.int .i64 e)]] [.lp 38 [(2, .loc 1 0), (3, .loc 2 0), (5, .loc 3 0)] #[14] hlA hlB .ready none, .flat 25 [.slice none 0 0], .flat 28 [.slice none 0 0], .flat 35 [.int .i64 0]] false [.lp 38 [(2, .loc 1 0), (3, .loc 2 0), (5, .loc 3 0)] #[14] hlA hlB .done (some (.exit 0)), .flat 25 [.slice none 0 0], .flat 28 [.slice none 0 0], .flat 35 [.int .i64 e]] := by
  refine dround_go 4 rfl rfl (by simp) rfl rfl fun s0 hs0 => ?_
  refine dwp_holes 1 (by simp only [holes, List.cons_append, List.nil_append]; exact rfl) ?_
  refine dwp_region ?_
  refine walk_w rfl rfl rfl (op_alloc 4 rfl zr75 rfl) (by simp only [upd, List.set_cons_zero, List.set_cons_succ]; exact rfl) ?_
  refine walk_s rfl rfl (op_stam rfl tb75 (ev1 rfl) (ev1 rfl) rfl rfl rfl rfl) (by simp only [upd, List.set_cons_zero, List.set_cons_succ]; exact rfl) ?_
  refine walk_nil ?_
  refine ⟨rfl, ?_⟩
  simp only [List.set_cons_zero, List.set_cons_succ]
  refine dwp_block ?_
  refine dwp_seq ?_
  refine dwp_seq ?_
  refine dwp_region ?_
  refine walk_r rfl rfl rfl (op_fa rfl fo75_2 (ev1 rfl)) ?_
  refine walk_r rfl rfl rfl (op_ldm rfl tb35 (ev1 rfl) rfl rfl) ?_
  refine walk_r rfl rfl rfl (op_neq rfl (ev1 rfl) (ev1 rfl)) ?_
  refine walk_nil ?_
  refine dwp_if_t rfl (by simp [he]) ?_
  refine dwp_seq ?_
  refine dwp_region ?_
  refine walk_r rfl rfl rfl (op_fa rfl fo75_2 (ev1 rfl)) ?_
  refine walk_r rfl rfl rfl (op_ldm rfl tb35 (ev1 rfl) rfl rfl) ?_
  refine walk_s rfl rfl (op_stwi rfl tb35 (ev1 rfl) (ev1 rfl) rfl) (by simp only [upd, List.set_cons_zero, List.set_cons_succ]; exact rfl) ?_
  refine walk_nil ?_
  refine dwp_exit ?_
  refine ⟨rfl, rfl, [0, 1, 2, 3], rfl, ⟨rfl, rfl, rfl, rfl, trivial⟩⟩

end Go.Proofs.Ytfdmfklofgmpfaa
