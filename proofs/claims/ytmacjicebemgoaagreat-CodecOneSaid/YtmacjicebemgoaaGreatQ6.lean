/- which operations may be, kind by kind; laying: numbers and ids; laying: fields; laying: ids, vectors, operations; laying: operations, and rows of them; laying: rows of operations; taking: numbers; taking: colours and ids; A region that draws its order, one of whose operations panics, beside others that only read. Conditions: the kernel's look at its edges; taking: stamps; taking: vectors, operations; taking: rows of operations; what each function takes. No condition. -/
import Derived.Test.YtmacjicebemgoaaGreatQ5
import Derived.Test.YtmacjicebemgoaaGreatRows
namespace Go.Proofs.YtmacjicebemgoaaGreat
set_option linter.unusedVariables false
set_option linter.unusedSimpArgs false
open Go.RowKit
theorem opc_1 (o : OpM) (h : o.kd = 1) : DFun Tryz.prog 29 [.agg (opD o)] [] (.val (.int .i64 (errOr (opB o) 220))) [] := opc_c12 o (0) (Or.inl h) (by rw [h]; exact kindOf_1)
theorem opc_2 (o : OpM) (h : o.kd = 2) : DFun Tryz.prog 29 [.agg (opD o)] [] (.val (.int .i64 (errOr (opB o) 220))) [] := opc_c12 o (0) (Or.inr h) (by rw [h]; exact kindOf_2)
theorem opc_3 (o : OpM) (h : o.kd = 3) : DFun Tryz.prog 29 [.agg (opD o)] [] (.val (.int .i64 (errOr (opB o) 220))) [] := opc_c34 o (138) (Or.inl h) (by rw [h]; exact kindOf_3)
theorem opc_4 (o : OpM) (h : o.kd = 4) : DFun Tryz.prog 29 [.agg (opD o)] [] (.val (.int .i64 (errOr (opB o) 220))) [] := opc_c34 o (140) (Or.inr h) (by rw [h]; exact kindOf_4)
theorem opc_5 (o : OpM) (h : o.kd = 5) : DFun Tryz.prog 29 [.agg (opD o)] [] (.val (.int .i64 (errOr (opB o) 220))) [] := opc_c5 o (0) h (by rw [h]; exact kindOf_5)
theorem opc_6 (o : OpM) (h : o.kd = 6) : DFun Tryz.prog 29 [.agg (opD o)] [] (.val (.int .i64 (errOr (opB o) 220))) [] := opc_c6 o (0) h (by rw [h]; exact kindOf_6)
theorem opc_7 (o : OpM) (h : o.kd = 7) : DFun Tryz.prog 29 [.agg (opD o)] [] (.val (.int .i64 (errOr (opB o) 220))) [] := opc_c78 o (0) (Or.inl h) (by rw [h]; exact kindOf_7)
theorem opc_8 (o : OpM) (h : o.kd = 8) : DFun Tryz.prog 29 [.agg (opD o)] [] (.val (.int .i64 (errOr (opB o) 220))) [] := opc_c78 o (0) (Or.inr h) (by rw [h]; exact kindOf_8)
set_option maxRecDepth 4000 in
set_option maxHeartbeats 1000000 in
theorem opc_no (o : OpM) (hk : ¬ (1 ≤ o.kd ∧ o.kd ≤ 8)) : DFun Tryz.prog 29 [.agg (opD o)] [] (.val (.int .i64 (errOr (opB o) 220))) [] := by
  refine zal (N := 54) 0 (by kernel_rfl) Tryz.func29 rfl rfl rfl (by simp only [fr0, Nat.zero_add, Nat.reduceAdd]; exact rfl) rfl fun s0 hs0 => ?_
  refine zaf ?_
  refine zaj 1 (by simp only [holes, List.cons_append, List.nil_append]; exact rfl) ?_
  refine zad ?_
  refine zak rfl rfl rfl (op_boxam 0 rfl (ev1 rfl) rfl) (by simp only [upd, za, zaa]; exact rfl) ?_
  refine zab rfl rfl rfl (zac (.inr rfl) (ev1 rfl)) ?_
  refine zae ?_
  refine zaf ?_
  refine zaj 1 (by simp only [holes, List.cons_append, List.nil_append]; exact rfl) ?_
  refine zad ?_
  refine zab rfl rfl rfl (zap rfl fo47_1 (ev1 rfl)) ?_
  refine zab rfl rfl rfl (zaq rfl tb3 (ev1 rfl) rfl rfl) ?_
  refine zab rfl rfl rfl (zah [] [] [] rfl (ev1 rfl) (ec (ev1 rfl) en) rfl rfl (kindOf_no _ hk) rfl rfl rfl rfl rfl rfl) ?_
  refine zab rfl rfl rfl (zac (.inl rfl) (ev1 rfl)) ?_
  refine zab rfl rfl rfl (zar rfl (ev1 rfl) rfl) ?_
  refine zab rfl rfl rfl (zar rfl (ev1 rfl) rfl) ?_
  refine zak rfl rfl rfl (zao 1 rfl zr115 rfl) (by simp only [upd, za, zaa]; exact rfl) ?_
  refine walk_s rfl rfl (op_stwa rfl tb115 (ev1 rfl) (ev1 rfl) rfl rfl rfl rfl) (by simp only [upd, za, zaa]; exact rfl) ?_
  refine zab rfl rfl rfl (zac (.inr rfl) (ev1 rfl)) ?_
  refine zae ?_
  refine zaf ?_
  refine zaf ?_
  refine zad ?_
  refine zab rfl rfl rfl (zac (.inl rfl) (ev1 rfl)) ?_
  refine zab rfl rfl rfl ((op_not rfl (ev1 rfl)).cast (d' := .val (.bool true)) (by kernel_rfl)) ?_
  refine zab rfl rfl rfl (zac (.inl rfl) (ev1 rfl)) ?_
  refine zag (gd_f (b := true) rfl rfl rfl) rfl rfl rfl (zas (d := .junk)) ?_
  refine zag (gd_f (b := true) rfl rfl rfl) rfl rfl rfl (zas (d := .junk)) ?_
  refine zag (gd_f (b := true) rfl rfl rfl) rfl rfl rfl (zas (d := .junk)) ?_
  refine zag (gd_f (b := true) rfl rfl rfl) rfl rfl rfl (zas (d := .val (.bool false))) ?_
  refine zab rfl rfl rfl ((op_or rfl (ev1 rfl) (ev3 rfl id)).cast (d' := .val (.bool true)) (by rfl)) ?_
  refine zae ?_
  refine dwp_if_t rfl (rfl) ?_
  refine zaf ?_
  refine zad ?_
  refine zab rfl rfl rfl (zac (.inr rfl) (ev1 rfl)) ?_
  refine zae ?_
  refine zan ?_
  refine kend0 (rs1 rfl (rv_t rfl)) rfl ?_
  have hb : opB o = false := by
    unfold opB
    simp
    intros
    omega
  rw [hb]
  rfl
theorem opCheck_d (o : OpM) : DFun Tryz.prog 29 [.agg (opD o)] [] (.val (.int .i64 (errOr (opB o) 220))) [] := by
  by_cases h : 1 ≤ o.kd ∧ o.kd ≤ 8
  · have : o.kd = 1 ∨ o.kd = 2 ∨ o.kd = 3 ∨ o.kd = 4 ∨ o.kd = 5 ∨ o.kd = 6 ∨ o.kd = 7 ∨ o.kd = 8 := by omega
    rcases this with h | h | h | h | h | h | h | h
    · exact opc_1 o h
    · exact opc_2 o h
    · exact opc_3 o h
    · exact opc_4 o h
    · exact opc_5 o h
    · exact opc_6 o h
    · exact opc_7 o h
    · exact opc_8 o h
  · exact opc_no o h
end Go.Proofs.YtmacjicebemgoaaGreat
namespace Go.Proofs.YtmacjicebemgoaaGreat
set_option linter.unusedVariables false
set_option linter.unusedSimpArgs false
open Go.RowKit
theorem fo72_0 : fdO Tryz.prog 72 0 = some 0 := by kernel_rfl
theorem fo72_1 : fdO Tryz.prog 72 1 = some 19 := by kernel_rfl
theorem ty3 : (tyB Tryz.prog 3).isSome = true := by kernel_rfl
theorem uput_W (w : Nat) (n : Int) (hw : 1 ≤ w ∧ w ≤ 8) (hn : 0 ≤ n ∧ n < (256 ^ w : Nat)) : DFun Tryz.prog 66 [.slf 1 0 [], .val (.int .i64 (w : Int)), .val (.int .u64 n)] [] (.tup [.slf 1 (layW w n).length ((layW w n).flatMap uc8), .val (.int .i64 0)]) [] := by
  have h := uput_ok [] w n (by decide) hw (fits_W hn)
  rw [List.nil_append, bytesN_W hw hn.1] at h
  exact h
set_option maxRecDepth 4000 in
set_option maxHeartbeats 1000000 in
theorem lnum_d (o : OpM) (k : Nat) (l : List Int) (w : Nat) (n : Int) (hw : 1 ≤ w ∧ w ≤ 8) (hn : 0 ≤ n ∧ n < (256 ^ w : Nat)) (hl : l.length ≤ 50000) : DFun Tryz.prog 37 [.loc 0 0, .val (.int .i64 (w : Int)), .val (.int .u64 n)] [.mix 72 (opD o ++ [.farr 1 k]), fmB k (l)] (.tup []) [.mix 72 (opD o ++ [.farr 1 (k + 1)]), fmB (k + 1) (l ++ layW w n)] := by
  refine zal (N := 23) 2 (by kernel_rfl) Tryz.func37 rfl rfl rfl (by simp only [fr0, Nat.zero_add, Nat.reduceAdd]; exact rfl) rfl fun s0 hs0 => ?_
  refine zaf ?_
  refine zad ?_
  refine zab rfl rfl rfl (zac (.inl rfl) (ev1 rfl)) ?_
  refine zab rfl rfl rfl (zac (.inl rfl) (ev1 rfl)) ?_
  refine zab rfl rfl rfl (zah [] [] [] rfl (ev1 rfl) (ec (evnil 1 (ev1 rfl)) (ec (ev1 rfl) (ec (ev1 rfl) en))) rfl rfl (uput_W w n hw hn) rfl rfl rfl rfl rfl rfl) ?_
  refine zab rfl rfl rfl (zac (.inl rfl) (ev1 rfl)) ?_
  refine zab rfl rfl rfl (zar rfl (ev1 rfl) rfl) ?_
  refine zab rfl rfl rfl (zar rfl (ev1 rfl) rfl) ?_
  refine zab rfl rfl rfl (zac (.inr rfl) (ev1 rfl)) ?_
  refine zab rfl rfl rfl (zac (.inr rfl) (ev1 rfl)) ?_
  refine zae ?_
  have hlw := layW_len w n
  refine zaj 2 (by simp only [holes, List.cons_append, List.nil_append]; exact rfl) ?_
  refine zad ?_
  refine zab rfl rfl rfl (zac (.inl rfl) (ev1 rfl)) ?_
  refine zab rfl rfl rfl (zac (.inl rfl) (ev1 rfl)) ?_
  refine zab rfl rfl rfl (op_nc rfl (ev1 rfl) (fun s v h => by cases h; exact ⟨_, rfl⟩)) ?_
  refine zab rfl rfl rfl (zap rfl fo72_1 (ev1 rfl)) ?_
  refine zab rfl rfl rfl (zaq rfl tb30 (ev1 rfl) rfl rfl) ?_
  refine zab rfl rfl rfl (zac (.inl rfl) (ev1 rfl)) ?_
  refine zak rfl rfl rfl ((op_appF (j1 := 2) (j2 := 3) rfl rfl sl30 zr5 rfl (ev1 rfl) (ev1 rfl) rfl (fm_at) rfl rfl rfl (fun _ => flat_oc (fun _ => rfl) _) (fun _ => ⟨by omega, by omega⟩)).cast (d' := .farr 1 (k + 1)) (by rw [fm_len])) (by simp only [upd, za, zaa]; exact rfl) ?_
  refine zab rfl rfl rfl (op_nc rfl (ev1 rfl) (fun s v h => by cases h; exact ⟨_, rfl⟩)) ?_
  refine zab rfl rfl rfl (zap rfl fo72_1 (ev1 rfl)) ?_
  refine walk_s rfl rfl (op_stm rfl tb30 (ev1 rfl) (ev1 rfl) (fun s v h => by cases h <;> exact ⟨rfl, rfl⟩) rfl (by first | decide | exact Nat.le_of_ble_eq_true rfl | simp)) (by simp only [upd, za, zaa]; exact rfl) ?_
  refine zae ?_
  refine kend [0, 1] (res_none rfl) rfl rfl ?_ ⟨?_, ?_, trivial⟩
  rfl
  rfl
  exact fm_app
theorem fm_cat {k k' : Nat} {l l' : List Int} (h : k = k') (h' : l = l') : some (fmB k l) = some (fmB k' l') := by rw [h, h']
set_option maxRecDepth 4000 in
set_option maxHeartbeats 1000000 in
theorem lid_d (o : OpM) (k : Nat) (l : List Int) (i : I3) (hi : mayR i = true) (hl : l.length ≤ 40000) : DFun Tryz.prog 31 [.loc 0 0, .val (.agg (idc i).toArray)] [.mix 72 (opD o ++ [.farr 1 k]), fmB k (l)] (.tup []) [.mix 72 (opD o ++ [.farr 1 (k + 3)]), fmB (k + 3) (l ++ idB i)] := by
  refine zal (N := 17) 2 (by kernel_rfl) Tryz.func31 rfl rfl rfl (by simp only [fr0, Nat.zero_add, Nat.reduceAdd]; exact rfl) rfl fun s0 hs0 => ?_
  refine zaf ?_
  obtain ⟨ht, hs, hq⟩ := mayR_rng hi
  have e1 : ((256 ^ 1 : Nat) : Int) = 256 := by decide
  have e8 : ((256 ^ 8 : Nat) : Int) = 18446744073709551616 := by decide
  refine zaj 1 (by simp only [holes, List.cons_append, List.nil_append]; exact rfl) ?_
  refine zad ?_
  refine zak rfl rfl rfl (op_boxa 2 rfl (ev1 rfl) rfl) (by simp only [upd, za, zaa]; exact rfl) ?_
  refine zae ?_
  refine zaf ?_
  refine zad ?_
  refine zab rfl rfl rfl (zac (.inl rfl) (ev1 rfl)) ?_
  refine zab rfl rfl rfl (zap rfl fo29_0 (ev1 rfl)) ?_
  refine zab rfl rfl rfl (op_ldo rfl tb23 (ev1 rfl) rfl rfl) ?_
  refine zak rfl rfl rfl (zah [0, 1] [] [] rfl (ev1 rfl) (ec (ev1 rfl) (ec (ev1 rfl) (ec (ev1 rfl) en))) rfl rfl (lnum_d o k (l) 8 (i.t) (by decide) (by rw [e8]; omega) (by omega)) rfl rfl rfl rfl rfl rfl) (by simp only [upd, za, zaa]; exact rfl) ?_
  refine zae ?_
  refine zaf ?_
  refine zad ?_
  refine zab rfl rfl rfl (zac (.inl rfl) (ev1 rfl)) ?_
  refine zab rfl rfl rfl (zap rfl fo29_1 (ev1 rfl)) ?_
  refine zab rfl rfl rfl (op_ldo rfl tb3 (ev1 rfl) rfl rfl) ?_
  refine zab rfl rfl rfl (op_conv' ty3 kn23 rfl (ev1 rfl) (fun _ => IntWalk.u64_in _ (by omega))) ?_
  refine zak rfl rfl rfl (zah [0, 1] [] [] rfl (ev1 rfl) (ec (ev1 rfl) (ec (ev1 rfl) (ec (ev1 rfl) en))) rfl rfl (lnum_d o (k + 1) (l ++ layW 8 i.t) 1 (i.s) (by decide) (by rw [e1]; omega) (by simp only [List.length_append, layW_len]; omega)) rfl rfl rfl rfl rfl rfl) (by simp only [upd, za, zaa]; exact rfl) ?_
  refine zae ?_
  refine zad ?_
  refine zab rfl rfl rfl (zac (.inl rfl) (ev1 rfl)) ?_
  refine zab rfl rfl rfl (zap rfl fo29_2 (ev1 rfl)) ?_
  refine zab rfl rfl rfl (op_ldo rfl tb23 (ev1 rfl) rfl rfl) ?_
  refine zak rfl rfl rfl (zah [0, 1] [] [] rfl (ev1 rfl) (ec (ev1 rfl) (ec (ev1 rfl) (ec (ev1 rfl) en))) rfl rfl (lnum_d o (k + 1 + 1) ((l ++ layW 8 i.t) ++ layW 1 i.s) 8 (i.q) (by decide) (by rw [e8]; omega) (by simp only [List.length_append, layW_len]; omega)) rfl rfl rfl rfl rfl rfl) (by simp only [upd, za, zaa]; exact rfl) ?_
  refine zae ?_
  refine kend [0, 1] (res_none rfl) rfl rfl ?_ ⟨?_, ?_, trivial⟩
  rfl
  rfl
  exact fm_cat rfl (by unfold idB; simp only [List.append_assoc])
set_option maxRecDepth 4000 in
set_option maxHeartbeats 1000000 in
theorem lplace_d (o : OpM) (k : Nat) (l : List Int) (n : Int) (hn : isPl n) (hl : l.length ≤ 40000) : DFun Tryz.prog 123 [.loc 0 0, .val (.int .i64 n)] [.mix 72 (opD o ++ [.farr 1 k]), fmB k (l)] (.tup []) [.mix 72 (opD o ++ [.farr 1 (k + 1)]), fmB (k + 1) (l ++ plB' n)] := by
  refine zal (N := 9) 2 (by kernel_rfl) Tryz.func123 rfl rfl rfl (by simp only [fr0, Nat.zero_add, Nat.reduceAdd]; exact rfl) rfl fun s0 hs0 => ?_
  obtain ⟨hn1, hn2⟩ := hn
  have e1 : ((256 ^ 1 : Nat) : Int) = 256 := by decide
  refine zad ?_
  refine zab rfl rfl rfl (zac (.inl rfl) (ev1 rfl)) ?_
  refine zab rfl rfl rfl (zac (.inl rfl) (ev1 rfl)) ?_
  refine zab rfl rfl rfl ((op_sub' rfl (ev1 rfl) (ev1 rfl) (fun _ => IntWalk.i64_in _ (by omega))).cast (d' := .val (.int .i64 (n + 64))) (by rw [show n - -64 = n + 64 by omega])) ?_
  refine zab rfl rfl rfl (op_conv' ty3 kn23 rfl (ev1 rfl) (fun _ => IntWalk.u64_in _ (by omega))) ?_
  refine zak rfl rfl rfl (zah [0, 1] [] [] rfl (ev1 rfl) (ec (ev1 rfl) (ec (ev1 rfl) (ec (ev1 rfl) en))) rfl rfl (lnum_d o k (l) 1 (n + 64) (by decide) (by rw [e1]; omega) (by omega)) rfl rfl rfl rfl rfl rfl) (by simp only [upd, za, zaa]; exact rfl) ?_
  refine zae ?_
  refine kend [0, 1] (res_none rfl) rfl rfl ?_ ⟨rfl, rfl, trivial⟩
  rfl
set_option maxRecDepth 4000 in
set_option maxHeartbeats 1000000 in
theorem lx_d (o : OpM) (k : Nat) (l : List Int) (hn : isPl o.x) (hl : l.length ≤ 40000) : DFun Tryz.prog 68 [.loc 0 0] [.mix 72 (opD o ++ [.farr 1 k]), fmB k (l)] (.tup []) [.mix 72 (opD o ++ [.farr 1 (k + 1)]), fmB (k + 1) (l ++ plB' o.x)] := by
  refine zal (N := 9) 2 (by kernel_rfl) Tryz.func68 rfl rfl rfl (by simp only [fr0, Nat.zero_add, Nat.reduceAdd]; exact rfl) rfl fun s0 hs0 => ?_
  refine zad ?_
  refine zab rfl rfl rfl (zac (.inl rfl) (ev1 rfl)) ?_
  refine zab rfl rfl rfl (zac (.inl rfl) (ev1 rfl)) ?_
  refine zab rfl rfl rfl (op_nc rfl (ev1 rfl) (fun s v h => by cases h; exact ⟨_, rfl⟩)) ?_
  refine zab rfl rfl rfl (zap rfl fo72_0 (ev1 rfl)) ?_
  refine zab rfl rfl rfl (zap rfl fo47_2 (ev1 rfl)) ?_
  refine zab rfl rfl rfl (zaq rfl tb3 (ev1 rfl) rfl rfl) ?_
  refine zak rfl rfl rfl (zah [0, 1] [] [] rfl (ev1 rfl) (ec (ev1 rfl) (ec (ev1 rfl) en)) rfl rfl (lplace_d o k l o.x hn hl) rfl rfl rfl rfl rfl rfl) (by simp only [upd, za, zaa]; exact rfl) ?_
  refine zae ?_
  refine kend [0, 1] (res_none rfl) rfl rfl ?_ ⟨rfl, rfl, trivial⟩
  rfl
set_option maxRecDepth 4000 in
set_option maxHeartbeats 1000000 in
theorem ly_d (o : OpM) (k : Nat) (l : List Int) (hn : isPl o.y) (hl : l.length ≤ 40000) : DFun Tryz.prog 69 [.loc 0 0] [.mix 72 (opD o ++ [.farr 1 k]), fmB k (l)] (.tup []) [.mix 72 (opD o ++ [.farr 1 (k + 1)]), fmB (k + 1) (l ++ plB' o.y)] := by
  refine zal (N := 9) 2 (by kernel_rfl) Tryz.func69 rfl rfl rfl (by simp only [fr0, Nat.zero_add, Nat.reduceAdd]; exact rfl) rfl fun s0 hs0 => ?_
  refine zad ?_
  refine zab rfl rfl rfl (zac (.inl rfl) (ev1 rfl)) ?_
  refine zab rfl rfl rfl (zac (.inl rfl) (ev1 rfl)) ?_
  refine zab rfl rfl rfl (op_nc rfl (ev1 rfl) (fun s v h => by cases h; exact ⟨_, rfl⟩)) ?_
  refine zab rfl rfl rfl (zap rfl fo72_0 (ev1 rfl)) ?_
  refine zab rfl rfl rfl (zap rfl fo47_3 (ev1 rfl)) ?_
  refine zab rfl rfl rfl (zaq rfl tb3 (ev1 rfl) rfl rfl) ?_
  refine zak rfl rfl rfl (zah [0, 1] [] [] rfl (ev1 rfl) (ec (ev1 rfl) (ec (ev1 rfl) en)) rfl rfl (lplace_d o k l o.y hn hl) rfl rfl rfl rfl rfl rfl) (by simp only [upd, za, zaa]; exact rfl) ?_
  refine zae ?_
  refine kend [0, 1] (res_none rfl) rfl rfl ?_ ⟨rfl, rfl, trivial⟩
  rfl
set_option maxRecDepth 4000 in
set_option maxHeartbeats 1000000 in
theorem lx2_d (o : OpM) (k : Nat) (l : List Int) (hn : isPl o.x2) (hl : l.length ≤ 40000) : DFun Tryz.prog 70 [.loc 0 0] [.mix 72 (opD o ++ [.farr 1 k]), fmB k (l)] (.tup []) [.mix 72 (opD o ++ [.farr 1 (k + 1)]), fmB (k + 1) (l ++ plB' o.x2)] := by
  refine zal (N := 9) 2 (by kernel_rfl) Tryz.func70 rfl rfl rfl (by simp only [fr0, Nat.zero_add, Nat.reduceAdd]; exact rfl) rfl fun s0 hs0 => ?_
  refine zad ?_
  refine zab rfl rfl rfl (zac (.inl rfl) (ev1 rfl)) ?_
  refine zab rfl rfl rfl (zac (.inl rfl) (ev1 rfl)) ?_
  refine zab rfl rfl rfl (op_nc rfl (ev1 rfl) (fun s v h => by cases h; exact ⟨_, rfl⟩)) ?_
  refine zab rfl rfl rfl (zap rfl fo72_0 (ev1 rfl)) ?_
  refine zab rfl rfl rfl (zap rfl fo47_4 (ev1 rfl)) ?_
  refine zab rfl rfl rfl (zaq rfl tb3 (ev1 rfl) rfl rfl) ?_
  refine zak rfl rfl rfl (zah [0, 1] [] [] rfl (ev1 rfl) (ec (ev1 rfl) (ec (ev1 rfl) en)) rfl rfl (lplace_d o k l o.x2 hn hl) rfl rfl rfl rfl rfl rfl) (by simp only [upd, za, zaa]; exact rfl) ?_
  refine zae ?_
  refine kend [0, 1] (res_none rfl) rfl rfl ?_ ⟨rfl, rfl, trivial⟩
  rfl
set_option maxRecDepth 4000 in
set_option maxHeartbeats 1000000 in
theorem ly2_d (o : OpM) (k : Nat) (l : List Int) (hn : isPl o.y2) (hl : l.length ≤ 40000) : DFun Tryz.prog 71 [.loc 0 0] [.mix 72 (opD o ++ [.farr 1 k]), fmB k (l)] (.tup []) [.mix 72 (opD o ++ [.farr 1 (k + 1)]), fmB (k + 1) (l ++ plB' o.y2)] := by
  refine zal (N := 9) 2 (by kernel_rfl) Tryz.func71 rfl rfl rfl (by simp only [fr0, Nat.zero_add, Nat.reduceAdd]; exact rfl) rfl fun s0 hs0 => ?_
  refine zad ?_
  refine zab rfl rfl rfl (zac (.inl rfl) (ev1 rfl)) ?_
  refine zab rfl rfl rfl (zac (.inl rfl) (ev1 rfl)) ?_
  refine zab rfl rfl rfl (op_nc rfl (ev1 rfl) (fun s v h => by cases h; exact ⟨_, rfl⟩)) ?_
  refine zab rfl rfl rfl (zap rfl fo72_0 (ev1 rfl)) ?_
  refine zab rfl rfl rfl (zap rfl fo47_5 (ev1 rfl)) ?_
  refine zab rfl rfl rfl (zaq rfl tb3 (ev1 rfl) rfl rfl) ?_
  refine zak rfl rfl rfl (zah [0, 1] [] [] rfl (ev1 rfl) (ec (ev1 rfl) (ec (ev1 rfl) en)) rfl rfl (lplace_d o k l o.y2 hn hl) rfl rfl rfl rfl rfl rfl) (by simp only [upd, za, zaa]; exact rfl) ?_
  refine zae ?_
  refine kend [0, 1] (res_none rfl) rfl rfl ?_ ⟨rfl, rfl, trivial⟩
  rfl
set_option maxRecDepth 4000 in
set_option maxHeartbeats 1000000 in
theorem lsize_d (o : OpM) (k : Nat) (l : List Int) (hn : isSz o.sz) (hl : l.length ≤ 40000) : DFun Tryz.prog 72 [.loc 0 0] [.mix 72 (opD o ++ [.farr 1 k]), fmB k (l)] (.tup []) [.mix 72 (opD o ++ [.farr 1 (k + 1)]), fmB (k + 1) (l ++ layW 2 o.sz)] := by
  refine zal (N := 10) 2 (by kernel_rfl) Tryz.func72 rfl rfl rfl (by simp only [fr0, Nat.zero_add, Nat.reduceAdd]; exact rfl) rfl fun s0 hs0 => ?_
  obtain ⟨hn1, hn2⟩ := hn
  have e2 : ((256 ^ 2 : Nat) : Int) = 65536 := by decide
  rw [e2] at hn2
  refine zad ?_
  refine zab rfl rfl rfl (zac (.inl rfl) (ev1 rfl)) ?_
  refine zab rfl rfl rfl (zac (.inl rfl) (ev1 rfl)) ?_
  refine zab rfl rfl rfl (op_nc rfl (ev1 rfl) (fun s v h => by cases h; exact ⟨_, rfl⟩)) ?_
  refine zab rfl rfl rfl (zap rfl fo72_0 (ev1 rfl)) ?_
  refine zab rfl rfl rfl (zap rfl fo47_6 (ev1 rfl)) ?_
  refine zab rfl rfl rfl (zaq rfl tb3 (ev1 rfl) rfl rfl) ?_
  refine zab rfl rfl rfl (op_conv' ty3 kn23 rfl (ev1 rfl) (fun _ => IntWalk.u64_in _ (by omega))) ?_
  refine zak rfl rfl rfl (zah [0, 1] [] [] rfl (ev1 rfl) (ec (ev1 rfl) (ec (ev1 rfl) (ec (ev1 rfl) en))) rfl rfl (lnum_d o k (l) 2 (o.sz) (by decide) (by rw [e2]; omega) (by omega)) rfl rfl rfl rfl rfl rfl) (by simp only [upd, za, zaa]; exact rfl) ?_
  refine zae ?_
  refine kend [0, 1] (res_none rfl) rfl rfl ?_ ⟨rfl, rfl, trivial⟩
  rfl
end Go.Proofs.YtmacjicebemgoaaGreat
namespace Go.Proofs.YtmacjicebemgoaaGreat
set_option linter.unusedVariables false
set_option linter.unusedSimpArgs false
open Go.RowKit
theorem fo42_0 : fdO Tryz.prog 42 0 = some 0 := by kernel_rfl
theorem fo42_1 : fdO Tryz.prog 42 1 = some 1 := by kernel_rfl
theorem fo42_2 : fdO Tryz.prog 42 2 = some 2 := by kernel_rfl
theorem fo42_3 : fdO Tryz.prog 42 3 = some 3 := by kernel_rfl
theorem fm_col {k : Nat} {x : Mem} {l : List Int} {c : C4} (h : okC c) : some (Blk.fam ((List.replicate k Mem.gone ++ [x]).set k .gone ++ [.arr 5 1 (l.length + 4) (l.flatMap uc8 ++ [.int .u8 c.r, .int .u8 c.g, .int .u8 c.b, .int .u8 c.a])])) = some (fmB (k + 1) (l ++ coB' c)) := by
  refine fm_eq ?_ ?_
  · rw [List.length_append, coB_len]
  · rw [List.flatMap_append, coB_eq h]
    rfl
theorem cols_take {l : List C4} {j : Nat} (h : j < l.length) : (l.take (j + 1)).flatMap coB' = (l.take j).flatMap coB' ++ coB' l[j] := by
  rw [List.take_succ_eq_append_getElem h, List.flatMap_append]
  simp
set_option maxRecDepth 4000 in
set_option maxHeartbeats 1000000 in
theorem lcols_d (o : OpM) (k : Nat) (l : List Int) (cs : List C4) (hc : ∀ c ∈ cs, okC c) (hn : cs.length ≤ 64) (hl : l.length ≤ 40000) : DFun Tryz.prog 124 [.loc 0 0, .slf 4 cs.length (cs.flatMap c4)] [.mix 72 (opD o ++ [.farr 1 k]), fmB k (l)] (.tup []) [.mix 72 (opD o ++ [.farr 1 (k + cs.length)]), fmB (k + cs.length) (l ++ cs.flatMap coB')] := by
  refine zal (N := 30) 2 (by kernel_rfl) Tryz.func124 rfl rfl rfl (by simp only [fr0, Nat.zero_add, Nat.reduceAdd]; exact rfl) rfl fun s0 hs0 => ?_
  refine dwp_len (t := 1) rfl fun hl1 hL1 => ?_
  refine zaf ?_
  refine zad ?_
  refine zab rfl rfl rfl (zac (.inl rfl) (ev1 rfl)) ?_
  refine zab rfl rfl rfl (op_len rfl sl43 (ev1 rfl)) ?_
  refine zab rfl rfl rfl (zac (.inl rfl) (ev1 rfl)) ?_
  refine zae ?_
  refine zat ?_
  refine dwp_loopS ⟨hs0, rfl⟩ (α := Nat) (fun j => [(8, .val (.int .i64 (j : Int)))]) [(0, _), (6, _), (7, _)] (fun j => [(0, .mix 72 (opD o ++ [.farr 1 (k + j)])), (1, fmB (k + j) (l ++ (cs.take j).flatMap coB'))]) [.hole, .hole] (fun j => j ≤ cs.length) (fun j => cs.length - j) 0 [0, 1] (by omega) rfl ⟨rfl, rfl, rfl, trivial⟩ ⟨rfl, trivial⟩ ⟨rfl, fm_cat rfl (by simp), trivial⟩ ?_
  intro j hx
  simp only [upd, za, zaa, List.cons_append, List.nil_append]
  have hj := hx
  have hlj : ((cs.take j).flatMap coB').length = 4 * j := by rw [cols_len, List.length_take]; omega
  refine zaf ?_
  refine zad ?_
  refine zab rfl rfl rfl (op_lss rfl (ev1 rfl) (ev1 rfl)) ?_
  refine zae ?_
  refine zaf ?_
  refine dwp_cond rfl (fun c1 => ?_) (fun c1 => ?_)
  · try simp only [decide_eq_true_eq, decide_eq_false_iff_not, beq_iff_eq, bne_iff_ne, beq_eq_false_iff_ne, bne_eq_false_iff_eq, Bool.not_eq_true', Bool.not_eq_false', Bool.and_eq_true, Bool.or_eq_true, Bool.or_eq_false_iff, ne_eq, Decidable.not_not, Int.not_lt, Int.not_le] at c1
    refine zam ?_
    refine zaf ?_
    refine zat ?_
    refine zaf ?_
    refine zaj 1 (by simp only [holes, List.cons_append, List.nil_append]; exact rfl) ?_
    refine zad ?_
    refine zab rfl rfl rfl (op_ixsr (j := j) rfl sl43 (ev1 rfl) (ev1 rfl) (fun _ => rfl) (by decide) (by omega) (by omega)) ?_
    refine zab rfl rfl rfl (op_ldwd rfl tb42 (ev1 rfl) rfl) ?_
    refine zak rfl rfl rfl (zao 2 rfl zr42 rfl) (by simp only [upd, za, zaa]; exact rfl) ?_
    refine walk_s rfl rfl (op_stwa rfl tb42 (ev1 rfl) (ev1 rfl) rfl rfl rfl rfl) (by simp only [upd, za, zaa]; exact rfl) ?_
    refine zae ?_
    refine zaj 2 (by simp only [holes, List.cons_append, List.nil_append]; exact rfl) ?_
    refine dwp_draw [([], []), ([], []), ([], []), ([], []), ([0], []), ([], []), ([2], []), ([], []), ([2], []), ([], []), ([2], []), ([], []), ([2], []), ([], []), ([1, 3, 4], [1, 3, 4]), ([], []), ([], []), ([0], [0])] mixed (by kernel_rfl) ?_
    refine lex_r rfl rfl (zac (.inl rfl) (ev1 rfl)) ?_
    refine lex_r rfl rfl (zac (.inl rfl) (ev1 rfl)) ?_
    refine lex_r rfl rfl (op_nc rfl (ev1 rfl) (fun s v h => by cases h; exact ⟨_, rfl⟩)) ?_
    refine lex_r rfl rfl (zap rfl fo72_1 (ev1 rfl)) ?_
    refine lex_r rfl rfl (zaq rfl tb30 (ev1 rfl) rfl rfl) ?_
    refine lex_r rfl rfl (zap rfl fo42_0 (ev1 rfl)) ?_
    refine lex_r rfl rfl (op_ldo rfl tb5 (ev1 rfl) rfl rfl) ?_
    refine lex_r rfl rfl (zap rfl fo42_1 (ev1 rfl)) ?_
    refine lex_r rfl rfl (op_ldo rfl tb5 (ev1 rfl) rfl rfl) ?_
    refine lex_r rfl rfl (zap rfl fo42_2 (ev1 rfl)) ?_
    refine lex_r rfl rfl (op_ldo rfl tb5 (ev1 rfl) rfl rfl) ?_
    refine lex_r rfl rfl (zap rfl fo42_3 (ev1 rfl)) ?_
    refine lex_r rfl rfl (op_ldo rfl tb5 (ev1 rfl) rfl rfl) ?_
    refine lex_r rfl rfl (op_bs (ps := [(0, .tmp 18), (1, .tmp 20), (2, .tmp 22), (3, .tmp 24)]) rfl sl30 zr5 rfl (vc (ev1 rfl) (vc (ev1 rfl) (vc (ev1 rfl) (vc (ev1 rfl) vn)))) rfl (by decide) (by decide)) ?_
    refine lex_w rfl rfl ((op_appF (j1 := 3) (j2 := 4) rfl rfl sl30 zr5 rfl (ev1 rfl) (ev1 rfl) rfl (fm_at) rfl rfl rfl (fun _ => rfl) (fun _ => ⟨by simp only [List.length_append]; omega, by simp only [List.length_append]; omega⟩)).cast (d' := .farr 1 (k + j + 1)) (by rw [fm_len])) rfl (by simp only [upd, za, zaa]; exact rfl) ?_
    refine lex_r rfl rfl (op_nc rfl (ev1 rfl) (fun s v h => by cases h; exact ⟨_, rfl⟩)) ?_
    refine lex_r rfl rfl (zap rfl fo72_1 (ev1 rfl)) ?_
    refine lex_s rfl rfl (op_stm rfl tb30 (ev1 rfl) (ev1 rfl) (fun s v h => by cases h <;> exact ⟨rfl, rfl⟩) rfl (by first | decide | exact Nat.le_of_ble_eq_true rfl | simp)) rfl (by simp only [upd, za, zaa]; exact rfl) ?_
    refine lex_nil ?_
    refine zad ?_
    refine zab rfl rfl rfl (op_add' rfl (ev1 rfl) (ev1 rfl) (fun _ => IntWalk.i64_in _ (by omega))) ?_
    refine zab rfl rfl rfl (zac (.inl rfl) (ev1 rfl)) ?_
    refine zae ?_
    refine ⟨j + 1, [0, 1], by omega, by simp only []; omega, rfl, ⟨rfl, rfl, rfl, rfl, trivial⟩, ⟨rfl, ((fm_col (hc cs[j] (List.getElem_mem _))).trans (fm_cat rfl (by rw [cols_take (by omega), List.append_assoc]))), trivial⟩⟩
  · try simp only [decide_eq_true_eq, decide_eq_false_iff_not, beq_iff_eq, bne_iff_ne, beq_eq_false_iff_ne, bne_eq_false_iff_eq, Bool.not_eq_true', Bool.not_eq_false', Bool.and_eq_true, Bool.or_eq_true, Bool.or_eq_false_iff, ne_eq, Decidable.not_not, Int.not_lt, Int.not_le] at c1
    refine dwp_exit ?_
    obtain rfl : j = cs.length := by omega
    refine kend [0, 1] (res_none rfl) rfl rfl ?_ ⟨?_, ?_, trivial⟩
    rfl
    rfl
    exact fm_cat rfl (by rw [List.take_length])
set_option maxRecDepth 4000 in
set_option maxHeartbeats 1000000 in
theorem lcolor_d (o : OpM) (k : Nat) (l : List Int) (hn : okC o.co) (hl : l.length ≤ 40000) : DFun Tryz.prog 73 [.loc 0 0] [.mix 72 (opD o ++ [.farr 1 k]), fmB k (l)] (.tup []) [.mix 72 (opD o ++ [.farr 1 (k + 1)]), fmB (k + 1) (l ++ coB' o.co)] := by
  refine zal (N := 10) 2 (by kernel_rfl) Tryz.func73 rfl rfl rfl (by simp only [fr0, Nat.zero_add, Nat.reduceAdd]; exact rfl) rfl fun s0 hs0 => ?_
  refine zad ?_
  refine zab rfl rfl rfl (zac (.inl rfl) (ev1 rfl)) ?_
  refine zab rfl rfl rfl (zac (.inl rfl) (ev1 rfl)) ?_
  refine zab rfl rfl rfl (op_nc rfl (ev1 rfl) (fun s v h => by cases h; exact ⟨_, rfl⟩)) ?_
  refine zab rfl rfl rfl (zap rfl fo72_0 (ev1 rfl)) ?_
  refine zab rfl rfl rfl (zap rfl fo47_7 (ev1 rfl)) ?_
  refine zab rfl rfl rfl (op_ldmv (R := [_, _, _, _]) rfl tb42 (ev1 rfl) rfl rfl rfl) ?_
  refine zab rfl rfl rfl (op_bs (ps := [(0, .tmp 7)]) rfl sl43 zr42 rfl (vc (ev1 rfl) vn) rfl (by decide) (by decide)) ?_
  refine zak rfl rfl rfl (zah [0, 1] [] [] rfl (ev1 rfl) (ec (ev1 rfl) (ec (ev1 rfl) en)) rfl rfl (lcols_d o k l [o.co] (by simpa using hn) (by simp) hl) rfl rfl rfl rfl rfl rfl) (by simp only [upd, za, zaa]; exact rfl) ?_
  refine zae ?_
  refine kend [0, 1] (res_none rfl) rfl rfl ?_ ⟨?_, ?_, trivial⟩
  rfl
  rfl
  exact fm_cat rfl (by simp)
set_option maxRecDepth 4000 in
set_option maxHeartbeats 1000000 in
theorem lstamp_d (o : OpM) (k : Nat) (l : List Int) (hn : okF 6 o) (hl : l.length ≤ 39000) : DFun Tryz.prog 74 [.loc 0 0] [.mix 72 (opD o ++ [.farr 1 k]), fmB k (l)] (.tup []) [.mix 72 (opD o ++ [.farr 1 (k + (2 + o.px.length))]), fmB (k + (2 + o.px.length)) (l ++ stBy ((o.sw, o.sh), o.px))] := by
  refine zal (N := 28) 2 (by kernel_rfl) Tryz.func74 rfl rfl rfl (by simp only [fr0, Nat.zero_add, Nat.reduceAdd]; exact rfl) rfl fun s0 hs0 => ?_
  refine zaf ?_
  have hpx := px_le hn
  obtain ⟨hw, hh, hp, hcs⟩ := hn
  have hw8 := siD_rng hw
  have hh8 := siD_rng hh
  have e1 : ((256 ^ 1 : Nat) : Int) = 256 := by decide
  refine zad ?_
  refine zab rfl rfl rfl (zac (.inl rfl) (ev1 rfl)) ?_
  refine zab rfl rfl rfl (zac (.inl rfl) (ev1 rfl)) ?_
  refine zab rfl rfl rfl (op_nc rfl (ev1 rfl) (fun s v h => by cases h; exact ⟨_, rfl⟩)) ?_
  refine zab rfl rfl rfl (zap rfl fo72_0 (ev1 rfl)) ?_
  refine zab rfl rfl rfl (zap rfl fo47_8 (ev1 rfl)) ?_
  refine zab rfl rfl rfl (zap rfl fo45_0 (ev1 rfl)) ?_
  refine zab rfl rfl rfl (zaq rfl tb3 (ev1 rfl) rfl rfl) ?_
  refine zab rfl rfl rfl (op_conv' ty3 kn23 rfl (ev1 rfl) (fun _ => IntWalk.u64_in _ (by omega))) ?_
  refine zak rfl rfl rfl (zah [0, 1] [] [] rfl (ev1 rfl) (ec (ev1 rfl) (ec (ev1 rfl) (ec (ev1 rfl) en))) rfl rfl (lnum_d o k (l) 1 (o.sw) (by decide) (by rw [e1]; omega) (by omega)) rfl rfl rfl rfl rfl rfl) (by simp only [upd, za, zaa]; exact rfl) ?_
  refine zae ?_
  refine zaf ?_
  refine zad ?_
  refine zab rfl rfl rfl (zac (.inl rfl) (ev1 rfl)) ?_
  refine zab rfl rfl rfl (zac (.inl rfl) (ev1 rfl)) ?_
  refine zab rfl rfl rfl (op_nc rfl (ev1 rfl) (fun s v h => by cases h; exact ⟨_, rfl⟩)) ?_
  refine zab rfl rfl rfl (zap rfl fo72_0 (ev1 rfl)) ?_
  refine zab rfl rfl rfl (zap rfl fo47_8 (ev1 rfl)) ?_
  refine zab rfl rfl rfl (zap rfl fo45_1 (ev1 rfl)) ?_
  refine zab rfl rfl rfl (zaq rfl tb3 (ev1 rfl) rfl rfl) ?_
  refine zab rfl rfl rfl (op_conv' ty3 kn23 rfl (ev1 rfl) (fun _ => IntWalk.u64_in _ (by omega))) ?_
  refine zak rfl rfl rfl (zah [0, 1] [] [] rfl (ev1 rfl) (ec (ev1 rfl) (ec (ev1 rfl) (ec (ev1 rfl) en))) rfl rfl (lnum_d o (k + 1) (l ++ layW 1 o.sw) 1 (o.sh) (by decide) (by rw [e1]; omega) (by simp only [List.length_append, layW_len]; omega)) rfl rfl rfl rfl rfl rfl) (by simp only [upd, za, zaa]; exact rfl) ?_
  refine zae ?_
  refine zad ?_
  refine zab rfl rfl rfl (zac (.inl rfl) (ev1 rfl)) ?_
  refine zab rfl rfl rfl (zac (.inl rfl) (ev1 rfl)) ?_
  refine zab rfl rfl rfl (op_nc rfl (ev1 rfl) (fun s v h => by cases h; exact ⟨_, rfl⟩)) ?_
  refine zab rfl rfl rfl (zap rfl fo72_0 (ev1 rfl)) ?_
  refine zab rfl rfl rfl (zap rfl fo47_8 (ev1 rfl)) ?_
  refine zab rfl rfl rfl (zap rfl fo45_2 (ev1 rfl)) ?_
  refine zab rfl rfl rfl (zaq rfl tb43 (ev1 rfl) rfl rfl) ?_
  refine zak rfl rfl rfl (zah [0, 1] [] [] rfl (ev1 rfl) (ec (ev1 rfl) (ec (ev1 rfl) en)) rfl rfl (lcols_d o (k + 1 + 1) ((l ++ layW 1 o.sw) ++ layW 1 o.sh) o.px hcs hpx (by simp only [List.length_append, layW_len]; omega)) rfl rfl rfl rfl rfl rfl) (by simp only [upd, za, zaa]; exact rfl) ?_
  refine zae ?_
  refine kend [0, 1] (res_none rfl) rfl rfl ?_ ⟨?_, ?_, trivial⟩
  rfl
  exact congrArg (fun z => some (Blk.mix _ (opD o ++ [D.farr 1 z]))) (by omega)
  exact fm_cat (by omega) (by unfold stBy; simp only [List.append_assoc])
set_option maxRecDepth 4000 in
set_option maxHeartbeats 1000000 in
theorem ltarget_d (o : OpM) (k : Nat) (l : List Int) (hn : mayR o.tg = true) (hl : l.length ≤ 40000) : DFun Tryz.prog 75 [.loc 0 0] [.mix 72 (opD o ++ [.farr 1 k]), fmB k (l)] (.tup []) [.mix 72 (opD o ++ [.farr 1 (k + 3)]), fmB (k + 3) (l ++ idB o.tg)] := by
  refine zal (N := 9) 2 (by kernel_rfl) Tryz.func75 rfl rfl rfl (by simp only [fr0, Nat.zero_add, Nat.reduceAdd]; exact rfl) rfl fun s0 hs0 => ?_
  refine zad ?_
  refine zab rfl rfl rfl (zac (.inl rfl) (ev1 rfl)) ?_
  refine zab rfl rfl rfl (zac (.inl rfl) (ev1 rfl)) ?_
  refine zab rfl rfl rfl (op_nc rfl (ev1 rfl) (fun s v h => by cases h; exact ⟨_, rfl⟩)) ?_
  refine zab rfl rfl rfl (zap rfl fo72_0 (ev1 rfl)) ?_
  refine zab rfl rfl rfl (zap rfl fo47_9 (ev1 rfl)) ?_
  refine zab rfl rfl rfl (op_ldmv (R := [_, _, _]) rfl tb29 (ev1 rfl) rfl rfl rfl) ?_
  refine zak rfl rfl rfl (zah [0, 1] [] [] rfl (ev1 rfl) (ec (ev1 rfl) (ec (ev1 rfl) en)) rfl rfl (lid_d o k l o.tg hn hl) rfl rfl rfl rfl rfl rfl) (by simp only [upd, za, zaa]; exact rfl) ?_
  refine zae ?_
  refine kend [0, 1] (res_none rfl) rfl rfl ?_ ⟨rfl, rfl, trivial⟩
  rfl
def fnL (f : Nat) : FuncId := match f with
  | 0 => 68
  | 1 => 69
  | 2 => 70
  | 3 => 71
  | 4 => 72
  | 5 => 73
  | 6 => 74
  | _ => 75
theorem lF_d (f : Nat) (hf : f < 8) (o : OpM) (k : Nat) (l : List Int) (h : okF f o) (hl : l.length ≤ 39000) : DFun Tryz.prog (fnL f) [.loc 0 0] [.mix 72 (opD o ++ [.farr 1 k]), fmB k (l)] (.tup []) [.mix 72 (opD o ++ [.farr 1 (k + nF f o)]), fmB (k + nF f o) (l ++ layF f o)] := by
  match f, hf, h with
  | 0, _, h => exact lx_d o k l h (by omega)
  | 1, _, h => exact ly_d o k l h (by omega)
  | 2, _, h => exact lx2_d o k l h (by omega)
  | 3, _, h => exact ly2_d o k l h (by omega)
  | 4, _, h => exact lsize_d o k l h (by omega)
  | 5, _, h => exact lcolor_d o k l h (by omega)
  | 6, _, h => exact lstamp_d o k l h hl
  | 7, _, h => exact ltarget_d o k l h (by omega)
  | n + 8, hf, _ => omega
end Go.Proofs.YtmacjicebemgoaaGreat
namespace Go.Proofs.YtmacjicebemgoaaGreat
set_option linter.unusedVariables false
set_option linter.unusedSimpArgs false
open Go.RowKit
theorem vw_farrS {σ : List Nat} {V : Nat → Bool} {M : List Blk} {Bs : List Mem} {e : TypeId} {j k sz m : Nat} {L : List Value} (hpj : pos σ j = none) (hVj : V j = true) (hMj : M[j]? = some (.fam Bs)) (hB : Bs[k]? = some (.arr e sz m L)) : vw σ V M (.farr j k) = some (.slf sz m L) := by
  unfold vw
  rw [hpj]
  show vwFarr V M j k = _
  unfold vwFarr
  rw [hVj, hMj]
  show (match Bs[k]? with | some (.arr _ sz n L) => some (D.slf sz n L) | _ => none) = _
  rw [hB]
theorem ar83 : arE Tryz.prog 83 = some (9, 1) := by kernel_rfl
theorem sl82 : slE Tryz.prog 82 = some (85, 1, 8) := by kernel_rfl
theorem tb83 : tyB Tryz.prog 83 = some (true, 9) := by kernel_rfl
theorem zr72 : zrC Tryz.prog 72 = some [.int .u64 0, .int .i64 0, .int .u64 0, .int .i64 0, .int .i64 0, .int .i64 0, .int .i64 0, .int .i64 0, .int .i64 0, .int .u8 0, .int .u8 0, .int .u8 0, .int .u8 0, .int .i64 0, .int .i64 0, .slice none 0 0, .int .u64 0, .int .i64 0, .int .u64 0, .slice none 0 0] := by kernel_rfl
theorem zr83 : zrC Tryz.prog 83 = some [.slice none 0 0, .slice none 0 0, .slice none 0 0, .slice none 0 0, .slice none 0 0, .slice none 0 0, .slice none 0 0, .slice none 0 0, .slice none 0 0] := by kernel_rfl
theorem zr85 : zrC Tryz.prog 85 = some [.nilFunc] := by kernel_rfl
def rowL' (fn : Nat → FuncId) (k : Nat) : D := .slm 1 (fieldsK k).length ((fieldsK k).flatMap fun f => [.fn (.func (fn f)) [] []])
def rowsF (fn : Nat → FuncId) : List D := [.val (.slice none 0 0), rowL' fn 1, rowL' fn 2, rowL' fn 3, rowL' fn 4, rowL' fn 5, rowL' fn 6, rowL' fn 7, rowL' fn 8]
theorem rowsF_at (fn : Nat → FuncId) {k : Nat} (h : 1 ≤ k ∧ k ≤ 8) : (rowsF fn)[k]? = some (rowL' fn k) := by
  have : k = 1 ∨ k = 2 ∨ k = 3 ∨ k = 4 ∨ k = 5 ∨ k = 6 ∨ k = 7 ∨ k = 8 := by omega
  rcases this with rfl | rfl | rfl | rfl | rfl | rfl | rfl | rfl <;> rfl
set_option maxRecDepth 4000 in
set_option maxHeartbeats 1000000 in
theorem lays_d : DFun Tryz.prog 39 [] [] (.agg (rowsF fnL)) [] := by
  refine zal (N := 44) 0 (by kernel_rfl) Tryz.func39 rfl rfl rfl (by simp only [fr0, Nat.zero_add, Nat.reduceAdd]; exact rfl) rfl fun s0 hs0 => ?_
  refine zaf ?_
  refine zaj 1 (by simp only [holes, List.cons_append, List.nil_append]; exact rfl) ?_
  refine zad ?_
  refine zak rfl rfl rfl (zao 0 rfl zr83 rfl) (by simp only [upd, za, zaa]; exact rfl) ?_
  refine zae ?_
  refine zaf ?_
  refine zad ?_
  refine zab rfl rfl rfl (zac (.inr rfl) (ev1 rfl)) ?_
  refine zab rfl rfl rfl (zac (.inr rfl) (ev1 rfl)) ?_
  refine zab rfl rfl rfl (zac (.inr rfl) (ev1 rfl)) ?_
  refine zab rfl rfl rfl (zac (.inr rfl) (ev1 rfl)) ?_
  refine zab rfl rfl rfl (zac (.inr rfl) (ev1 rfl)) ?_
  refine zab rfl rfl rfl (zac (.inr rfl) (ev1 rfl)) ?_
  refine zae ?_
  refine zaf ?_
  refine zad ?_
  refine zab rfl rfl rfl (zac (.inl rfl) (ev1 rfl)) ?_
  refine zab rfl rfl rfl (zac (.inl rfl) (ev1 rfl)) ?_
  refine zab rfl rfl rfl (zac (.inl rfl) (ev1 rfl)) ?_
  refine zab rfl rfl rfl (zac (.inl rfl) (ev1 rfl)) ?_
  refine zab rfl rfl rfl (zac (.inl rfl) (ev1 rfl)) ?_
  refine zab rfl rfl rfl (zac (.inl rfl) (ev1 rfl)) ?_
  refine zab rfl rfl rfl (op_bsr (ps := [(0, .tmp 7), (1, .tmp 8), (2, .tmp 9), (3, .tmp 10), (4, .tmp 11), (5, .tmp 12)]) rfl sl82 zr85 rfl (ec (ev1 rfl) (ec (ev1 rfl) (ec (ev1 rfl) (ec (ev1 rfl) (ec (ev1 rfl) (ec (ev1 rfl) en)))))) rfl rfl rfl (by rfl) rfl (by decide) (by decide)) ?_
  refine zab rfl rfl rfl (zac (.inl rfl) (ev1 rfl)) ?_
  refine zab rfl rfl rfl (zac (.inl rfl) (ev1 rfl)) ?_
  refine zab rfl rfl rfl (zac (.inl rfl) (ev1 rfl)) ?_
  refine zab rfl rfl rfl (zac (.inl rfl) (ev1 rfl)) ?_
  refine zab rfl rfl rfl (zac (.inl rfl) (ev1 rfl)) ?_
  refine zab rfl rfl rfl (zac (.inl rfl) (ev1 rfl)) ?_
  refine zab rfl rfl rfl (op_bsr (ps := [(0, .tmp 14), (1, .tmp 15), (2, .tmp 16), (3, .tmp 17), (4, .tmp 18), (5, .tmp 19)]) rfl sl82 zr85 rfl (ec (ev1 rfl) (ec (ev1 rfl) (ec (ev1 rfl) (ec (ev1 rfl) (ec (ev1 rfl) (ec (ev1 rfl) en)))))) rfl rfl rfl (by rfl) rfl (by decide) (by decide)) ?_
  refine zab rfl rfl rfl (zac (.inl rfl) (ev1 rfl)) ?_
  refine zab rfl rfl rfl (zac (.inl rfl) (ev1 rfl)) ?_
  refine zab rfl rfl rfl (zac (.inl rfl) (ev1 rfl)) ?_
  refine zab rfl rfl rfl (zac (.inl rfl) (ev1 rfl)) ?_
  refine zab rfl rfl rfl (zac (.inl rfl) (ev1 rfl)) ?_
  refine zab rfl rfl rfl (op_bsr (ps := [(0, .tmp 21), (1, .tmp 22), (2, .tmp 23), (3, .tmp 24), (4, .tmp 25)]) rfl sl82 zr85 rfl (ec (ev1 rfl) (ec (ev1 rfl) (ec (ev1 rfl) (ec (ev1 rfl) (ec (ev1 rfl) en))))) rfl rfl rfl (by rfl) rfl (by decide) (by decide)) ?_
  refine zab rfl rfl rfl (zac (.inl rfl) (ev1 rfl)) ?_
  refine zab rfl rfl rfl (zac (.inl rfl) (ev1 rfl)) ?_
  refine zab rfl rfl rfl (zac (.inl rfl) (ev1 rfl)) ?_
  refine zab rfl rfl rfl (zac (.inl rfl) (ev1 rfl)) ?_
  refine zab rfl rfl rfl (zac (.inl rfl) (ev1 rfl)) ?_
  refine zab rfl rfl rfl (op_bsr (ps := [(0, .tmp 27), (1, .tmp 28), (2, .tmp 29), (3, .tmp 30), (4, .tmp 31)]) rfl sl82 zr85 rfl (ec (ev1 rfl) (ec (ev1 rfl) (ec (ev1 rfl) (ec (ev1 rfl) (ec (ev1 rfl) en))))) rfl rfl rfl (by rfl) rfl (by decide) (by decide)) ?_
  refine zab rfl rfl rfl (zac (.inl rfl) (ev1 rfl)) ?_
  refine zab rfl rfl rfl (zac (.inl rfl) (ev1 rfl)) ?_
  refine zab rfl rfl rfl (zac (.inl rfl) (ev1 rfl)) ?_
  refine zab rfl rfl rfl (zac (.inl rfl) (ev1 rfl)) ?_
  refine zab rfl rfl rfl (op_bsr (ps := [(0, .tmp 33), (1, .tmp 34), (2, .tmp 35), (3, .tmp 36)]) rfl sl82 zr85 rfl (ec (ev1 rfl) (ec (ev1 rfl) (ec (ev1 rfl) (ec (ev1 rfl) en)))) rfl rfl rfl (by rfl) rfl (by decide) (by decide)) ?_
  refine zab rfl rfl rfl (zac (.inl rfl) (ev1 rfl)) ?_
  refine zab rfl rfl rfl (zac (.inl rfl) (ev1 rfl)) ?_
  refine zab rfl rfl rfl (op_bsr (ps := [(0, .tmp 38), (1, .tmp 39), (2, .func 74)]) rfl sl82 zr85 rfl (ec (ev1 rfl) (ec (ev1 rfl) (ec (ev1 rfl) en))) rfl rfl rfl (by rfl) rfl (by decide) (by decide)) ?_
  refine zab rfl rfl rfl (op_bsr (ps := [(0, .func 75)]) rfl sl82 zr85 rfl (ec (ev1 rfl) en) rfl rfl rfl (by rfl) rfl (by decide) (by decide)) ?_
  refine zab rfl rfl rfl (op_bsr (ps := [(0, .func 75)]) rfl sl82 zr85 rfl (ec (ev1 rfl) en) rfl rfl rfl (by rfl) rfl (by decide) (by decide)) ?_
  refine zab rfl rfl rfl (op_bldaD (ps := [(1, .tmp 13), (2, .tmp 20), (3, .tmp 26), (4, .tmp 32), (5, .tmp 37), (6, .tmp 40), (7, .tmp 41), (8, .tmp 42)]) rfl ar83 zr83 (ec (ev1 rfl) (ec (ev1 rfl) (ec (ev1 rfl) (ec (ev1 rfl) (ec (ev1 rfl) (ec (ev1 rfl) (ec (ev1 rfl) (ec (ev1 rfl) en)))))))) rfl rfl rfl rfl) ?_
  refine walk_s rfl rfl (op_stam rfl tb83 (ev1 rfl) (ev1 rfl) rfl rfl rfl rfl) (by simp only [upd, za, zaa]; exact rfl) ?_
  refine zae ?_
  refine zan ?_
  refine kend0 (rs1 rfl (rv_mw tb83 rfl rfl rfl)) rfl ?_
  rfl
set_option maxRecDepth 4000 in
set_option maxHeartbeats 1000000 in
theorem llaid_d (o : OpM) (k : Nat) (l : List Int) (hl : l.length ≤ 50000) : DFun Tryz.prog 32 [.loc 0 0] [.mix 72 (opD o ++ [.farr 1 k]), fmB k (l)] (.arr 2) [.mix 72 (opD o ++ [.farr 1 k]), fmB k (l), .arr 5 1 (l).length ((l).flatMap uc8)] := by
  refine zal (N := 8) 2 (by kernel_rfl) Tryz.func32 rfl rfl rfl (by simp only [fr0, Nat.zero_add, Nat.reduceAdd]; exact rfl) rfl fun s0 hs0 => ?_
  refine zaf ?_
  refine zad ?_
  refine zab rfl rfl rfl (zac (.inr rfl) (ev1 rfl)) ?_
  refine zae ?_
  refine zaf ?_
  refine zaj 1 (by simp only [holes, List.cons_append, List.nil_append]; exact rfl) ?_
  refine zad ?_
  refine zab rfl rfl rfl (zac (.inl rfl) (ev1 rfl)) ?_
  refine zab rfl rfl rfl (op_nc rfl (ev1 rfl) (fun s v h => by cases h; exact ⟨_, rfl⟩)) ?_
  refine zab rfl rfl rfl (zap rfl fo72_1 (ev1 rfl)) ?_
  refine zab rfl rfl rfl (zaq rfl tb30 (ev1 rfl) rfl rfl) ?_
  refine zak rfl rfl rfl (zah [] [1] [2] rfl (ev1 rfl) (ec (ev1 rfl) en) (vwL_cons' (vw_farrS rfl rfl rfl fm_at) rfl) rfl (cloneB l (by omega)) rfl rfl rfl rfl rfl rfl) (by simp only [upd, za, zaa]; exact rfl) ?_
  refine zab rfl rfl rfl (zac (.inr rfl) (ev1 rfl)) ?_
  refine zae ?_
  refine zan ?_
  refine kend [0, 1, 2] (rs1 rfl (rv_t rfl)) rfl rfl ?_ ⟨rfl, rfl, rfl, trivial⟩
  rfl
def zO : OpM := ⟨zI3, 0, 0, 0, 0, 0, 0, zC4, 0, 0, [], zI3⟩
theorem wkZ : WkL ([.int .u64 0, .int .i64 0, .int .u64 0, .int .i64 0, .int .i64 0, .int .i64 0, .int .i64 0, .int .i64 0, .int .i64 0, .int .u8 0, .int .u8 0, .int .u8 0, .int .u8 0, .int .i64 0, .int .i64 0, .slice none 0 0, .int .u64 0, .int .i64 0, .int .u64 0, .slice none 0 0].map D.val) (opD zO ++ [.val (.slice none 0 0)]) :=
  WkL.cons (Wk.refl _) (WkL.cons (Wk.refl _) (WkL.cons (Wk.refl _) (WkL.cons (Wk.refl _) (WkL.cons (Wk.refl _) (WkL.cons (Wk.refl _) (WkL.cons (Wk.refl _) (WkL.cons (Wk.refl _) (WkL.cons (Wk.refl _) (WkL.cons (Wk.refl _) (WkL.cons (Wk.refl _) (WkL.cons (Wk.refl _) (WkL.cons (Wk.refl _) (WkL.cons (Wk.refl _) (WkL.cons (Wk.refl _) (WkL.cons (Wk.slf0 4) (WkL.cons (Wk.refl _) (WkL.cons (Wk.refl _) (WkL.cons (Wk.refl _) (WkL.cons (Wk.refl _) (WkL.nil))))))))))))))))))))
set_option maxRecDepth 4000 in
set_option maxHeartbeats 1000000 in
theorem cid_o (i : I3) (hi : mayR i = true) : DFun Tryz.prog 7 [.val (.agg (idc i).toArray)] [] (.tup [.arr 0, .val (.int .i64 0)]) [.arr 5 1 (idB i).length ((idB i).flatMap uc8)] := by
  refine zal (N := 14) 0 (by kernel_rfl) Tryz.func7 rfl rfl rfl (by simp only [fr0, Nat.zero_add, Nat.reduceAdd]; exact rfl) rfl fun s0 hs0 => ?_
  refine zaf ?_
  refine zaj 1 (by simp only [holes, List.cons_append, List.nil_append]; exact rfl) ?_
  refine zad ?_
  refine zak rfl rfl rfl (op_boxa 0 rfl (ev1 rfl) rfl) (by simp only [upd, za, zaa]; exact rfl) ?_
  refine zab rfl rfl rfl (zac (.inr rfl) (ev1 rfl)) ?_
  refine zab rfl rfl rfl (zac (.inr rfl) (ev1 rfl)) ?_
  refine zae ?_
  refine zaf ?_
  refine zaf ?_
  refine zad ?_
  refine zab rfl rfl rfl (op_ldw rfl tb29 (ev1 rfl) rfl rfl) ?_
  refine zab rfl rfl rfl (zah [] [] [] rfl (ev1 rfl) (ec (ev1 rfl) en) rfl rfl (idCheck_d i) rfl rfl rfl rfl rfl rfl) ?_
  refine zab rfl rfl rfl (zac (.inr rfl) (ev1 rfl)) ?_
  refine zae ?_
  refine zaf ?_
  refine zad ?_
  refine zab rfl rfl rfl (zac (.inl rfl) (ev1 rfl)) ?_
  refine zab rfl rfl rfl (op_neq rfl (ev1 rfl) (ev1 rfl)) ?_
  refine zae ?_
  refine dwp_if_f rfl (by rw [hi]; rfl) ?_
  refine zam ?_
  refine zaf ?_
  refine zaj 1 (by simp only [holes, List.cons_append, List.nil_append]; exact rfl) ?_
  refine zad ?_
  refine zak rfl rfl rfl (zao 1 rfl zr72 rfl) (by simp only [upd, za, zaa]; exact rfl) ?_
  refine zae ?_
  refine zaf ?_
  refine dwp_reb 1 reb_mix rfl rfl (by simp only [List.cons_append, List.nil_append, za, zaa, List.map]; exact rfl) ?_
  refine dwp_reb 1 (reb_wk wkZ) rfl rfl (by simp only [List.cons_append, List.nil_append, za, zaa, List.map]; exact rfl) ?_
  refine dwp_adoptc (l' := opD zO ++ [.arr 2]) 1 19 5 1 rfl rfl rfl rfl (by simp only [List.cons_append, List.nil_append, za, zaa, List.length_cons, List.length_nil, Nat.zero_add, Nat.reduceAdd]; exact rfl) ?_
  refine dwp_reb 2 reb_arr rfl rfl (by simp only [List.cons_append, List.nil_append, za, zaa, List.length_cons, List.length_nil, Nat.zero_add, Nat.reduceAdd]; exact rfl) ?_
  refine dwp_hole ?_
  refine dwp_fam 3 rfl (by simp only [List.cons_append, List.nil_append, za, zaa, List.length_cons, List.length_nil, Nat.zero_add, Nat.reduceAdd]; exact rfl) ?_
  refine dwp_absc 1 19 3 rfl rfl rfl rfl (by simp only [List.cons_append, List.nil_append, za, zaa, List.length_cons, List.length_nil, Nat.zero_add, Nat.reduceAdd]; exact rfl) ?_
  refine zad ?_
  refine zab rfl rfl rfl (op_ldw rfl tb29 (ev1 rfl) rfl rfl) ?_
  refine zak rfl rfl rfl (zah [1, 3] [] [] rfl (ev1 rfl) (ec (ev1 rfl) (ec (ev1 rfl) en)) rfl rfl (lid_d zO 0 [] i hi (by decide)) rfl rfl rfl rfl rfl rfl) (by simp only [upd, za, zaa]; exact rfl) ?_
  refine zae ?_
  refine zaf ?_
  refine zaj 1 (by simp only [holes, List.cons_append, List.nil_append]; exact rfl) ?_
  refine zad ?_
  refine zak rfl rfl rfl (zah [1, 3] [] [4] rfl (ev1 rfl) (ec (ev1 rfl) en) rfl rfl (llaid_d zO (0 + 3) (idB i) (by rw [idB_len]; omega)) rfl rfl rfl rfl rfl rfl) (by simp only [upd, za, zaa]; exact rfl) ?_
  refine zab rfl rfl rfl (zac (.inr rfl) (ev1 rfl)) ?_
  refine zab rfl rfl rfl (zac (.inr rfl) (ev1 rfl)) ?_
  refine zae ?_
  refine zan ?_
  refine kend [4] (rs2 rfl (rv_t rfl) (rv_t rfl)) rfl rfl ?_ ⟨rfl, trivial⟩
  rfl
theorem cid_ok (i : I3) (hi : mayR i = true) : DFun Tryz.prog 7 [.val (.agg (idc i).toArray)] [] (.tup [.slf 1 (idB i).length ((idB i).flatMap uc8), .val (.int .i64 0)]) [] := freeze (cid_o i hi) rfl
end Go.Proofs.YtmacjicebemgoaaGreat
namespace Go.Proofs.YtmacjicebemgoaaGreat
set_option linter.unusedVariables false
set_option linter.unusedSimpArgs false
open Go.RowKit
attribute [local irreducible] opL layW idB layF fieldsK kdN
theorem aw83 : arW Tryz.prog 83 = some 9 := by kernel_rfl
theorem fl72 : fdL Tryz.prog 72 = some [(0, 19), (19, 1)] := by kernel_rfl
theorem tb47 : tyB Tryz.prog 47 = some (true, 19) := by kernel_rfl
theorem tb72 : tyB Tryz.prog 72 = some (true, 20) := by kernel_rfl
theorem tb85 : tyB Tryz.prog 85 = some (false, 1) := by kernel_rfl
set_option maxRecDepth 4000 in
set_option maxHeartbeats 1000000 in
theorem cop_o (o : OpM) (h : okO o) : DFun Tryz.prog 15 [.agg (opD o)] [] (.tup [.arr 0, .val (.int .i64 0)]) [.arr 5 1 (opL o).length ((opL o).flatMap uc8)] := by
  refine zal (N := 35) 0 (by kernel_rfl) Tryz.func15 rfl rfl rfl (by simp only [fr0, Nat.zero_add, Nat.reduceAdd]; exact rfl) rfl fun s0 hs0 => ?_
  refine zaf ?_
  obtain ⟨hkN, hk⟩ := kdN_eq h.1
  have hid : mayR o.id = true := opB_idm h.1
  have hok := okF_of h
  have e1 : ((256 ^ 1 : Nat) : Int) = 256 := by decide
  refine zaj 1 (by simp only [holes, List.cons_append, List.nil_append]; exact rfl) ?_
  refine zad ?_
  refine zak rfl rfl rfl (op_boxam 0 rfl (ev1 rfl) rfl) (by simp only [upd, za, zaa]; exact rfl) ?_
  refine zab rfl rfl rfl (zac (.inr rfl) (ev1 rfl)) ?_
  refine zab rfl rfl rfl (zac (.inr rfl) (ev1 rfl)) ?_
  refine zae ?_
  refine zaf ?_
  refine zaf ?_
  refine zad ?_
  refine zab rfl rfl rfl (op_ldmw rfl tb47 (ev1 rfl) rfl rfl) ?_
  refine zab rfl rfl rfl (zah [] [] [] rfl (ev1 rfl) (ec (ev1 rfl) en) rfl rfl (opCheck_d o) rfl rfl rfl rfl rfl rfl) ?_
  refine zab rfl rfl rfl (zac (.inr rfl) (ev1 rfl)) ?_
  refine zae ?_
  refine zaf ?_
  refine zad ?_
  refine zab rfl rfl rfl (zac (.inl rfl) (ev1 rfl)) ?_
  refine zab rfl rfl rfl (op_neq rfl (ev1 rfl) (ev1 rfl)) ?_
  refine zae ?_
  refine dwp_if_f rfl (by rw [h.1]; rfl) ?_
  refine zam ?_
  refine zaf ?_
  refine zaj 1 (by simp only [holes, List.cons_append, List.nil_append]; exact rfl) ?_
  refine zad ?_
  refine zab rfl rfl rfl (op_ldmw rfl tb47 (ev1 rfl) rfl rfl) ?_
  refine zab rfl rfl rfl ((op_bldD (ps := [(0, .tmp 13)]) rfl fl72 zr72 (ec (ev1 rfl) en) rfl rfl rfl).cast (d' := .agg (opD o ++ [.val (.slice none 0 0)])) (by kernel_rfl)) ?_
  refine zak rfl rfl rfl (zao 1 rfl zr72 rfl) (by simp only [upd, za, zaa]; exact rfl) ?_
  refine walk_s rfl rfl (op_stam rfl tb72 (ev1 rfl) (ev1 rfl) rfl rfl rfl rfl) (by simp only [upd, za, zaa]; exact rfl) ?_
  refine zae ?_
  refine zaf ?_
  refine dwp_adoptc (l' := opD o ++ [.arr 2]) 1 19 5 1 rfl rfl rfl rfl (by simp only [List.cons_append, List.nil_append, za, zaa, List.length_cons, List.length_nil, Nat.zero_add, Nat.reduceAdd]; exact rfl) ?_
  refine dwp_reb 2 reb_arr rfl rfl (by simp only [List.cons_append, List.nil_append, za, zaa, List.length_cons, List.length_nil, Nat.zero_add, Nat.reduceAdd]; exact rfl) ?_
  refine dwp_hole ?_
  refine dwp_fam 3 rfl (by simp only [List.cons_append, List.nil_append, za, zaa, List.length_cons, List.length_nil, Nat.zero_add, Nat.reduceAdd]; exact rfl) ?_
  refine dwp_absc 1 19 3 rfl rfl rfl rfl (by simp only [List.cons_append, List.nil_append, za, zaa, List.length_cons, List.length_nil, Nat.zero_add, Nat.reduceAdd]; exact rfl) ?_
  refine zad ?_
  refine zab rfl rfl rfl (zap rfl fo47_1 (ev1 rfl)) ?_
  refine zab rfl rfl rfl (zaq rfl tb3 (ev1 rfl) rfl rfl) ?_
  refine zab rfl rfl rfl (op_conv' ty3 kn23 rfl (ev1 rfl) (fun _ => IntWalk.u64_in _ (by omega))) ?_
  refine zak rfl rfl rfl (zah [1, 3] [] [] rfl (ev1 rfl) (ec (ev1 rfl) (ec (ev1 rfl) (ec (ev1 rfl) en))) rfl rfl (lnum_d o 0 [] 1 o.kd (by decide) (by rw [e1]; omega) (by decide)) rfl rfl rfl rfl rfl rfl) (by simp only [upd, za, zaa]; exact rfl) ?_
  refine zae ?_
  refine zaf ?_
  refine zad ?_
  refine zab rfl rfl rfl (zap rfl fo47_0 (ev1 rfl)) ?_
  refine zab rfl rfl rfl (op_ldmv (R := [_, _, _]) rfl tb29 (ev1 rfl) rfl rfl rfl) ?_
  refine zak rfl rfl rfl (zah [1, 3] [] [] rfl (ev1 rfl) (ec (ev1 rfl) (ec (ev1 rfl) en)) rfl rfl (lid_d o (0 + 1) (layW 1 o.kd) o.id hid (by rw [layW_len]; omega)) rfl rfl rfl rfl rfl rfl) (by simp only [upd, za, zaa]; exact rfl) ?_
  refine zae ?_
  refine zaf ?_
  refine zaf ?_
  refine dwp_draw [([], []), ([], []), ([0], []), ([], []), ([], []), ([], [])] mixed (by kernel_rfl) ?_
  refine lex_r rfl rfl (zah [] [] [] rfl (ev1 rfl) en rfl rfl (lays_d) rfl rfl rfl rfl rfl rfl) ?_
  refine lex_r rfl rfl (zap rfl fo47_1 (ev1 rfl)) ?_
  refine lex_r rfl rfl ((zaq rfl tb3 (ev1 rfl) rfl rfl).cast (d' := .val (.int .i64 (kdN o : Int))) (by rw [hkN])) ?_
  refine lex_r rfl rfl (op_ixw (kdN o) rfl aw83 (ev1 rfl) (ev1 rfl) (fun _ => rfl) (by omega) (rowsF_at fnL hk)) ?_
  refine lex_r rfl rfl (op_lenm rfl sl82 (ev1 rfl)) ?_
  refine lex_r rfl rfl (zac (.inl rfl) (ev1 rfl)) ?_
  refine lex_nil ?_
  refine zat ?_
  refine dwp_loopS ⟨hs0, rfl⟩ (α := Nat × Nat) (fun x => [(27, .val (.int .i64 (x.1 : Int)))]) [(5, _), (25, _), (26, _)] (fun x => [(1, .mix 72 (opD o ++ [.farr 3 x.2])), (3, fmB x.2 (layW 1 o.kd ++ (idB o.id ++ ((fieldsK (kdN o)).take x.1).flatMap fun f => layF f o)))]) [_, .hole, _, .hole] (fun x => x.1 ≤ (fieldsK (kdN o)).length) (fun x => (fieldsK (kdN o)).length - x.1) (0, 0 + 1 + 3) [0, 1, 2, 3] (by simp) rfl ⟨rfl, rfl, rfl, trivial⟩ ⟨rfl, trivial⟩ ⟨rfl, rfl, rfl, fm_cat rfl (by simp), trivial⟩ ?_
  intro x hx
  simp only [upd, za, zaa, List.cons_append, List.nil_append]
  have hj := hx
  have h6 := fieldsK_len (kdN o)
  have hbl := fs_len (o := o) (fs := (fieldsK (kdN o)).take x.1) fun f hf => hok f (List.mem_of_mem_take hf)
  rw [List.length_take] at hbl
  refine zaf ?_
  refine zad ?_
  refine zab rfl rfl rfl (op_lss rfl (ev1 rfl) (ev1 rfl)) ?_
  refine zae ?_
  refine zaf ?_
  refine dwp_cond rfl (fun c2 => ?_) (fun c2 => ?_)
  · try simp only [decide_eq_true_eq, decide_eq_false_iff_not, beq_iff_eq, bne_iff_ne, beq_eq_false_iff_ne, bne_eq_false_iff_eq, Bool.not_eq_true', Bool.not_eq_false', Bool.and_eq_true, Bool.or_eq_true, Bool.or_eq_false_iff, ne_eq, Decidable.not_not, Int.not_lt, Int.not_le] at c2
    refine zam ?_
    refine zaf ?_
    refine zat ?_
    refine zaf ?_
    refine zad ?_
    refine zab rfl rfl rfl (op_ixm (x.1) rfl sl82 (ev1 rfl) (ev1 rfl) (fun _ => rfl) (flat1_at (by omega))) ?_
    refine zab rfl rfl rfl (op_lddm rfl tb85 (ev1 rfl) rfl) ?_
    refine zab rfl rfl rfl (zac (.inr rfl) (ev1 rfl)) ?_
    refine zae ?_
    refine zad ?_
    refine zab rfl rfl rfl (zac (.inl rfl) (ev1 rfl)) ?_
    refine zak rfl rfl rfl (zah [1, 3] [] [] rfl (ev1 rfl) (ec (ev1 rfl) en) rfl rfl (lF_d (fieldsK (kdN o))[x.1] (fieldsK_lt _ _ (List.getElem_mem _)) o x.2 (layW 1 o.kd ++ (idB o.id ++ ((fieldsK (kdN o)).take x.1).flatMap fun f => layF f o)) (hok _ (List.getElem_mem _)) (by simp only [List.length_append, layW_len, idB_len]; omega)) rfl rfl rfl rfl rfl rfl) (by simp only [upd, za, zaa]; exact rfl) ?_
    refine zae ?_
    refine zad ?_
    refine zab rfl rfl rfl (op_add' rfl (ev1 rfl) (ev1 rfl) (fun _ => IntWalk.i64_in _ (by omega))) ?_
    refine zab rfl rfl rfl (zac (.inl rfl) (ev1 rfl)) ?_
    refine zae ?_
    refine ⟨(x.1 + 1, x.2 + nF (fieldsK (kdN o))[x.1] o), [0, 1, 2, 3], by show x.1 + 1 ≤ _; omega, by show (fieldsK (kdN o)).length - (x.1 + 1) < (fieldsK (kdN o)).length - x.1; omega, rfl, ⟨rfl, rfl, rfl, rfl, trivial⟩, ⟨rfl, rfl, rfl, fm_cat rfl (by rw [fs_take (by omega)]; simp only [List.append_assoc]), trivial⟩⟩
  · try simp only [decide_eq_true_eq, decide_eq_false_iff_not, beq_iff_eq, bne_iff_ne, beq_eq_false_iff_ne, bne_eq_false_iff_eq, Bool.not_eq_true', Bool.not_eq_false', Bool.and_eq_true, Bool.or_eq_true, Bool.or_eq_false_iff, ne_eq, Decidable.not_not, Int.not_lt, Int.not_le] at c2
    refine dwp_exit ?_
    refine zaf ?_
    have hfin : layW 1 o.kd ++ (idB o.id ++ ((fieldsK (kdN o)).take x.1).flatMap fun f => layF f o) = opL o := by rw [show x.1 = (fieldsK (kdN o)).length by omega, List.take_length, opL_fields (opB_kd h.1)]
    have hol := opL_len h
    rw [hfin]
    refine zaj 1 (by simp only [holes, List.cons_append, List.nil_append]; exact rfl) ?_
    refine zad ?_
    refine zak rfl rfl rfl (zah [1, 3] [] [4] rfl (ev1 rfl) (ec (ev1 rfl) en) rfl rfl (llaid_d o (x.2) (opL o) (by omega)) rfl rfl rfl rfl rfl rfl) (by simp only [upd, za, zaa]; exact rfl) ?_
    refine zab rfl rfl rfl (zac (.inr rfl) (ev1 rfl)) ?_
    refine zab rfl rfl rfl (zac (.inr rfl) (ev1 rfl)) ?_
    refine zae ?_
    refine zan ?_
    refine kend [4] (rs2 rfl (rv_t rfl) (rv_t rfl)) rfl rfl ?_ ⟨rfl, trivial⟩
    rfl
theorem cop_ok (o : OpM) (h : okO o) : DFun Tryz.prog 15 [.agg (opD o)] [] (.tup [.slf 1 (opL o).length ((opL o).flatMap uc8), .val (.int .i64 0)]) [] := freeze (cop_o o h) rfl
end Go.Proofs.YtmacjicebemgoaaGreat
namespace Go.Proofs.YtmacjicebemgoaaGreat
set_option linter.unusedVariables false
set_option linter.unusedSimpArgs false
open Go.RowKit
attribute [local irreducible] opL layW idB layF fieldsK kdN
theorem sl26 : slE Tryz.prog 26 = some (47, 19, 144) := by kernel_rfl
theorem tb26 : tyB Tryz.prog 26 = some (false, 1) := by kernel_rfl
theorem zr47 : zrC Tryz.prog 47 = some [.int .u64 0, .int .i64 0, .int .u64 0, .int .i64 0, .int .i64 0, .int .i64 0, .int .i64 0, .int .i64 0, .int .i64 0, .int .u8 0, .int .u8 0, .int .u8 0, .int .u8 0, .int .i64 0, .int .i64 0, .slice none 0 0, .int .u64 0, .int .i64 0, .int .u64 0] := by kernel_rfl
set_option maxRecDepth 4000 in
set_option maxHeartbeats 1000000 in
theorem call_d (l : List OpM) : DFun Tryz.prog 46 [.slm 19 l.length (l.flatMap opD)] [] (.fn (.func 77) [] [.loc 0 0]) [.mix 26 [.slm 19 l.length (l.flatMap opD)]] := by
  refine zal (N := 4) 0 (by kernel_rfl) Tryz.func46 rfl rfl rfl (by simp only [fr0, Nat.zero_add, Nat.reduceAdd]; exact rfl) rfl fun s0 hs0 => ?_
  refine dwp_lenm (t := 0) rfl fun hl0 hL0 => ?_
  refine zaf ?_
  refine zaj 1 (by simp only [holes, List.cons_append, List.nil_append]; exact rfl) ?_
  refine zad ?_
  refine zak rfl rfl rfl (op_boxm 0 rfl (ev1 rfl) (fun s v h => by cases h <;> rfl) rfl) (by simp only [upd, za, zaa]; exact rfl) ?_
  refine zab rfl rfl rfl (zac (.inr rfl) (ev1 rfl)) ?_
  refine zae ?_
  refine zaf ?_
  refine zad ?_
  refine zab rfl rfl rfl (op_mkf rfl en (ec (ev1 rfl) en)) ?_
  refine zab rfl rfl rfl (zac (.inr rfl) (ev1 rfl)) ?_
  refine zae ?_
  refine zan ?_
  refine kend [0] (rs1 rfl (rv_t rfl)) rfl rfl ?_ ⟨rfl, trivial⟩
  rfl
noncomputable def opsrA : Code := rfA (pth [1, 0, 1, 1, 1, 0, 1, 0] (bodyOf Tryz.f19))
noncomputable def opsrB : Code := rfB (pth [1, 0, 1, 1, 1, 0, 1, 0] (bodyOf Tryz.f19))
set_option maxRecDepth 4000 in
set_option maxHeartbeats 1000000 in
theorem opsRound_go (o : OpM) (k : Nat) (l : List Int) (h : okO o) (hl : l.length ≤ 50000) : DRound Tryz.prog 0 [.agg (opD o)] [.lp 32 [(4, .loc 1 0), (5, .loc 2 0)] #[18] opsrA opsrB .ready none, .mix 30 [.farr 3 k], .flat 31 [.int .i64 0], fmB k (l)] true [.lp 32 [(4, .loc 1 0), (5, .loc 2 0)] #[18] opsrA opsrB .ready none, .mix 30 [.farr 3 (k + 1)], .flat 31 [.int .i64 0], fmB (k + 1) (l ++ opL o)] := by
  refine dround_go 4 rfl rfl (by simp) rfl rfl fun s0 hs0 => ?_
  refine zaj 1 (by simp only [holes, List.cons_append, List.nil_append]; exact rfl) ?_
  refine zad ?_
  refine zak rfl rfl rfl (zao 4 rfl zr47 rfl) (by simp only [upd, za, zaa]; exact rfl) ?_
  refine walk_s rfl rfl (op_stam rfl tb47 (ev1 rfl) (ev1 rfl) rfl rfl rfl rfl) (by simp only [upd, za, zaa]; exact rfl) ?_
  refine zae ?_
  refine ⟨rfl, ?_⟩
  simp only [za, zaa]
  refine zat ?_
  refine zaf ?_
  refine zad ?_
  refine zab rfl rfl rfl (op_ldmw rfl tb47 (ev1 rfl) rfl rfl) ?_
  refine zab rfl rfl rfl (zah [] [] [] rfl (ev1 rfl) (ec (ev1 rfl) en) rfl rfl (cop_ok o h) rfl rfl rfl rfl rfl rfl) ?_
  refine zab rfl rfl rfl (zac (.inl rfl) (ev1 rfl)) ?_
  refine zab rfl rfl rfl (zar rfl (ev1 rfl) rfl) ?_
  refine zab rfl rfl rfl (zar rfl (ev1 rfl) rfl) ?_
  refine zab rfl rfl rfl (zac (.inr rfl) (ev1 rfl)) ?_
  refine zab rfl rfl rfl (zac (.inr rfl) (ev1 rfl)) ?_
  refine zae ?_
  refine zaf ?_
  refine zaf ?_
  refine zad ?_
  refine zab rfl rfl rfl (zac (.inl rfl) (ev1 rfl)) ?_
  refine zab rfl rfl rfl (op_neq rfl (ev1 rfl) (ev1 rfl)) ?_
  refine zae ?_
  refine dwp_if_f rfl (rfl) ?_
  refine zam ?_
  have hol := opL_len h
  refine zaj 2 (by simp only [holes, List.cons_append, List.nil_append]; exact rfl) ?_
  refine zad ?_
  refine zab rfl rfl rfl (zaq rfl tb30 (ev1 rfl) rfl rfl) ?_
  refine zab rfl rfl rfl (zac (.inl rfl) (ev1 rfl)) ?_
  refine zak rfl rfl rfl ((op_appF (j1 := 5) (j2 := 6) rfl rfl sl30 zr5 rfl (ev1 rfl) (ev1 rfl) rfl (fm_at) rfl rfl rfl (fun _ => flat_oc (fun _ => rfl) _) (fun _ => ⟨by omega, by omega⟩)).cast (d' := .farr 3 (k + 1)) (by rw [fm_len])) (by simp only [upd, za, zaa]; exact rfl) ?_
  refine walk_s rfl rfl (op_stm rfl tb30 (ev1 rfl) (ev1 rfl) (fun s v h => by cases h <;> exact ⟨rfl, rfl⟩) rfl (by first | decide | exact Nat.le_of_ble_eq_true rfl | simp)) (by simp only [upd, za, zaa]; exact rfl) ?_
  refine zae ?_
  refine ⟨by first | rfl | assumption | simp_all, rfl, [0, 1, 2, 3], rfl, ⟨rfl, rfl, rfl, fm_app, trivial⟩⟩
set_option maxRecDepth 4000 in
set_option maxHeartbeats 1000000 in
theorem all1_ok (l : List OpM) (ho : ∀ o ∈ l, okO o) (hn : l.length ≤ 64) (k : Nat) (b : List Int) (hb : b.length ≤ 100) : DFun Tryz.prog 77 [.yld 0, .loc 4 0] [.lp 32 [(4, .loc 1 0), (5, .loc 2 0)] #[18] opsrA opsrB .ready none, .mix 30 [.farr 3 k], .flat 31 [.int .i64 0], fmB k (b), .mix 26 [.slm 19 l.length (l.flatMap opD)]] (.tup []) [.lp 32 [(4, .loc 1 0), (5, .loc 2 0)] #[18] opsrA opsrB .ready none, .mix 30 [.farr 3 (k + l.length)], .flat 31 [.int .i64 0], fmB (k + l.length) (b ++ l.flatMap opL), .mix 26 [.slm 19 l.length (l.flatMap opD)]] := by
  refine zal (N := 16) 5 (by kernel_rfl) Tryz.func77 rfl rfl rfl (by simp only [fr0, Nat.zero_add, Nat.reduceAdd]; exact rfl) rfl fun s0 hs0 => ?_
  refine zaf ?_
  refine zad ?_
  refine zab rfl rfl rfl (zaq rfl tb26 (ev1 rfl) rfl rfl) ?_
  refine zab rfl rfl rfl (op_lenm rfl sl26 (ev1 rfl)) ?_
  refine zab rfl rfl rfl (zac (.inl rfl) (ev1 rfl)) ?_
  refine zae ?_
  refine zat ?_
  refine dwp_loopS ⟨hs0, rfl⟩ (α := Nat) (fun j => [(7, .val (.int .i64 (j : Int)))]) [(0, _), (5, _), (6, _)] (fun j => [(1, .mix 30 [.farr 3 (k + j)]), (3, fmB (k + j) (b ++ (l.take j).flatMap opL))]) [_, .hole, _, .hole, _] (fun j => j ≤ l.length) (fun j => l.length - j) 0 [0, 1, 2, 3, 4] (by omega) rfl ⟨rfl, rfl, rfl, trivial⟩ ⟨rfl, trivial⟩ ⟨rfl, rfl, rfl, fm_cat rfl (by simp), rfl, trivial⟩ ?_
  intro j hx
  simp only [upd, za, zaa, List.cons_append, List.nil_append]
  have hj := hx
  have hol : ((l.take j).flatMap opL).length ≤ 278 * (l.take j).length := ops_len fun o h => ho o (List.mem_of_mem_take h)
  rw [List.length_take] at hol
  refine zaf ?_
  refine zad ?_
  refine zab rfl rfl rfl (op_lss rfl (ev1 rfl) (ev1 rfl)) ?_
  refine zae ?_
  refine zaf ?_
  refine dwp_cond rfl (fun c1 => ?_) (fun c1 => ?_)
  · try simp only [decide_eq_true_eq, decide_eq_false_iff_not, beq_iff_eq, bne_iff_ne, beq_eq_false_iff_ne, bne_eq_false_iff_eq, Bool.not_eq_true', Bool.not_eq_false', Bool.and_eq_true, Bool.or_eq_true, Bool.or_eq_false_iff, ne_eq, Decidable.not_not, Int.not_lt, Int.not_le] at c1
    refine zam ?_
    refine zaf ?_
    refine zat ?_
    refine zaf ?_
    refine zaj 1 (by simp only [holes, List.cons_append, List.nil_append]; exact rfl) ?_
    refine zad ?_
    refine zab rfl rfl rfl (op_ixmr (j) (by decide) rfl sl26 (ev1 rfl) (ev1 rfl) (fun _ => rfl) (by omega) (fun _ => rfl)) ?_
    refine zab rfl rfl rfl (op_lddr rfl tb47 (ev1 rfl) rfl rfl) ?_
    refine zak rfl rfl rfl (zao 5 rfl zr47 rfl) (by simp only [upd, za, zaa]; exact rfl) ?_
    refine walk_s rfl rfl (op_stam rfl tb47 (ev1 rfl) (ev1 rfl) rfl rfl rfl rfl) (by simp only [upd, za, zaa]; exact rfl) ?_
    refine zae ?_
    refine zaf ?_
    refine zad ?_
    refine zab rfl rfl rfl (zac (.inl rfl) (ev1 rfl)) ?_
    refine zab rfl rfl rfl (op_ldmw rfl tb47 (ev1 rfl) rfl rfl) ?_
    refine zak rfl rfl rfl (op_y (i := 0) [0, 1, 2, 3] [] [] rfl (ev1 rfl) (ec (ev1 rfl) en) rfl rfl rfl (opsRound_go l[j] (k + j) (b ++ (l.take j).flatMap opL) (ho _ (List.getElem_mem _)) (by rw [List.length_append]; omega)) rfl rfl rfl rfl rfl) (by simp only [upd, za, zaa]; exact rfl) ?_
    refine zab rfl rfl rfl (op_not rfl (ev1 rfl)) ?_
    refine zae ?_
    refine dwp_if_f rfl (rfl) ?_
    refine zam ?_
    refine zad ?_
    refine zab rfl rfl rfl (op_add' rfl (ev1 rfl) (ev1 rfl) (fun _ => IntWalk.i64_in _ (by omega))) ?_
    refine zab rfl rfl rfl (zac (.inl rfl) (ev1 rfl)) ?_
    refine zae ?_
    refine ⟨j + 1, [0, 1, 2, 3, 4], by omega, by simp only []; omega, rfl, ⟨rfl, rfl, rfl, rfl, trivial⟩, ⟨rfl, rfl, rfl, fm_cat rfl (by rw [ops_take (by omega), List.append_assoc]), rfl, trivial⟩⟩
  · try simp only [decide_eq_true_eq, decide_eq_false_iff_not, beq_iff_eq, bne_iff_ne, beq_eq_false_iff_ne, bne_eq_false_iff_eq, Bool.not_eq_true', Bool.not_eq_false', Bool.and_eq_true, Bool.or_eq_true, Bool.or_eq_false_iff, ne_eq, Decidable.not_not, Int.not_lt, Int.not_le] at c1
    refine dwp_exit ?_
    obtain rfl : j = l.length := by omega
    refine kend [0, 1, 2, 3, 4] (res_none rfl) rfl rfl ?_ ⟨?_, ?_, ?_, ?_, ?_, trivial⟩
    rfl
    rfl
    rfl
    rfl
    exact fm_cat rfl (by rw [List.take_length])
    rfl
set_option maxRecDepth 4000 in
set_option maxHeartbeats 1000000 in
theorem cops_ok (l : List OpM) (hn : l.length ≤ 64) (ho : ∀ o ∈ l, okO o) : DFun Tryz.prog 19 [.slm 19 l.length (l.flatMap opD)] [] (.tup [.slf 1 (rowL l).length ((rowL l).flatMap uc8), .val (.int .i64 0)]) [] := by
  refine zal (N := 32) 0 (by kernel_rfl) Tryz.func19 rfl rfl rfl (by simp only [fr0, Nat.zero_add, Nat.reduceAdd]; exact rfl) rfl fun s0 hs0 => ?_
  refine dwp_lenm (t := 0) rfl fun hl0 hL0 => ?_
  refine zaf ?_
  refine zad ?_
  refine zab rfl rfl rfl (zac (.inr rfl) (ev1 rfl)) ?_
  refine zab rfl rfl rfl (zac (.inr rfl) (ev1 rfl)) ?_
  refine zae ?_
  refine dwp_scope ?_
  refine zaf ?_
  refine zaf ?_
  refine zad ?_
  refine zab rfl rfl rfl (zac (.inl rfl) (ev1 rfl)) ?_
  refine zab rfl rfl rfl (op_lenm rfl sl26 (ev1 rfl)) ?_
  refine zab rfl rfl rfl (op_gtr rfl (ev1 rfl) (ev1 rfl)) ?_
  refine zae ?_
  refine dwp_if_f rfl (decide_eq_false (by omega)) ?_
  refine zam ?_
  refine zaf ?_
  refine zaj 3 (by simp only [holes, List.cons_append, List.nil_append]; exact rfl) ?_
  refine zad ?_
  refine zab rfl rfl rfl (zac (.inl rfl) (ev1 rfl)) ?_
  refine zab rfl rfl rfl (op_lenm rfl sl26 (ev1 rfl)) ?_
  refine zab rfl rfl rfl ((op_conv ty3 kn5 rfl (ev1 rfl)).cast (d' := .val (.int .u8 (l.length : Int))) (by rw [IntWalk.u8_in _ (by omega)])) ?_
  refine zak rfl rfl rfl (op_bsa (ps := [(0, .tmp 14)]) 0 rfl sl30 zr5 rfl (vc (ev1 rfl) vn) rfl (by decide) (by decide) rfl) (by simp only [upd, za, zaa]; exact rfl) ?_
  refine zak rfl rfl rfl (zao 1 rfl zr30 rfl) (by simp only [upd, za, zaa]; exact rfl) ?_
  refine zak rfl rfl rfl (zao 2 rfl zr31 rfl) (by simp only [upd, za, zaa]; exact rfl) ?_
  refine walk_s rfl rfl (op_stfm rfl tb30 (ev1 rfl) (ev1 rfl) (fun s v h => by cases h <;> exact ⟨rfl, rfl⟩) rfl (by decide)) (by simp only [upd, za, zaa]; exact rfl) ?_
  refine walk_s rfl rfl (op_stwi rfl tb31 (ev1 rfl) (ev1 rfl) rfl) (by simp only [upd, za, zaa]; exact rfl) ?_
  refine zae ?_
  refine zaf ?_
  refine dwp_label ?_
  refine zaf ?_
  refine zaf ?_
  refine zaj 1 (by simp only [holes, List.cons_append, List.nil_append]; exact rfl) ?_
  refine zad ?_
  refine zab rfl rfl rfl (zac (.inl rfl) (ev1 rfl)) ?_
  refine zak rfl rfl rfl (zah [] [] [3] rfl (ev1 rfl) (ec (ev1 rfl) en) rfl rfl (call_d l) rfl rfl rfl rfl rfl rfl) (by simp only [upd, za, zaa]; exact rfl) ?_
  refine zae ?_
  refine zat ?_
  refine dwp_hole ?_
  refine dwp_fam 4 rfl (by simp only [List.cons_append, List.nil_append, za, zaa]; exact rfl) ?_
  refine dwp_absc 1 0 4 rfl rfl rfl rfl (by simp only [List.cons_append, List.nil_append, za, zaa]; exact rfl) ?_
  refine dwp_hole ?_
  simp only [List.cons_append, List.nil_append]
  refine dwp_rf (FL := [(4, _), (5, _)]) (st := .ready) (pe := none) [5, 1, 2, 4, 3] [] [] 5 rfl rfl (ev1 rfl) rfl (subF_lk ⟨rfl, rfl, trivial⟩) rfl rfl rfl (all1_ok l ho hn 0 [(l.length : Int)] (by simp)) rfl rfl rfl rfl rfl rfl rfl (by simp) (fun e => ?_) (fun c e => ?_)
  · simp only [upd, za, zaa]
    refine zaf ?_
    refine dwp_draw [([1], []), ([2], []), ([], []), ([], [])] mixed (by kernel_rfl) ?_
    refine lex_r rfl rfl (zaq rfl tb30 (ev1 rfl) rfl rfl) ?_
    refine lex_r rfl rfl (op_ldo rfl tb31 (ev1 rfl) rfl rfl) ?_
    refine lex_r rfl rfl (zac (.inr rfl) (ev1 rfl)) ?_
    refine lex_r rfl rfl (zac (.inr rfl) (ev1 rfl)) ?_
    refine lex_nil ?_
    refine dwp_hole ?_
    refine dwp_rel 2 4 (j := 6) rfl rfl (fm_at) rfl (by simp only [List.cons_append, List.nil_append, za, zaa]; exact rfl) ?_
    refine dwp_giveA 2 rfl rfl (by simp only [List.cons_append, List.nil_append, za, zaa]; exact rfl) ?_
    refine zan ?_
    refine kend0 (rs2 rfl (rv_t rfl) (rv_t rfl)) rfl ?_
    rw [rowL_one hn]
    rfl
  · cases e
end Go.Proofs.YtmacjicebemgoaaGreat
namespace Go.Proofs.YtmacjicebemgoaaGreat
set_option linter.unusedVariables false
set_option linter.unusedSimpArgs false
open Go.RowKit
attribute [local irreducible] tkN valF numN
theorem fl139 : fdL Tryz.prog 139 = some [(0, 1)] := by kernel_rfl
theorem fo135_0 : fdO Tryz.prog 135 0 = some 0 := by kernel_rfl
theorem fo135_1 : fdO Tryz.prog 135 1 = some 1 := by kernel_rfl
theorem fo139_0 : fdO Tryz.prog 139 0 = some 0 := by kernel_rfl
theorem kn3 : knd Tryz.prog 3 = some .i64 := by kernel_rfl
theorem ni139 : niF Tryz.prog 139 = true := by kernel_rfl
theorem tb139 : tyB Tryz.prog 139 = some (true, 1) := by kernel_rfl
theorem zr139 : zrC Tryz.prog 139 = some [.int .i64 0] := by kernel_rfl
theorem zv139 : zrV Tryz.prog 139 = some (.agg #[.int .i64 0]) := by kernel_rfl
set_option maxRecDepth 4000 in
set_option maxHeartbeats 1000000 in
theorem ctold_no : DFun Tryz.prog 79 [.val .nilIface] [] (.val (.int .i64 0)) [] := by
  refine zal (N := 13) 0 (by kernel_rfl) Tryz.func79 rfl rfl rfl (by simp only [fr0, Nat.zero_add, Nat.reduceAdd]; exact rfl) rfl fun s0 hs0 => ?_
  refine zaf ?_
  refine zad ?_
  refine zab rfl rfl rfl (zac (.inr rfl) (ev1 rfl)) ?_
  refine zae ?_
  refine zaf ?_
  refine zaf ?_
  refine zaj 1 (by simp only [holes, List.cons_append, List.nil_append]; exact rfl) ?_
  refine zad ?_
  refine zab rfl rfl rfl (zac (.inl rfl) (ev1 rfl)) ?_
  refine zab rfl rfl rfl (op_tan rfl ni139 zv139 (ev1 rfl)) ?_
  refine zab rfl rfl rfl (zac (.inl rfl) (ev1 rfl)) ?_
  refine zab rfl rfl rfl (zar rfl (ev1 rfl) rfl) ?_
  refine zab rfl rfl rfl (zar rfl (ev1 rfl) rfl) ?_
  refine zak rfl rfl rfl (zao 0 rfl zr139 rfl) (by simp only [upd, za, zaa]; exact rfl) ?_
  refine walk_s rfl rfl (op_stwa rfl tb139 (ev1 rfl) (ev1 rfl) rfl rfl rfl rfl) (by simp only [upd, za, zaa]; exact rfl) ?_
  refine zab rfl rfl rfl (zac (.inr rfl) (ev1 rfl)) ?_
  refine zae ?_
  refine zaf ?_
  refine zad ?_
  refine zab rfl rfl rfl (zac (.inl rfl) (ev1 rfl)) ?_
  refine zae ?_
  refine dwp_if_f rfl (rfl) ?_
  refine zam ?_
  refine zaf ?_
  refine zad ?_
  refine zab rfl rfl rfl (zac (.inr rfl) (ev1 rfl)) ?_
  refine zae ?_
  refine zan ?_
  refine kend0 (rs1 rfl (rv_t rfl)) rfl ?_
  rfl
set_option maxRecDepth 4000 in
set_option maxHeartbeats 1000000 in
theorem ctold_w (n : Int) : DFun Tryz.prog 79 [.ifc 139 (.val (.agg #[.int .i64 n]))] [] (.val (.int .i64 n)) [] := by
  refine zal (N := 13) 0 (by kernel_rfl) Tryz.func79 rfl rfl rfl (by simp only [fr0, Nat.zero_add, Nat.reduceAdd]; exact rfl) rfl fun s0 hs0 => ?_
  refine zaf ?_
  refine zad ?_
  refine zab rfl rfl rfl (zac (.inr rfl) (ev1 rfl)) ?_
  refine zae ?_
  refine zaf ?_
  refine zaf ?_
  refine zaj 1 (by simp only [holes, List.cons_append, List.nil_append]; exact rfl) ?_
  refine zad ?_
  refine zab rfl rfl rfl (zac (.inl rfl) (ev1 rfl)) ?_
  refine zab rfl rfl rfl (op_tay rfl ni139 (ev1 rfl)) ?_
  refine zab rfl rfl rfl (zac (.inl rfl) (ev1 rfl)) ?_
  refine zab rfl rfl rfl (zar rfl (ev1 rfl) rfl) ?_
  refine zab rfl rfl rfl (zar rfl (ev1 rfl) rfl) ?_
  refine zak rfl rfl rfl (zao 0 rfl zr139 rfl) (by simp only [upd, za, zaa]; exact rfl) ?_
  refine walk_s rfl rfl (op_stwa rfl tb139 (ev1 rfl) (ev1 rfl) rfl rfl rfl rfl) (by simp only [upd, za, zaa]; exact rfl) ?_
  refine zab rfl rfl rfl (zac (.inr rfl) (ev1 rfl)) ?_
  refine zae ?_
  refine zaf ?_
  refine zad ?_
  refine zab rfl rfl rfl (zac (.inl rfl) (ev1 rfl)) ?_
  refine zae ?_
  refine dwp_if_t rfl (rfl) ?_
  refine zaf ?_
  refine zad ?_
  refine zab rfl rfl rfl (zap rfl fo139_0 (ev1 rfl)) ?_
  refine zab rfl rfl rfl (op_ldo rfl tb31 (ev1 rfl) rfl rfl) ?_
  refine zab rfl rfl rfl (zac (.inr rfl) (ev1 rfl)) ?_
  refine zae ?_
  refine zan ?_
  refine kend0 (rs1 rfl (rv_t rfl)) rfl ?_
  rfl
set_option maxRecDepth 4000 in
set_option maxHeartbeats 1000000 in
theorem cneed_ok (b : Bool) (e : Int) (h : b = true) : DFun Tryz.prog 51 [.val (.bool b), .val (.int .i64 e)] [] (.tup []) [] := by
  refine zal (N := 9) 0 (by kernel_rfl) Tryz.func51 rfl rfl rfl (by simp only [fr0, Nat.zero_add, Nat.reduceAdd]; exact rfl) rfl fun s0 hs0 => ?_
  refine zaf ?_
  refine zad ?_
  refine zab rfl rfl rfl (zac (.inl rfl) (ev1 rfl)) ?_
  refine zab rfl rfl rfl (op_not rfl (ev1 rfl)) ?_
  refine zae ?_
  refine dwp_if_f rfl (by simp [h]) ?_
  refine zam ?_
  refine kend0 (res_none rfl) rfl ?_
  rfl
set_option maxRecDepth 4000 in
set_option maxHeartbeats 1000000 in
theorem cneed_no (b : Bool) (e : Int) (h : b = false) : DPan Tryz.prog 51 [.val (.bool b), .val (.int .i64 e)] [] (.ifc 139 (.val (.agg #[.int .i64 e]))) [] := by
  refine zal (N := 9) 0 (by kernel_rfl) Tryz.func51 rfl rfl rfl (by simp only [fr0, Nat.zero_add, Nat.reduceAdd]; exact rfl) rfl fun s0 hs0 => ?_
  refine zaf ?_
  refine zad ?_
  refine zab rfl rfl rfl (zac (.inl rfl) (ev1 rfl)) ?_
  refine zab rfl rfl rfl (op_not rfl (ev1 rfl)) ?_
  refine zae ?_
  refine dwp_if_t rfl (by simp [h]) ?_
  refine zad ?_
  refine zab rfl rfl rfl (zac (.inl rfl) (ev1 rfl)) ?_
  refine zab rfl rfl rfl (op_build (ps := [(0, .tmp 6)]) rfl fl139 zr139 (vc (ev1 rfl) vn) rfl rfl) ?_
  refine zab rfl rfl rfl (op_mi rfl ni139 (ev1 rfl)) ?_
  refine walk_p rfl (op_pan rfl (ev1 rfl)) rfl ?_
  refine kpan0 rfl ?_
  rfl
set_option maxRecDepth 4000 in
set_option maxHeartbeats 1000000 in
theorem urerr_v (L : List Int) (e : Int) : DFun Tryz.prog 83 [.dpm [.slf 1 (L).length ((L).flatMap uc8), .val (.int .i64 e)]] [] (.val (.int .i64 e)) [] := by
  refine zal (N := 10) 0 (by kernel_rfl) Tryz.func83 rfl rfl rfl (by simp only [fr0, Nat.zero_add, Nat.reduceAdd]; exact rfl) rfl fun s0 hs0 => ?_
  refine zaf ?_
  refine zad ?_
  refine zab rfl rfl rfl (zac (.inr rfl) (ev1 rfl)) ?_
  refine zae ?_
  refine zaf ?_
  refine zaf ?_
  refine zad ?_
  refine zab rfl rfl rfl (zac (.inl rfl) (ev1 rfl)) ?_
  refine zab rfl rfl rfl (op_pnilm rfl pt131 (ev1 rfl)) ?_
  refine zae ?_
  refine dwp_if_f rfl (rfl) ?_
  refine zam ?_
  refine zaf ?_
  refine zad ?_
  refine zab rfl rfl rfl (zac (.inl rfl) (ev1 rfl)) ?_
  refine zab rfl rfl rfl (op_nc rfl (ev1 rfl) (fun s v h => by cases h; exact ⟨_, rfl⟩)) ?_
  refine zab rfl rfl rfl (op_fadm rfl fo157_0 (ev1 rfl)) ?_
  refine zab rfl rfl rfl (op_fadm rfl fo155_1 (ev1 rfl)) ?_
  refine zab rfl rfl rfl (op_lddm rfl tb31 (ev1 rfl) rfl) ?_
  refine zab rfl rfl rfl (zac (.inr rfl) (ev1 rfl)) ?_
  refine zae ?_
  refine zan ?_
  refine kend0 (rs1 rfl (rv_t rfl)) rfl ?_
  rfl
set_option maxRecDepth 4000 in
set_option maxHeartbeats 1000000 in
theorem tnum_ok (o : OpM) (L : List Int) (hL : okL L) (w : Nat) (hw : 1 ≤ w ∧ w ≤ 8) (n : Int) (r : List Int) (h : tN w L = .ok n r) : DFun Tryz.prog 50 [.loc 0 0, .val (.int .i64 (w : Int))] [.mix 135 (.loc 1 0 :: opD o), .mix 157 [.slf 1 (L).length ((L).flatMap uc8), .val (.int .i64 0)]] (.val (.int .u64 n)) [.mix 135 (.loc 1 0 :: opD o), .mix 157 [.slf 1 (r).length ((r).flatMap uc8), .val (.int .i64 0)]] := by
  refine zal (N := 25) 2 (by kernel_rfl) Tryz.func50 rfl rfl rfl (by simp only [fr0, Nat.zero_add, Nat.reduceAdd]; exact rfl) rfl fun s0 hs0 => ?_
  refine zaf ?_
  obtain ⟨h1, h2, h3, h4, h5⟩ := tN_num hL hw.2 h
  subst h2 h3
  refine zad ?_
  refine zab rfl rfl rfl (zac (.inr rfl) (ev1 rfl)) ?_
  refine zae ?_
  refine zaf ?_
  refine zad ?_
  refine zab rfl rfl rfl (zac (.inl rfl) (ev1 rfl)) ?_
  refine zab rfl rfl rfl (op_nc rfl (ev1 rfl) (fun s v h => by cases h; exact ⟨_, rfl⟩)) ?_
  refine zab rfl rfl rfl (zap rfl fo135_0 (ev1 rfl)) ?_
  refine zab rfl rfl rfl (zaq rfl tb131 (ev1 rfl) rfl rfl) ?_
  refine zab rfl rfl rfl (zac (.inl rfl) (ev1 rfl)) ?_
  refine zak rfl rfl rfl (zah [1] [] [] rfl (ev1 rfl) (ec (ev1 rfl) (ec (ev1 rfl) en)) rfl rfl (urnum_d L (okL_len hL) w hw h1) rfl rfl rfl rfl rfl rfl) (by simp only [upd, za, zaa]; exact rfl) ?_
  refine zab rfl rfl rfl (zac (.inr rfl) (ev1 rfl)) ?_
  refine zae ?_
  refine zaf ?_
  refine dwp_draw [([], []), ([], []), ([], []), ([0], []), ([1], []), ([], []), ([], []), ([], []), ([], []), ([0], []), ([1], []), ([], [])] mixed (by kernel_rfl) ?_
  refine lex_r rfl rfl (zac (.inl rfl) (ev1 rfl)) ?_
  refine lex_r rfl rfl (op_nc rfl (ev1 rfl) (fun s v h => by cases h; exact ⟨_, rfl⟩)) ?_
  refine lex_r rfl rfl (zap rfl fo135_0 (ev1 rfl)) ?_
  refine lex_r rfl rfl (zaq rfl tb131 (ev1 rfl) rfl rfl) ?_
  refine lex_r rfl rfl (zah [] [1] [] rfl (ev1 rfl) (ec (ev1 rfl) en) rfl rfl (urerr_v (L.drop w) (0)) rfl rfl rfl rfl rfl rfl) ?_
  refine lex_r rfl rfl (op_eql rfl (ev1 rfl) (ev1 rfl)) ?_
  refine lex_r rfl rfl (zac (.inl rfl) (ev1 rfl)) ?_
  refine lex_r rfl rfl (op_nc rfl (ev1 rfl) (fun s v h => by cases h; exact ⟨_, rfl⟩)) ?_
  refine lex_r rfl rfl (zap rfl fo135_0 (ev1 rfl)) ?_
  refine lex_r rfl rfl (zaq rfl tb131 (ev1 rfl) rfl rfl) ?_
  refine lex_r rfl rfl (zah [] [1] [] rfl (ev1 rfl) (ec (ev1 rfl) en) rfl rfl (urerr_v (L.drop w) (0)) rfl rfl rfl rfl rfl rfl) ?_
  refine lex_r rfl rfl (zah [] [] [] rfl (ev1 rfl) (ec (ev1 rfl) (ec (ev1 rfl) en)) rfl rfl (cneed_ok _ _ (rfl)) rfl rfl rfl rfl rfl rfl) ?_
  refine lex_nil ?_
  refine zaf ?_
  refine zad ?_
  refine zab rfl rfl rfl (zac (.inl rfl) (ev1 rfl)) ?_
  refine zab rfl rfl rfl (zac (.inr rfl) (ev1 rfl)) ?_
  refine zae ?_
  refine zan ?_
  refine kend [0, 1] (rs1 rfl (rv_t rfl)) rfl rfl ?_ ⟨rfl, rfl, trivial⟩
  rfl
set_option maxRecDepth 4000 in
set_option maxHeartbeats 1000000 in
theorem tnum_no (o : OpM) (L : List Int) (hL : okL L) (w : Nat) (hw : 1 ≤ w ∧ w ≤ 8) (e : Int) (h : tN w L = .err e) : DPan Tryz.prog 50 [.loc 0 0, .val (.int .i64 (w : Int))] [.mix 135 (.loc 1 0 :: opD o), .mix 157 [.slf 1 (L).length ((L).flatMap uc8), .val (.int .i64 0)]] (.ifc 139 (.val (.agg #[.int .i64 e]))) [.mix 135 (.loc 1 0 :: opD o), .mix 157 [.slf 1 (L).length ((L).flatMap uc8), .val (.int .i64 e)]] := by
  refine zal (N := 25) 2 (by kernel_rfl) Tryz.func50 rfl rfl rfl (by simp only [fr0, Nat.zero_add, Nat.reduceAdd]; exact rfl) rfl fun s0 hs0 => ?_
  refine zaf ?_
  obtain ⟨h1, rfl⟩ := tN_err h
  refine zad ?_
  refine zab rfl rfl rfl (zac (.inr rfl) (ev1 rfl)) ?_
  refine zae ?_
  refine zaf ?_
  refine zad ?_
  refine zab rfl rfl rfl (zac (.inl rfl) (ev1 rfl)) ?_
  refine zab rfl rfl rfl (op_nc rfl (ev1 rfl) (fun s v h => by cases h; exact ⟨_, rfl⟩)) ?_
  refine zab rfl rfl rfl (zap rfl fo135_0 (ev1 rfl)) ?_
  refine zab rfl rfl rfl (zaq rfl tb131 (ev1 rfl) rfl rfl) ?_
  refine zab rfl rfl rfl (zac (.inl rfl) (ev1 rfl)) ?_
  refine zak rfl rfl rfl (zah [1] [] [] rfl (ev1 rfl) (ec (ev1 rfl) (ec (ev1 rfl) en)) rfl rfl (urnum_no L w hw h1) rfl rfl rfl rfl rfl rfl) (by simp only [upd, za, zaa]; exact rfl) ?_
  refine zab rfl rfl rfl (zac (.inr rfl) (ev1 rfl)) ?_
  refine zae ?_
  refine zaf ?_
  refine dwp_drawP 11 [([], []), ([], []), ([], []), ([0], []), ([1], []), ([], []), ([], []), ([], []), ([], []), ([0], []), ([1], [])] mixed (by kernel_rfl) rfl rfl ?_
  refine lex_r rfl rfl (zac (.inl rfl) (ev1 rfl)) ?_
  refine lex_r rfl rfl (op_nc rfl (ev1 rfl) (fun s v h => by cases h; exact ⟨_, rfl⟩)) ?_
  refine lex_r rfl rfl (zap rfl fo135_0 (ev1 rfl)) ?_
  refine lex_r rfl rfl (zaq rfl tb131 (ev1 rfl) rfl rfl) ?_
  refine lex_r rfl rfl (zah [] [1] [] rfl (ev1 rfl) (ec (ev1 rfl) en) rfl rfl (urerr_v (L) (110)) rfl rfl rfl rfl rfl rfl) ?_
  refine lex_r rfl rfl (op_eql rfl (ev1 rfl) (ev1 rfl)) ?_
  refine lex_r rfl rfl (zac (.inl rfl) (ev1 rfl)) ?_
  refine lex_r rfl rfl (op_nc rfl (ev1 rfl) (fun s v h => by cases h; exact ⟨_, rfl⟩)) ?_
  refine lex_r rfl rfl (zap rfl fo135_0 (ev1 rfl)) ?_
  refine lex_r rfl rfl (zaq rfl tb131 (ev1 rfl) rfl rfl) ?_
  refine lex_r rfl rfl (zah [] [1] [] rfl (ev1 rfl) (ec (ev1 rfl) en) rfl rfl (urerr_v (L) (110)) rfl rfl rfl rfl rfl rfl) ?_
  refine lex_nil ⟨_, _, _, rfl, dop_callP [] [] [] rfl (ev1 rfl) (ec (ev1 rfl) (ec (ev1 rfl) en)) rfl rfl (cneed_no _ _ (rfl)) rfl rfl rfl rfl rfl rfl, ?_⟩
  refine kpan [0, 1] rfl rfl ?_ ⟨rfl, rfl, trivial⟩
  rfl
set_option maxRecDepth 4000 in
set_option maxHeartbeats 1000000 in
theorem tplace_ok (o : OpM) (L : List Int) (hL : okL L) (a : Int) (r : List Int) (h : tPl L = .ok a r) : DFun Tryz.prog 152 [.loc 0 0] [.mix 135 (.loc 1 0 :: opD o), .mix 157 [.slf 1 (L).length ((L).flatMap uc8), .val (.int .i64 0)]] (.val (.int .i64 a)) [.mix 135 (.loc 1 0 :: opD o), .mix 157 [.slf 1 (r).length ((r).flatMap uc8), .val (.int .i64 0)]] := by
  refine zal (N := 7) 2 (by kernel_rfl) Tryz.func152 rfl rfl rfl (by simp only [fr0, Nat.zero_add, Nat.reduceAdd]; exact rfl) rfl fun s0 hs0 => ?_
  refine zaf ?_
  obtain ⟨n, hn, rfl⟩ := tPl_ok h
  have hr := tN_one hL hn
  refine zad ?_
  refine zab rfl rfl rfl (zac (.inr rfl) (ev1 rfl)) ?_
  refine zae ?_
  refine zaf ?_
  refine zad ?_
  refine zab rfl rfl rfl (zac (.inl rfl) (ev1 rfl)) ?_
  refine zak rfl rfl rfl (zah [0, 1] [] [] rfl (ev1 rfl) (ec (ev1 rfl) (ec (ev1 rfl) en)) rfl rfl (tnum_ok o (L) (hL) 1 (by decide) (n) (r) (hn)) rfl rfl rfl rfl rfl rfl) (by simp only [upd, za, zaa]; exact rfl) ?_
  refine zab rfl rfl rfl (op_conv' ty23 kn3 rfl (ev1 rfl) (fun _ => IntWalk.i64_in _ (by omega))) ?_
  refine zab rfl rfl rfl ((op_add' rfl (ev1 rfl) (ev1 rfl) (fun _ => IntWalk.i64_in _ (by omega))).cast (d' := .val (.int .i64 (n - 64))) (by rw [show n + -64 = n - 64 by omega])) ?_
  refine zab rfl rfl rfl (zac (.inr rfl) (ev1 rfl)) ?_
  refine zae ?_
  refine zan ?_
  refine kend [0, 1] (rs1 rfl (rv_t rfl)) rfl rfl ?_ ⟨rfl, rfl, trivial⟩
  rfl
set_option maxRecDepth 4000 in
set_option maxHeartbeats 1000000 in
theorem tplace_no (o : OpM) (L : List Int) (hL : okL L) (e : Int) (h : tPl L = .err e) : DPan Tryz.prog 152 [.loc 0 0] [.mix 135 (.loc 1 0 :: opD o), .mix 157 [.slf 1 (L).length ((L).flatMap uc8), .val (.int .i64 0)]] (.ifc 139 (.val (.agg #[.int .i64 e]))) [.mix 135 (.loc 1 0 :: opD o), .mix 157 [.slf 1 (L).length ((L).flatMap uc8), .val (.int .i64 e)]] := by
  refine zal (N := 7) 2 (by kernel_rfl) Tryz.func152 rfl rfl rfl (by simp only [fr0, Nat.zero_add, Nat.reduceAdd]; exact rfl) rfl fun s0 hs0 => ?_
  refine zaf ?_
  refine zad ?_
  refine zab rfl rfl rfl (zac (.inr rfl) (ev1 rfl)) ?_
  refine zae ?_
  refine zaf ?_
  refine zad ?_
  refine zab rfl rfl rfl (zac (.inl rfl) (ev1 rfl)) ?_
  refine walk_p rfl (dop_callP [0, 1] [] [] rfl (ev1 rfl) (ec (ev1 rfl) (ec (ev1 rfl) en)) rfl rfl (tnum_no o (L) (hL) 1 (by decide) (e) (tPl_err h)) rfl rfl rfl rfl rfl rfl) rfl ?_
  refine kpan [0, 1] rfl rfl ?_ ⟨rfl, rfl, trivial⟩
  rfl
set_option maxRecDepth 4000 in
set_option maxHeartbeats 1000000 in
theorem tx_ok (o : OpM) (L : List Int) (hL : okL L) (a : Int) (r : List Int) (h : tPl L = .ok a r) : DFun Tryz.prog 128 [.loc 0 0] [.mix 135 (.loc 1 0 :: opD o), .mix 157 [.slf 1 (L).length ((L).flatMap uc8), .val (.int .i64 0)]] (.tup []) [.mix 135 (.loc 1 0 :: opD { o with x := a }), .mix 157 [.slf 1 (r).length ((r).flatMap uc8), .val (.int .i64 0)]] := by
  refine zal (N := 8) 2 (by kernel_rfl) Tryz.func128 rfl rfl rfl (by simp only [fr0, Nat.zero_add, Nat.reduceAdd]; exact rfl) rfl fun s0 hs0 => ?_
  refine zad ?_
  refine zab rfl rfl rfl (zac (.inl rfl) (ev1 rfl)) ?_
  refine zab rfl rfl rfl (zac (.inl rfl) (ev1 rfl)) ?_
  refine zak rfl rfl rfl (zah [0, 1] [] [] rfl (ev1 rfl) (ec (ev1 rfl) en) rfl rfl (tplace_ok o L hL a r h) rfl rfl rfl rfl rfl rfl) (by simp only [upd, za, zaa]; exact rfl) ?_
  refine zab rfl rfl rfl (op_nc rfl (ev1 rfl) (fun s v h => by cases h; exact ⟨_, rfl⟩)) ?_
  refine zab rfl rfl rfl (zap rfl fo135_1 (ev1 rfl)) ?_
  refine zab rfl rfl rfl (zap rfl fo47_2 (ev1 rfl)) ?_
  refine walk_s rfl rfl (op_stm rfl tb3 (ev1 rfl) (ev1 rfl) (fun s v h => by cases h <;> exact ⟨rfl, rfl⟩) rfl (by first | decide | exact Nat.le_of_ble_eq_true rfl | simp)) (by simp only [upd, za, zaa]; exact rfl) ?_
  refine zae ?_
  refine kend [0, 1] (res_none rfl) rfl rfl ?_ ⟨rfl, rfl, trivial⟩
  rfl
set_option maxRecDepth 4000 in
set_option maxHeartbeats 1000000 in
theorem tx_no (o : OpM) (L : List Int) (hL : okL L) (e : Int) (h : tPl L = .err e) : DPan Tryz.prog 128 [.loc 0 0] [.mix 135 (.loc 1 0 :: opD o), .mix 157 [.slf 1 (L).length ((L).flatMap uc8), .val (.int .i64 0)]] (.ifc 139 (.val (.agg #[.int .i64 e]))) [.mix 135 (.loc 1 0 :: opD o), .mix 157 [.slf 1 (L).length ((L).flatMap uc8), .val (.int .i64 e)]] := by
  refine zal (N := 8) 2 (by kernel_rfl) Tryz.func128 rfl rfl rfl (by simp only [fr0, Nat.zero_add, Nat.reduceAdd]; exact rfl) rfl fun s0 hs0 => ?_
  refine zad ?_
  refine zab rfl rfl rfl (zac (.inl rfl) (ev1 rfl)) ?_
  refine zab rfl rfl rfl (zac (.inl rfl) (ev1 rfl)) ?_
  refine walk_p rfl (dop_callP [0, 1] [] [] rfl (ev1 rfl) (ec (ev1 rfl) en) rfl rfl (tplace_no o L hL e h) rfl rfl rfl rfl rfl rfl) rfl ?_
  refine kpan [0, 1] rfl rfl ?_ ⟨rfl, rfl, trivial⟩
  rfl
set_option maxRecDepth 4000 in
set_option maxHeartbeats 1000000 in
theorem ty_ok (o : OpM) (L : List Int) (hL : okL L) (a : Int) (r : List Int) (h : tPl L = .ok a r) : DFun Tryz.prog 129 [.loc 0 0] [.mix 135 (.loc 1 0 :: opD o), .mix 157 [.slf 1 (L).length ((L).flatMap uc8), .val (.int .i64 0)]] (.tup []) [.mix 135 (.loc 1 0 :: opD { o with y := a }), .mix 157 [.slf 1 (r).length ((r).flatMap uc8), .val (.int .i64 0)]] := by
  refine zal (N := 8) 2 (by kernel_rfl) Tryz.func129 rfl rfl rfl (by simp only [fr0, Nat.zero_add, Nat.reduceAdd]; exact rfl) rfl fun s0 hs0 => ?_
  refine zad ?_
  refine zab rfl rfl rfl (zac (.inl rfl) (ev1 rfl)) ?_
  refine zab rfl rfl rfl (zac (.inl rfl) (ev1 rfl)) ?_
  refine zak rfl rfl rfl (zah [0, 1] [] [] rfl (ev1 rfl) (ec (ev1 rfl) en) rfl rfl (tplace_ok o L hL a r h) rfl rfl rfl rfl rfl rfl) (by simp only [upd, za, zaa]; exact rfl) ?_
  refine zab rfl rfl rfl (op_nc rfl (ev1 rfl) (fun s v h => by cases h; exact ⟨_, rfl⟩)) ?_
  refine zab rfl rfl rfl (zap rfl fo135_1 (ev1 rfl)) ?_
  refine zab rfl rfl rfl (zap rfl fo47_3 (ev1 rfl)) ?_
  refine walk_s rfl rfl (op_stm rfl tb3 (ev1 rfl) (ev1 rfl) (fun s v h => by cases h <;> exact ⟨rfl, rfl⟩) rfl (by first | decide | exact Nat.le_of_ble_eq_true rfl | simp)) (by simp only [upd, za, zaa]; exact rfl) ?_
  refine zae ?_
  refine kend [0, 1] (res_none rfl) rfl rfl ?_ ⟨rfl, rfl, trivial⟩
  rfl
set_option maxRecDepth 4000 in
set_option maxHeartbeats 1000000 in
theorem ty_no (o : OpM) (L : List Int) (hL : okL L) (e : Int) (h : tPl L = .err e) : DPan Tryz.prog 129 [.loc 0 0] [.mix 135 (.loc 1 0 :: opD o), .mix 157 [.slf 1 (L).length ((L).flatMap uc8), .val (.int .i64 0)]] (.ifc 139 (.val (.agg #[.int .i64 e]))) [.mix 135 (.loc 1 0 :: opD o), .mix 157 [.slf 1 (L).length ((L).flatMap uc8), .val (.int .i64 e)]] := by
  refine zal (N := 8) 2 (by kernel_rfl) Tryz.func129 rfl rfl rfl (by simp only [fr0, Nat.zero_add, Nat.reduceAdd]; exact rfl) rfl fun s0 hs0 => ?_
  refine zad ?_
  refine zab rfl rfl rfl (zac (.inl rfl) (ev1 rfl)) ?_
  refine zab rfl rfl rfl (zac (.inl rfl) (ev1 rfl)) ?_
  refine walk_p rfl (dop_callP [0, 1] [] [] rfl (ev1 rfl) (ec (ev1 rfl) en) rfl rfl (tplace_no o L hL e h) rfl rfl rfl rfl rfl rfl) rfl ?_
  refine kpan [0, 1] rfl rfl ?_ ⟨rfl, rfl, trivial⟩
  rfl
set_option maxRecDepth 4000 in
set_option maxHeartbeats 1000000 in
theorem tx2_ok (o : OpM) (L : List Int) (hL : okL L) (a : Int) (r : List Int) (h : tPl L = .ok a r) : DFun Tryz.prog 130 [.loc 0 0] [.mix 135 (.loc 1 0 :: opD o), .mix 157 [.slf 1 (L).length ((L).flatMap uc8), .val (.int .i64 0)]] (.tup []) [.mix 135 (.loc 1 0 :: opD { o with x2 := a }), .mix 157 [.slf 1 (r).length ((r).flatMap uc8), .val (.int .i64 0)]] := by
  refine zal (N := 8) 2 (by kernel_rfl) Tryz.func130 rfl rfl rfl (by simp only [fr0, Nat.zero_add, Nat.reduceAdd]; exact rfl) rfl fun s0 hs0 => ?_
  refine zad ?_
  refine zab rfl rfl rfl (zac (.inl rfl) (ev1 rfl)) ?_
  refine zab rfl rfl rfl (zac (.inl rfl) (ev1 rfl)) ?_
  refine zak rfl rfl rfl (zah [0, 1] [] [] rfl (ev1 rfl) (ec (ev1 rfl) en) rfl rfl (tplace_ok o L hL a r h) rfl rfl rfl rfl rfl rfl) (by simp only [upd, za, zaa]; exact rfl) ?_
  refine zab rfl rfl rfl (op_nc rfl (ev1 rfl) (fun s v h => by cases h; exact ⟨_, rfl⟩)) ?_
  refine zab rfl rfl rfl (zap rfl fo135_1 (ev1 rfl)) ?_
  refine zab rfl rfl rfl (zap rfl fo47_4 (ev1 rfl)) ?_
  refine walk_s rfl rfl (op_stm rfl tb3 (ev1 rfl) (ev1 rfl) (fun s v h => by cases h <;> exact ⟨rfl, rfl⟩) rfl (by first | decide | exact Nat.le_of_ble_eq_true rfl | simp)) (by simp only [upd, za, zaa]; exact rfl) ?_
  refine zae ?_
  refine kend [0, 1] (res_none rfl) rfl rfl ?_ ⟨rfl, rfl, trivial⟩
  rfl
set_option maxRecDepth 4000 in
set_option maxHeartbeats 1000000 in
theorem tx2_no (o : OpM) (L : List Int) (hL : okL L) (e : Int) (h : tPl L = .err e) : DPan Tryz.prog 130 [.loc 0 0] [.mix 135 (.loc 1 0 :: opD o), .mix 157 [.slf 1 (L).length ((L).flatMap uc8), .val (.int .i64 0)]] (.ifc 139 (.val (.agg #[.int .i64 e]))) [.mix 135 (.loc 1 0 :: opD o), .mix 157 [.slf 1 (L).length ((L).flatMap uc8), .val (.int .i64 e)]] := by
  refine zal (N := 8) 2 (by kernel_rfl) Tryz.func130 rfl rfl rfl (by simp only [fr0, Nat.zero_add, Nat.reduceAdd]; exact rfl) rfl fun s0 hs0 => ?_
  refine zad ?_
  refine zab rfl rfl rfl (zac (.inl rfl) (ev1 rfl)) ?_
  refine zab rfl rfl rfl (zac (.inl rfl) (ev1 rfl)) ?_
  refine walk_p rfl (dop_callP [0, 1] [] [] rfl (ev1 rfl) (ec (ev1 rfl) en) rfl rfl (tplace_no o L hL e h) rfl rfl rfl rfl rfl rfl) rfl ?_
  refine kpan [0, 1] rfl rfl ?_ ⟨rfl, rfl, trivial⟩
  rfl
set_option maxRecDepth 4000 in
set_option maxHeartbeats 1000000 in
theorem ty2_ok (o : OpM) (L : List Int) (hL : okL L) (a : Int) (r : List Int) (h : tPl L = .ok a r) : DFun Tryz.prog 131 [.loc 0 0] [.mix 135 (.loc 1 0 :: opD o), .mix 157 [.slf 1 (L).length ((L).flatMap uc8), .val (.int .i64 0)]] (.tup []) [.mix 135 (.loc 1 0 :: opD { o with y2 := a }), .mix 157 [.slf 1 (r).length ((r).flatMap uc8), .val (.int .i64 0)]] := by
  refine zal (N := 8) 2 (by kernel_rfl) Tryz.func131 rfl rfl rfl (by simp only [fr0, Nat.zero_add, Nat.reduceAdd]; exact rfl) rfl fun s0 hs0 => ?_
  refine zad ?_
  refine zab rfl rfl rfl (zac (.inl rfl) (ev1 rfl)) ?_
  refine zab rfl rfl rfl (zac (.inl rfl) (ev1 rfl)) ?_
  refine zak rfl rfl rfl (zah [0, 1] [] [] rfl (ev1 rfl) (ec (ev1 rfl) en) rfl rfl (tplace_ok o L hL a r h) rfl rfl rfl rfl rfl rfl) (by simp only [upd, za, zaa]; exact rfl) ?_
  refine zab rfl rfl rfl (op_nc rfl (ev1 rfl) (fun s v h => by cases h; exact ⟨_, rfl⟩)) ?_
  refine zab rfl rfl rfl (zap rfl fo135_1 (ev1 rfl)) ?_
  refine zab rfl rfl rfl (zap rfl fo47_5 (ev1 rfl)) ?_
  refine walk_s rfl rfl (op_stm rfl tb3 (ev1 rfl) (ev1 rfl) (fun s v h => by cases h <;> exact ⟨rfl, rfl⟩) rfl (by first | decide | exact Nat.le_of_ble_eq_true rfl | simp)) (by simp only [upd, za, zaa]; exact rfl) ?_
  refine zae ?_
  refine kend [0, 1] (res_none rfl) rfl rfl ?_ ⟨rfl, rfl, trivial⟩
  rfl
set_option maxRecDepth 4000 in
set_option maxHeartbeats 1000000 in
theorem ty2_no (o : OpM) (L : List Int) (hL : okL L) (e : Int) (h : tPl L = .err e) : DPan Tryz.prog 131 [.loc 0 0] [.mix 135 (.loc 1 0 :: opD o), .mix 157 [.slf 1 (L).length ((L).flatMap uc8), .val (.int .i64 0)]] (.ifc 139 (.val (.agg #[.int .i64 e]))) [.mix 135 (.loc 1 0 :: opD o), .mix 157 [.slf 1 (L).length ((L).flatMap uc8), .val (.int .i64 e)]] := by
  refine zal (N := 8) 2 (by kernel_rfl) Tryz.func131 rfl rfl rfl (by simp only [fr0, Nat.zero_add, Nat.reduceAdd]; exact rfl) rfl fun s0 hs0 => ?_
  refine zad ?_
  refine zab rfl rfl rfl (zac (.inl rfl) (ev1 rfl)) ?_
  refine zab rfl rfl rfl (zac (.inl rfl) (ev1 rfl)) ?_
  refine walk_p rfl (dop_callP [0, 1] [] [] rfl (ev1 rfl) (ec (ev1 rfl) en) rfl rfl (tplace_no o L hL e h) rfl rfl rfl rfl rfl rfl) rfl ?_
  refine kpan [0, 1] rfl rfl ?_ ⟨rfl, rfl, trivial⟩
  rfl
set_option maxRecDepth 4000 in
set_option maxHeartbeats 1000000 in
theorem tsize_ok (o : OpM) (L : List Int) (hL : okL L) (a : Int) (r : List Int) (h : tN 2 L = .ok a r) : DFun Tryz.prog 132 [.loc 0 0] [.mix 135 (.loc 1 0 :: opD o), .mix 157 [.slf 1 (L).length ((L).flatMap uc8), .val (.int .i64 0)]] (.tup []) [.mix 135 (.loc 1 0 :: opD { o with sz := a }), .mix 157 [.slf 1 (r).length ((r).flatMap uc8), .val (.int .i64 0)]] := by
  refine zal (N := 9) 2 (by kernel_rfl) Tryz.func132 rfl rfl rfl (by simp only [fr0, Nat.zero_add, Nat.reduceAdd]; exact rfl) rfl fun s0 hs0 => ?_
  have hr := tN_two hL h
  refine zad ?_
  refine zab rfl rfl rfl (zac (.inl rfl) (ev1 rfl)) ?_
  refine zab rfl rfl rfl (zac (.inl rfl) (ev1 rfl)) ?_
  refine zak rfl rfl rfl (zah [0, 1] [] [] rfl (ev1 rfl) (ec (ev1 rfl) (ec (ev1 rfl) en)) rfl rfl (tnum_ok o (L) (hL) 2 (by decide) (a) (r) (h)) rfl rfl rfl rfl rfl rfl) (by simp only [upd, za, zaa]; exact rfl) ?_
  refine zab rfl rfl rfl (op_conv' ty23 kn3 rfl (ev1 rfl) (fun _ => IntWalk.i64_in _ (by omega))) ?_
  refine zab rfl rfl rfl (op_nc rfl (ev1 rfl) (fun s v h => by cases h; exact ⟨_, rfl⟩)) ?_
  refine zab rfl rfl rfl (zap rfl fo135_1 (ev1 rfl)) ?_
  refine zab rfl rfl rfl (zap rfl fo47_6 (ev1 rfl)) ?_
  refine walk_s rfl rfl (op_stm rfl tb3 (ev1 rfl) (ev1 rfl) (fun s v h => by cases h <;> exact ⟨rfl, rfl⟩) rfl (by first | decide | exact Nat.le_of_ble_eq_true rfl | simp)) (by simp only [upd, za, zaa]; exact rfl) ?_
  refine zae ?_
  refine kend [0, 1] (res_none rfl) rfl rfl ?_ ⟨rfl, rfl, trivial⟩
  rfl
set_option maxRecDepth 4000 in
set_option maxHeartbeats 1000000 in
theorem tsize_no (o : OpM) (L : List Int) (hL : okL L) (e : Int) (h : tN 2 L = .err e) : DPan Tryz.prog 132 [.loc 0 0] [.mix 135 (.loc 1 0 :: opD o), .mix 157 [.slf 1 (L).length ((L).flatMap uc8), .val (.int .i64 0)]] (.ifc 139 (.val (.agg #[.int .i64 e]))) [.mix 135 (.loc 1 0 :: opD o), .mix 157 [.slf 1 (L).length ((L).flatMap uc8), .val (.int .i64 e)]] := by
  refine zal (N := 9) 2 (by kernel_rfl) Tryz.func132 rfl rfl rfl (by simp only [fr0, Nat.zero_add, Nat.reduceAdd]; exact rfl) rfl fun s0 hs0 => ?_
  refine zad ?_
  refine zab rfl rfl rfl (zac (.inl rfl) (ev1 rfl)) ?_
  refine zab rfl rfl rfl (zac (.inl rfl) (ev1 rfl)) ?_
  refine walk_p rfl (dop_callP [0, 1] [] [] rfl (ev1 rfl) (ec (ev1 rfl) (ec (ev1 rfl) en)) rfl rfl (tnum_no o (L) (hL) 2 (by decide) (e) (h)) rfl rfl rfl rfl rfl rfl) rfl ?_
  refine kpan [0, 1] rfl rfl ?_ ⟨rfl, rfl, trivial⟩
  rfl
end Go.Proofs.YtmacjicebemgoaaGreat
namespace Go.Proofs.YtmacjicebemgoaaGreat
set_option linter.unusedVariables false
set_option linter.unusedSimpArgs false
open Go.RowKit
attribute [local irreducible] tkN valF numN
set_option maxRecDepth 4000 in
set_option maxHeartbeats 1000000 in
theorem tpix_ok (o : OpM) (L : List Int) (hL : okL L) (c : C4) (r : List Int) (h : tCo L = .ok c r) : DFun Tryz.prog 153 [.loc 0 0] [.mix 135 (.loc 1 0 :: opD o), .mix 157 [.slf 1 (L).length ((L).flatMap uc8), .val (.int .i64 0)]] (.val (.agg (c4 c).toArray)) [.mix 135 (.loc 1 0 :: opD o), .mix 157 [.slf 1 (r).length ((r).flatMap uc8), .val (.int .i64 0)]] := by
  refine zal (N := 16) 2 (by kernel_rfl) Tryz.func153 rfl rfl rfl (by simp only [fr0, Nat.zero_add, Nat.reduceAdd]; exact rfl) rfl fun s0 hs0 => ?_
  refine zaf ?_
  obtain ⟨r1, r2, r3, e1, e2, e3, e4⟩ := tCo_ok h
  have k1 := okL_N hL e1
  have x1 := tN_one hL e1
  have k2 := okL_N k1 e2
  have x2 := tN_one k1 e2
  have k3 := okL_N k2 e3
  have x3 := tN_one k2 e3
  have x4 := tN_one k3 e4
  refine zaj 1 (by simp only [holes, List.cons_append, List.nil_append]; exact rfl) ?_
  refine zad ?_
  refine zak rfl rfl rfl (zao 2 rfl zr42 rfl) (by simp only [upd, za, zaa]; exact rfl) ?_
  refine zae ?_
  refine zaf ?_
  refine zad ?_
  refine zab rfl rfl rfl (zac (.inl rfl) (ev1 rfl)) ?_
  refine zak rfl rfl rfl (zah [0, 1] [] [] rfl (ev1 rfl) (ec (ev1 rfl) (ec (ev1 rfl) en)) rfl rfl (tnum_ok o (L) (hL) 1 (by decide) (c.r) (r1) (e1)) rfl rfl rfl rfl rfl rfl) (by simp only [upd, za, zaa]; exact rfl) ?_
  refine zab rfl rfl rfl (op_conv' ty23 kn5 rfl (ev1 rfl) (fun _ => IntWalk.u8_in _ (by omega))) ?_
  refine zab rfl rfl rfl (zac (.inl rfl) (ev1 rfl)) ?_
  refine zak rfl rfl rfl (zah [0, 1] [] [] rfl (ev1 rfl) (ec (ev1 rfl) (ec (ev1 rfl) en)) rfl rfl (tnum_ok o (r1) (k1) 1 (by decide) (c.g) (r2) (e2)) rfl rfl rfl rfl rfl rfl) (by simp only [upd, za, zaa]; exact rfl) ?_
  refine zab rfl rfl rfl (op_conv' ty23 kn5 rfl (ev1 rfl) (fun _ => IntWalk.u8_in _ (by omega))) ?_
  refine zab rfl rfl rfl (zac (.inl rfl) (ev1 rfl)) ?_
  refine zak rfl rfl rfl (zah [0, 1] [] [] rfl (ev1 rfl) (ec (ev1 rfl) (ec (ev1 rfl) en)) rfl rfl (tnum_ok o (r2) (k2) 1 (by decide) (c.b) (r3) (e3)) rfl rfl rfl rfl rfl rfl) (by simp only [upd, za, zaa]; exact rfl) ?_
  refine zab rfl rfl rfl (op_conv' ty23 kn5 rfl (ev1 rfl) (fun _ => IntWalk.u8_in _ (by omega))) ?_
  refine zab rfl rfl rfl (zac (.inl rfl) (ev1 rfl)) ?_
  refine zak rfl rfl rfl (zah [0, 1] [] [] rfl (ev1 rfl) (ec (ev1 rfl) (ec (ev1 rfl) en)) rfl rfl (tnum_ok o (r3) (k3) 1 (by decide) (c.a) (r) (e4)) rfl rfl rfl rfl rfl rfl) (by simp only [upd, za, zaa]; exact rfl) ?_
  refine zab rfl rfl rfl (op_conv' ty23 kn5 rfl (ev1 rfl) (fun _ => IntWalk.u8_in _ (by omega))) ?_
  refine zab rfl rfl rfl (op_build (ps := [(0, .tmp 5), (1, .tmp 8), (2, .tmp 11), (3, .tmp 14)]) rfl fl42 zr42 (vc (ev1 rfl) (vc (ev1 rfl) (vc (ev1 rfl) (vc (ev1 rfl) vn)))) rfl rfl) ?_
  refine walk_s rfl rfl (op_stwa rfl tb42 (ev1 rfl) (ev1 rfl) rfl rfl rfl rfl) (by simp only [upd, za, zaa]; exact rfl) ?_
  refine zae ?_
  refine zan ?_
  refine kend [0, 1] (rs1 rfl (rv_w tb42 rfl rfl rfl)) rfl rfl ?_ ⟨rfl, rfl, trivial⟩
  rfl
set_option maxRecDepth 4000 in
set_option maxHeartbeats 1000000 in
theorem tpix_no0 (o : OpM) (L : List Int) (hL : okL L) (e : Int) (h : tN 1 L = .err e) : DPan Tryz.prog 153 [.loc 0 0] [.mix 135 (.loc 1 0 :: opD o), .mix 157 [.slf 1 (L).length ((L).flatMap uc8), .val (.int .i64 0)]] (.ifc 139 (.val (.agg #[.int .i64 e]))) [.mix 135 (.loc 1 0 :: opD o), .mix 157 [.slf 1 (L).length ((L).flatMap uc8), .val (.int .i64 e)]] := by
  refine zal (N := 16) 2 (by kernel_rfl) Tryz.func153 rfl rfl rfl (by simp only [fr0, Nat.zero_add, Nat.reduceAdd]; exact rfl) rfl fun s0 hs0 => ?_
  refine zaf ?_
  refine zaj 1 (by simp only [holes, List.cons_append, List.nil_append]; exact rfl) ?_
  refine zad ?_
  refine zak rfl rfl rfl (zao 2 rfl zr42 rfl) (by simp only [upd, za, zaa]; exact rfl) ?_
  refine zae ?_
  refine zaf ?_
  refine zad ?_
  refine zab rfl rfl rfl (zac (.inl rfl) (ev1 rfl)) ?_
  refine walk_p rfl (dop_callP [0, 1] [] [] rfl (ev1 rfl) (ec (ev1 rfl) (ec (ev1 rfl) en)) rfl rfl (tnum_no o (L) (hL) 1 (by decide) (e) (h)) rfl rfl rfl rfl rfl rfl) rfl ?_
  refine kpan [0, 1] rfl rfl ?_ ⟨rfl, rfl, trivial⟩
  rfl
set_option maxRecDepth 4000 in
set_option maxHeartbeats 1000000 in
theorem tpix_no1 (o : OpM) (L : List Int) (hL : okL L) (x : Int) (r1 : List Int) (e1 : tN 1 L = .ok x r1) (e : Int) (h : tN 1 r1 = .err e) : DPan Tryz.prog 153 [.loc 0 0] [.mix 135 (.loc 1 0 :: opD o), .mix 157 [.slf 1 (L).length ((L).flatMap uc8), .val (.int .i64 0)]] (.ifc 139 (.val (.agg #[.int .i64 e]))) [.mix 135 (.loc 1 0 :: opD o), .mix 157 [.slf 1 (r1).length ((r1).flatMap uc8), .val (.int .i64 e)]] := by
  refine zal (N := 16) 2 (by kernel_rfl) Tryz.func153 rfl rfl rfl (by simp only [fr0, Nat.zero_add, Nat.reduceAdd]; exact rfl) rfl fun s0 hs0 => ?_
  refine zaf ?_
  have k1 := okL_N hL e1
  have x1 := tN_one hL e1
  refine zaj 1 (by simp only [holes, List.cons_append, List.nil_append]; exact rfl) ?_
  refine zad ?_
  refine zak rfl rfl rfl (zao 2 rfl zr42 rfl) (by simp only [upd, za, zaa]; exact rfl) ?_
  refine zae ?_
  refine zaf ?_
  refine zad ?_
  refine zab rfl rfl rfl (zac (.inl rfl) (ev1 rfl)) ?_
  refine zak rfl rfl rfl (zah [0, 1] [] [] rfl (ev1 rfl) (ec (ev1 rfl) (ec (ev1 rfl) en)) rfl rfl (tnum_ok o (L) (hL) 1 (by decide) (x) (r1) (e1)) rfl rfl rfl rfl rfl rfl) (by simp only [upd, za, zaa]; exact rfl) ?_
  refine zab rfl rfl rfl (op_conv' ty23 kn5 rfl (ev1 rfl) (fun _ => IntWalk.u8_in _ (by omega))) ?_
  refine zab rfl rfl rfl (zac (.inl rfl) (ev1 rfl)) ?_
  refine walk_p rfl (dop_callP [0, 1] [] [] rfl (ev1 rfl) (ec (ev1 rfl) (ec (ev1 rfl) en)) rfl rfl (tnum_no o (r1) (k1) 1 (by decide) (e) (h)) rfl rfl rfl rfl rfl rfl) rfl ?_
  refine kpan [0, 1] rfl rfl ?_ ⟨rfl, rfl, trivial⟩
  rfl
set_option maxRecDepth 4000 in
set_option maxHeartbeats 1000000 in
theorem tpix_no2 (o : OpM) (L : List Int) (hL : okL L) (x : Int) (r1 : List Int) (e1 : tN 1 L = .ok x r1) (y : Int) (r2 : List Int) (e2 : tN 1 r1 = .ok y r2) (e : Int) (h : tN 1 r2 = .err e) : DPan Tryz.prog 153 [.loc 0 0] [.mix 135 (.loc 1 0 :: opD o), .mix 157 [.slf 1 (L).length ((L).flatMap uc8), .val (.int .i64 0)]] (.ifc 139 (.val (.agg #[.int .i64 e]))) [.mix 135 (.loc 1 0 :: opD o), .mix 157 [.slf 1 (r2).length ((r2).flatMap uc8), .val (.int .i64 e)]] := by
  refine zal (N := 16) 2 (by kernel_rfl) Tryz.func153 rfl rfl rfl (by simp only [fr0, Nat.zero_add, Nat.reduceAdd]; exact rfl) rfl fun s0 hs0 => ?_
  refine zaf ?_
  have k1 := okL_N hL e1
  have x1 := tN_one hL e1
  have k2 := okL_N k1 e2
  have x2 := tN_one k1 e2
  refine zaj 1 (by simp only [holes, List.cons_append, List.nil_append]; exact rfl) ?_
  refine zad ?_
  refine zak rfl rfl rfl (zao 2 rfl zr42 rfl) (by simp only [upd, za, zaa]; exact rfl) ?_
  refine zae ?_
  refine zaf ?_
  refine zad ?_
  refine zab rfl rfl rfl (zac (.inl rfl) (ev1 rfl)) ?_
  refine zak rfl rfl rfl (zah [0, 1] [] [] rfl (ev1 rfl) (ec (ev1 rfl) (ec (ev1 rfl) en)) rfl rfl (tnum_ok o (L) (hL) 1 (by decide) (x) (r1) (e1)) rfl rfl rfl rfl rfl rfl) (by simp only [upd, za, zaa]; exact rfl) ?_
  refine zab rfl rfl rfl (op_conv' ty23 kn5 rfl (ev1 rfl) (fun _ => IntWalk.u8_in _ (by omega))) ?_
  refine zab rfl rfl rfl (zac (.inl rfl) (ev1 rfl)) ?_
  refine zak rfl rfl rfl (zah [0, 1] [] [] rfl (ev1 rfl) (ec (ev1 rfl) (ec (ev1 rfl) en)) rfl rfl (tnum_ok o (r1) (k1) 1 (by decide) (y) (r2) (e2)) rfl rfl rfl rfl rfl rfl) (by simp only [upd, za, zaa]; exact rfl) ?_
  refine zab rfl rfl rfl (op_conv' ty23 kn5 rfl (ev1 rfl) (fun _ => IntWalk.u8_in _ (by omega))) ?_
  refine zab rfl rfl rfl (zac (.inl rfl) (ev1 rfl)) ?_
  refine walk_p rfl (dop_callP [0, 1] [] [] rfl (ev1 rfl) (ec (ev1 rfl) (ec (ev1 rfl) en)) rfl rfl (tnum_no o (r2) (k2) 1 (by decide) (e) (h)) rfl rfl rfl rfl rfl rfl) rfl ?_
  refine kpan [0, 1] rfl rfl ?_ ⟨rfl, rfl, trivial⟩
  rfl
set_option maxRecDepth 4000 in
set_option maxHeartbeats 1000000 in
theorem tpix_no3 (o : OpM) (L : List Int) (hL : okL L) (x : Int) (r1 : List Int) (e1 : tN 1 L = .ok x r1) (y : Int) (r2 : List Int) (e2 : tN 1 r1 = .ok y r2) (z : Int) (r3 : List Int) (e3 : tN 1 r2 = .ok z r3) (e : Int) (h : tN 1 r3 = .err e) : DPan Tryz.prog 153 [.loc 0 0] [.mix 135 (.loc 1 0 :: opD o), .mix 157 [.slf 1 (L).length ((L).flatMap uc8), .val (.int .i64 0)]] (.ifc 139 (.val (.agg #[.int .i64 e]))) [.mix 135 (.loc 1 0 :: opD o), .mix 157 [.slf 1 (r3).length ((r3).flatMap uc8), .val (.int .i64 e)]] := by
  refine zal (N := 16) 2 (by kernel_rfl) Tryz.func153 rfl rfl rfl (by simp only [fr0, Nat.zero_add, Nat.reduceAdd]; exact rfl) rfl fun s0 hs0 => ?_
  refine zaf ?_
  have k1 := okL_N hL e1
  have x1 := tN_one hL e1
  have k2 := okL_N k1 e2
  have x2 := tN_one k1 e2
  have k3 := okL_N k2 e3
  have x3 := tN_one k2 e3
  refine zaj 1 (by simp only [holes, List.cons_append, List.nil_append]; exact rfl) ?_
  refine zad ?_
  refine zak rfl rfl rfl (zao 2 rfl zr42 rfl) (by simp only [upd, za, zaa]; exact rfl) ?_
  refine zae ?_
  refine zaf ?_
  refine zad ?_
  refine zab rfl rfl rfl (zac (.inl rfl) (ev1 rfl)) ?_
  refine zak rfl rfl rfl (zah [0, 1] [] [] rfl (ev1 rfl) (ec (ev1 rfl) (ec (ev1 rfl) en)) rfl rfl (tnum_ok o (L) (hL) 1 (by decide) (x) (r1) (e1)) rfl rfl rfl rfl rfl rfl) (by simp only [upd, za, zaa]; exact rfl) ?_
  refine zab rfl rfl rfl (op_conv' ty23 kn5 rfl (ev1 rfl) (fun _ => IntWalk.u8_in _ (by omega))) ?_
  refine zab rfl rfl rfl (zac (.inl rfl) (ev1 rfl)) ?_
  refine zak rfl rfl rfl (zah [0, 1] [] [] rfl (ev1 rfl) (ec (ev1 rfl) (ec (ev1 rfl) en)) rfl rfl (tnum_ok o (r1) (k1) 1 (by decide) (y) (r2) (e2)) rfl rfl rfl rfl rfl rfl) (by simp only [upd, za, zaa]; exact rfl) ?_
  refine zab rfl rfl rfl (op_conv' ty23 kn5 rfl (ev1 rfl) (fun _ => IntWalk.u8_in _ (by omega))) ?_
  refine zab rfl rfl rfl (zac (.inl rfl) (ev1 rfl)) ?_
  refine zak rfl rfl rfl (zah [0, 1] [] [] rfl (ev1 rfl) (ec (ev1 rfl) (ec (ev1 rfl) en)) rfl rfl (tnum_ok o (r2) (k2) 1 (by decide) (z) (r3) (e3)) rfl rfl rfl rfl rfl rfl) (by simp only [upd, za, zaa]; exact rfl) ?_
  refine zab rfl rfl rfl (op_conv' ty23 kn5 rfl (ev1 rfl) (fun _ => IntWalk.u8_in _ (by omega))) ?_
  refine zab rfl rfl rfl (zac (.inl rfl) (ev1 rfl)) ?_
  refine walk_p rfl (dop_callP [0, 1] [] [] rfl (ev1 rfl) (ec (ev1 rfl) (ec (ev1 rfl) en)) rfl rfl (tnum_no o (r3) (k3) 1 (by decide) (e) (h)) rfl rfl rfl rfl rfl rfl) rfl ?_
  refine kpan [0, 1] rfl rfl ?_ ⟨rfl, rfl, trivial⟩
  rfl
theorem tpix_no (o : OpM) (L : List Int) (hL : okL L) (e : Int) (h : tCo L = .err e) : DPan Tryz.prog 153 [.loc 0 0] [.mix 135 (.loc 1 0 :: opD o), .mix 157 [.slf 1 (L).length ((L).flatMap uc8), .val (.int .i64 0)]] (.ifc 139 (.val (.agg #[.int .i64 e]))) [.gone, .gone] := by
  rcases tCo_err h with h | ⟨x, r1, e1, h⟩ | ⟨x, r1, y, r2, e1, e2, h⟩ | ⟨x, r1, y, r2, z, r3, e1, e2, e3, h⟩
  · exact ((tpix_no0 o L hL e h).weakL rfl).dead
  · exact ((tpix_no1 o L hL x r1 e1 e h).weakL rfl).dead
  · exact ((tpix_no2 o L hL x r1 e1 y r2 e2 e h).weakL rfl).dead
  · exact ((tpix_no3 o L hL x r1 e1 y r2 e2 z r3 e3 e h).weakL rfl).dead
set_option maxRecDepth 4000 in
set_option maxHeartbeats 1000000 in
theorem tcolor_ok (o : OpM) (L : List Int) (hL : okL L) (a : C4) (r : List Int) (h : tCo L = .ok a r) : DFun Tryz.prog 133 [.loc 0 0] [.mix 135 (.loc 1 0 :: opD o), .mix 157 [.slf 1 (L).length ((L).flatMap uc8), .val (.int .i64 0)]] (.tup []) [.mix 135 (.loc 1 0 :: opD { o with co := a }), .mix 157 [.slf 1 (r).length ((r).flatMap uc8), .val (.int .i64 0)]] := by
  refine zal (N := 8) 2 (by kernel_rfl) Tryz.func133 rfl rfl rfl (by simp only [fr0, Nat.zero_add, Nat.reduceAdd]; exact rfl) rfl fun s0 hs0 => ?_
  refine zad ?_
  refine zab rfl rfl rfl (zac (.inl rfl) (ev1 rfl)) ?_
  refine zab rfl rfl rfl (zac (.inl rfl) (ev1 rfl)) ?_
  refine zak rfl rfl rfl (zah [0, 1] [] [] rfl (ev1 rfl) (ec (ev1 rfl) en) rfl rfl (tpix_ok o L hL a r h) rfl rfl rfl rfl rfl rfl) (by simp only [upd, za, zaa]; exact rfl) ?_
  refine zab rfl rfl rfl (op_nc rfl (ev1 rfl) (fun s v h => by cases h; exact ⟨_, rfl⟩)) ?_
  refine zab rfl rfl rfl (zap rfl fo135_1 (ev1 rfl)) ?_
  refine zab rfl rfl rfl (zap rfl fo47_7 (ev1 rfl)) ?_
  refine walk_s rfl rfl (op_stmp rfl tb42 (ev1 rfl) (evwk (ev1 rfl) (Wk.vagg _)) rfl rfl rfl rfl rfl) (by simp only [upd, za, zaa]; exact rfl) ?_
  refine zae ?_
  refine kend [0, 1] (res_none rfl) rfl rfl ?_ ⟨rfl, rfl, trivial⟩
  rfl
set_option maxRecDepth 4000 in
set_option maxHeartbeats 1000000 in
theorem tcolor_nol (o : OpM) (L : List Int) (hL : okL L) (e : Int) (h : tCo L = .err e) : DPanL Tryz.prog 133 [.loc 0 0] [.mix 135 (.loc 1 0 :: opD o), .mix 157 [.slf 1 (L).length ((L).flatMap uc8), .val (.int .i64 0)]] (.ifc 139 (.val (.agg #[.int .i64 e]))) := by
  refine zal (N := 8) 2 (by kernel_rfl) Tryz.func133 rfl rfl rfl (by simp only [fr0, Nat.zero_add, Nat.reduceAdd]; exact rfl) rfl fun s0 hs0 => ?_
  refine zad ?_
  refine zab rfl rfl rfl (zac (.inl rfl) (ev1 rfl)) ?_
  refine zab rfl rfl rfl (zac (.inl rfl) (ev1 rfl)) ?_
  refine walk_p rfl (dop_callP [0, 1] [] [] rfl (ev1 rfl) (ec (ev1 rfl) en) rfl rfl (tpix_no o L hL e h) rfl rfl rfl rfl rfl rfl) rfl ?_
  refine kpanL (Mo := [_, _]) [0, 1] rfl rfl ?_ ⟨rfl, rfl, trivial⟩ rfl
  rfl
theorem tcolor_no (o : OpM) (L : List Int) (hL : okL L) (e : Int) (h : tCo L = .err e) : DPan Tryz.prog 133 [.loc 0 0] [.mix 135 (.loc 1 0 :: opD o), .mix 157 [.slf 1 (L).length ((L).flatMap uc8), .val (.int .i64 0)]] (.ifc 139 (.val (.agg #[.int .i64 e]))) [.gone, .gone] := (tcolor_nol o L hL e h).dead
set_option maxRecDepth 4000 in
set_option maxHeartbeats 1000000 in
theorem tid_okx (o : OpM) (L : List Int) (hL : okL L) (i : I3) (r1 r2 r3 : List Int) (e1 : tN 8 L = .ok i.t r1) (e2 : tN 1 r1 = .ok i.s r2) (e3 : tN 8 r2 = .ok i.q r3) (hi : mayR i = true) : DFun Tryz.prog 58 [.loc 0 0] [.mix 135 (.loc 1 0 :: opD o), .mix 157 [.slf 1 (L).length ((L).flatMap uc8), .val (.int .i64 0)]] (.val (.agg (idc i).toArray)) [.mix 135 (.loc 1 0 :: opD o), .mix 157 [.slf 1 (r3).length ((r3).flatMap uc8), .val (.int .i64 0)]] := by
  refine zal (N := 17) 2 (by kernel_rfl) Tryz.func58 rfl rfl rfl (by simp only [fr0, Nat.zero_add, Nat.reduceAdd]; exact rfl) rfl fun s0 hs0 => ?_
  refine zaf ?_
  have k1 := okL_N hL e1
  have k2 := okL_N k1 e2
  have x2 := tN_one k1 e2
  refine zaj 1 (by simp only [holes, List.cons_append, List.nil_append]; exact rfl) ?_
  refine zad ?_
  refine zak rfl rfl rfl (zao 2 rfl zr29 rfl) (by simp only [upd, za, zaa]; exact rfl) ?_
  refine zae ?_
  refine zaf ?_
  refine zaj 1 (by simp only [holes, List.cons_append, List.nil_append]; exact rfl) ?_
  refine zad ?_
  refine zab rfl rfl rfl (zac (.inl rfl) (ev1 rfl)) ?_
  refine zak rfl rfl rfl (zah [0, 1] [] [] rfl (ev1 rfl) (ec (ev1 rfl) (ec (ev1 rfl) en)) rfl rfl (tnum_ok o (L) (hL) 8 (by decide) (i.t) (r1) (e1)) rfl rfl rfl rfl rfl rfl) (by simp only [upd, za, zaa]; exact rfl) ?_
  refine zab rfl rfl rfl (zac (.inl rfl) (ev1 rfl)) ?_
  refine zak rfl rfl rfl (zah [0, 1] [] [] rfl (ev1 rfl) (ec (ev1 rfl) (ec (ev1 rfl) en)) rfl rfl (tnum_ok o (r1) (k1) 1 (by decide) (i.s) (r2) (e2)) rfl rfl rfl rfl rfl rfl) (by simp only [upd, za, zaa]; exact rfl) ?_
  refine zab rfl rfl rfl (op_conv' ty23 kn3 rfl (ev1 rfl) (fun _ => IntWalk.i64_in _ (by omega))) ?_
  refine zab rfl rfl rfl (zac (.inl rfl) (ev1 rfl)) ?_
  refine zak rfl rfl rfl (zah [0, 1] [] [] rfl (ev1 rfl) (ec (ev1 rfl) (ec (ev1 rfl) en)) rfl rfl (tnum_ok o (r2) (k2) 8 (by decide) (i.q) (r3) (e3)) rfl rfl rfl rfl rfl rfl) (by simp only [upd, za, zaa]; exact rfl) ?_
  refine zab rfl rfl rfl (op_build (ps := [(0, .tmp 5), (1, .tmp 8), (2, .tmp 10)]) rfl fl29 zr29 (vc (ev1 rfl) (vc (ev1 rfl) (vc (ev1 rfl) vn))) rfl rfl) ?_
  refine zak rfl rfl rfl (zao 3 rfl zr29 rfl) (by simp only [upd, za, zaa]; exact rfl) ?_
  refine walk_s rfl rfl (op_stwa rfl tb29 (ev1 rfl) (ev1 rfl) rfl rfl rfl rfl) (by simp only [upd, za, zaa]; exact rfl) ?_
  refine zae ?_
  refine zaf ?_
  refine zad ?_
  refine zab rfl rfl rfl (op_ldw rfl tb29 (ev1 rfl) rfl rfl) ?_
  refine zab rfl rfl rfl (zah [] [] [] rfl (ev1 rfl) (ec (ev1 rfl) en) rfl rfl (idCheck_d i) rfl rfl rfl rfl rfl rfl) ?_
  refine zab rfl rfl rfl (op_eql rfl (ev1 rfl) (ev1 rfl)) ?_
  refine zab rfl rfl rfl (zah [] [] [] rfl (ev1 rfl) (ec (ev1 rfl) (ec (ev1 rfl) en)) rfl rfl (cneed_ok _ _ (by rw [hi]; rfl)) rfl rfl rfl rfl rfl rfl) ?_
  refine zae ?_
  refine zaf ?_
  refine zad ?_
  refine zab rfl rfl rfl (op_ldw rfl tb29 (ev1 rfl) rfl rfl) ?_
  refine walk_s rfl rfl (op_stwa rfl tb29 (ev1 rfl) (ev1 rfl) rfl rfl rfl rfl) (by simp only [upd, za, zaa]; exact rfl) ?_
  refine zae ?_
  refine zan ?_
  refine kend [0, 1] (rs1 rfl (rv_w tb29 rfl rfl rfl)) rfl rfl ?_ ⟨rfl, rfl, trivial⟩
  rfl
set_option maxRecDepth 4000 in
set_option maxHeartbeats 1000000 in
theorem tid_bad (o : OpM) (L : List Int) (hL : okL L) (i : I3) (r1 r2 r3 : List Int) (e1 : tN 8 L = .ok i.t r1) (e2 : tN 1 r1 = .ok i.s r2) (e3 : tN 8 r2 = .ok i.q r3) (hi : mayR i = false) : DPan Tryz.prog 58 [.loc 0 0] [.mix 135 (.loc 1 0 :: opD o), .mix 157 [.slf 1 (L).length ((L).flatMap uc8), .val (.int .i64 0)]] (.ifc 139 (.val (.agg #[.int .i64 290]))) [.mix 135 (.loc 1 0 :: opD o), .mix 157 [.slf 1 (r3).length ((r3).flatMap uc8), .val (.int .i64 0)]] := by
  refine zal (N := 17) 2 (by kernel_rfl) Tryz.func58 rfl rfl rfl (by simp only [fr0, Nat.zero_add, Nat.reduceAdd]; exact rfl) rfl fun s0 hs0 => ?_
  refine zaf ?_
  have k1 := okL_N hL e1
  have k2 := okL_N k1 e2
  have x2 := tN_one k1 e2
  refine zaj 1 (by simp only [holes, List.cons_append, List.nil_append]; exact rfl) ?_
  refine zad ?_
  refine zak rfl rfl rfl (zao 2 rfl zr29 rfl) (by simp only [upd, za, zaa]; exact rfl) ?_
  refine zae ?_
  refine zaf ?_
  refine zaj 1 (by simp only [holes, List.cons_append, List.nil_append]; exact rfl) ?_
  refine zad ?_
  refine zab rfl rfl rfl (zac (.inl rfl) (ev1 rfl)) ?_
  refine zak rfl rfl rfl (zah [0, 1] [] [] rfl (ev1 rfl) (ec (ev1 rfl) (ec (ev1 rfl) en)) rfl rfl (tnum_ok o (L) (hL) 8 (by decide) (i.t) (r1) (e1)) rfl rfl rfl rfl rfl rfl) (by simp only [upd, za, zaa]; exact rfl) ?_
  refine zab rfl rfl rfl (zac (.inl rfl) (ev1 rfl)) ?_
  refine zak rfl rfl rfl (zah [0, 1] [] [] rfl (ev1 rfl) (ec (ev1 rfl) (ec (ev1 rfl) en)) rfl rfl (tnum_ok o (r1) (k1) 1 (by decide) (i.s) (r2) (e2)) rfl rfl rfl rfl rfl rfl) (by simp only [upd, za, zaa]; exact rfl) ?_
  refine zab rfl rfl rfl (op_conv' ty23 kn3 rfl (ev1 rfl) (fun _ => IntWalk.i64_in _ (by omega))) ?_
  refine zab rfl rfl rfl (zac (.inl rfl) (ev1 rfl)) ?_
  refine zak rfl rfl rfl (zah [0, 1] [] [] rfl (ev1 rfl) (ec (ev1 rfl) (ec (ev1 rfl) en)) rfl rfl (tnum_ok o (r2) (k2) 8 (by decide) (i.q) (r3) (e3)) rfl rfl rfl rfl rfl rfl) (by simp only [upd, za, zaa]; exact rfl) ?_
  refine zab rfl rfl rfl (op_build (ps := [(0, .tmp 5), (1, .tmp 8), (2, .tmp 10)]) rfl fl29 zr29 (vc (ev1 rfl) (vc (ev1 rfl) (vc (ev1 rfl) vn))) rfl rfl) ?_
  refine zak rfl rfl rfl (zao 3 rfl zr29 rfl) (by simp only [upd, za, zaa]; exact rfl) ?_
  refine walk_s rfl rfl (op_stwa rfl tb29 (ev1 rfl) (ev1 rfl) rfl rfl rfl rfl) (by simp only [upd, za, zaa]; exact rfl) ?_
  refine zae ?_
  refine zaf ?_
  refine zad ?_
  refine zab rfl rfl rfl (op_ldw rfl tb29 (ev1 rfl) rfl rfl) ?_
  refine zab rfl rfl rfl (zah [] [] [] rfl (ev1 rfl) (ec (ev1 rfl) en) rfl rfl (idCheck_d i) rfl rfl rfl rfl rfl rfl) ?_
  refine zab rfl rfl rfl (op_eql rfl (ev1 rfl) (ev1 rfl)) ?_
  refine walk_p rfl (dop_callP [] [] [] rfl (ev1 rfl) (ec (ev1 rfl) (ec (ev1 rfl) en)) rfl rfl (cneed_no _ _ (by rw [hi]; rfl)) rfl rfl rfl rfl rfl rfl) rfl ?_
  refine kpan [0, 1] rfl rfl ?_ ⟨rfl, rfl, trivial⟩
  rfl
set_option maxRecDepth 4000 in
set_option maxHeartbeats 1000000 in
theorem tid_no0 (o : OpM) (L : List Int) (hL : okL L) (e : Int) (h : tN 8 L = .err e) : DPan Tryz.prog 58 [.loc 0 0] [.mix 135 (.loc 1 0 :: opD o), .mix 157 [.slf 1 (L).length ((L).flatMap uc8), .val (.int .i64 0)]] (.ifc 139 (.val (.agg #[.int .i64 e]))) [.mix 135 (.loc 1 0 :: opD o), .mix 157 [.slf 1 (L).length ((L).flatMap uc8), .val (.int .i64 e)]] := by
  refine zal (N := 17) 2 (by kernel_rfl) Tryz.func58 rfl rfl rfl (by simp only [fr0, Nat.zero_add, Nat.reduceAdd]; exact rfl) rfl fun s0 hs0 => ?_
  refine zaf ?_
  refine zaj 1 (by simp only [holes, List.cons_append, List.nil_append]; exact rfl) ?_
  refine zad ?_
  refine zak rfl rfl rfl (zao 2 rfl zr29 rfl) (by simp only [upd, za, zaa]; exact rfl) ?_
  refine zae ?_
  refine zaf ?_
  refine zaj 1 (by simp only [holes, List.cons_append, List.nil_append]; exact rfl) ?_
  refine zad ?_
  refine zab rfl rfl rfl (zac (.inl rfl) (ev1 rfl)) ?_
  refine walk_p rfl (dop_callP [0, 1] [] [] rfl (ev1 rfl) (ec (ev1 rfl) (ec (ev1 rfl) en)) rfl rfl (tnum_no o (L) (hL) 8 (by decide) (e) (h)) rfl rfl rfl rfl rfl rfl) rfl ?_
  refine kpan [0, 1] rfl rfl ?_ ⟨rfl, rfl, trivial⟩
  rfl
set_option maxRecDepth 4000 in
set_option maxHeartbeats 1000000 in
theorem tid_no1 (o : OpM) (L : List Int) (hL : okL L) (t : Int) (r1 : List Int) (e1 : tN 8 L = .ok t r1) (e : Int) (h : tN 1 r1 = .err e) : DPan Tryz.prog 58 [.loc 0 0] [.mix 135 (.loc 1 0 :: opD o), .mix 157 [.slf 1 (L).length ((L).flatMap uc8), .val (.int .i64 0)]] (.ifc 139 (.val (.agg #[.int .i64 e]))) [.mix 135 (.loc 1 0 :: opD o), .mix 157 [.slf 1 (r1).length ((r1).flatMap uc8), .val (.int .i64 e)]] := by
  refine zal (N := 17) 2 (by kernel_rfl) Tryz.func58 rfl rfl rfl (by simp only [fr0, Nat.zero_add, Nat.reduceAdd]; exact rfl) rfl fun s0 hs0 => ?_
  refine zaf ?_
  have k1 := okL_N hL e1
  refine zaj 1 (by simp only [holes, List.cons_append, List.nil_append]; exact rfl) ?_
  refine zad ?_
  refine zak rfl rfl rfl (zao 2 rfl zr29 rfl) (by simp only [upd, za, zaa]; exact rfl) ?_
  refine zae ?_
  refine zaf ?_
  refine zaj 1 (by simp only [holes, List.cons_append, List.nil_append]; exact rfl) ?_
  refine zad ?_
  refine zab rfl rfl rfl (zac (.inl rfl) (ev1 rfl)) ?_
  refine zak rfl rfl rfl (zah [0, 1] [] [] rfl (ev1 rfl) (ec (ev1 rfl) (ec (ev1 rfl) en)) rfl rfl (tnum_ok o (L) (hL) 8 (by decide) (t) (r1) (e1)) rfl rfl rfl rfl rfl rfl) (by simp only [upd, za, zaa]; exact rfl) ?_
  refine zab rfl rfl rfl (zac (.inl rfl) (ev1 rfl)) ?_
  refine walk_p rfl (dop_callP [0, 1] [] [] rfl (ev1 rfl) (ec (ev1 rfl) (ec (ev1 rfl) en)) rfl rfl (tnum_no o (r1) (k1) 1 (by decide) (e) (h)) rfl rfl rfl rfl rfl rfl) rfl ?_
  refine kpan [0, 1] rfl rfl ?_ ⟨rfl, rfl, trivial⟩
  rfl
set_option maxRecDepth 4000 in
set_option maxHeartbeats 1000000 in
theorem tid_no2 (o : OpM) (L : List Int) (hL : okL L) (t : Int) (r1 : List Int) (e1 : tN 8 L = .ok t r1) (s : Int) (r2 : List Int) (e2 : tN 1 r1 = .ok s r2) (e : Int) (h : tN 8 r2 = .err e) : DPan Tryz.prog 58 [.loc 0 0] [.mix 135 (.loc 1 0 :: opD o), .mix 157 [.slf 1 (L).length ((L).flatMap uc8), .val (.int .i64 0)]] (.ifc 139 (.val (.agg #[.int .i64 e]))) [.mix 135 (.loc 1 0 :: opD o), .mix 157 [.slf 1 (r2).length ((r2).flatMap uc8), .val (.int .i64 e)]] := by
  refine zal (N := 17) 2 (by kernel_rfl) Tryz.func58 rfl rfl rfl (by simp only [fr0, Nat.zero_add, Nat.reduceAdd]; exact rfl) rfl fun s0 hs0 => ?_
  refine zaf ?_
  have k1 := okL_N hL e1
  have k2 := okL_N k1 e2
  have x2 := tN_one k1 e2
  refine zaj 1 (by simp only [holes, List.cons_append, List.nil_append]; exact rfl) ?_
  refine zad ?_
  refine zak rfl rfl rfl (zao 2 rfl zr29 rfl) (by simp only [upd, za, zaa]; exact rfl) ?_
  refine zae ?_
  refine zaf ?_
  refine zaj 1 (by simp only [holes, List.cons_append, List.nil_append]; exact rfl) ?_
  refine zad ?_
  refine zab rfl rfl rfl (zac (.inl rfl) (ev1 rfl)) ?_
  refine zak rfl rfl rfl (zah [0, 1] [] [] rfl (ev1 rfl) (ec (ev1 rfl) (ec (ev1 rfl) en)) rfl rfl (tnum_ok o (L) (hL) 8 (by decide) (t) (r1) (e1)) rfl rfl rfl rfl rfl rfl) (by simp only [upd, za, zaa]; exact rfl) ?_
  refine zab rfl rfl rfl (zac (.inl rfl) (ev1 rfl)) ?_
  refine zak rfl rfl rfl (zah [0, 1] [] [] rfl (ev1 rfl) (ec (ev1 rfl) (ec (ev1 rfl) en)) rfl rfl (tnum_ok o (r1) (k1) 1 (by decide) (s) (r2) (e2)) rfl rfl rfl rfl rfl rfl) (by simp only [upd, za, zaa]; exact rfl) ?_
  refine zab rfl rfl rfl (op_conv' ty23 kn3 rfl (ev1 rfl) (fun _ => IntWalk.i64_in _ (by omega))) ?_
  refine zab rfl rfl rfl (zac (.inl rfl) (ev1 rfl)) ?_
  refine walk_p rfl (dop_callP [0, 1] [] [] rfl (ev1 rfl) (ec (ev1 rfl) (ec (ev1 rfl) en)) rfl rfl (tnum_no o (r2) (k2) 8 (by decide) (e) (h)) rfl rfl rfl rfl rfl rfl) rfl ?_
  refine kpan [0, 1] rfl rfl ?_ ⟨rfl, rfl, trivial⟩
  rfl
theorem tid_ok (o : OpM) (L : List Int) (hL : okL L) (i : I3) (r : List Int) (h : tId L = .ok i r) : DFun Tryz.prog 58 [.loc 0 0] [.mix 135 (.loc 1 0 :: opD o), .mix 157 [.slf 1 (L).length ((L).flatMap uc8), .val (.int .i64 0)]] (.val (.agg (idc i).toArray)) [.mix 135 (.loc 1 0 :: opD o), .mix 157 [.slf 1 (r).length ((r).flatMap uc8), .val (.int .i64 0)]] := by
  obtain ⟨r1, r2, e1, e2, e3, hi⟩ := tId_ok h
  exact tid_okx o L hL i r1 r2 r e1 e2 e3 hi
theorem tid_no (o : OpM) (L : List Int) (hL : okL L) (e : Int) (h : tId L = .err e) : DPan Tryz.prog 58 [.loc 0 0] [.mix 135 (.loc 1 0 :: opD o), .mix 157 [.slf 1 (L).length ((L).flatMap uc8), .val (.int .i64 0)]] (.ifc 139 (.val (.agg #[.int .i64 e]))) [.gone, .gone] := by
  rcases tId_err h with h | ⟨t, r1, e1, h⟩ | ⟨t, r1, s, r2, e1, e2, h⟩ | ⟨i, r1, r2, r3, e1, e2, e3, hi, rfl⟩
  · exact ((tid_no0 o L hL e h).weakL rfl).dead
  · exact ((tid_no1 o L hL t r1 e1 e h).weakL rfl).dead
  · exact ((tid_no2 o L hL t r1 e1 s r2 e2 e h).weakL rfl).dead
  · exact ((tid_bad o L hL i r1 r2 r3 e1 e2 e3 hi).weakL rfl).dead
set_option maxRecDepth 4000 in
set_option maxHeartbeats 1000000 in
theorem ttarget_ok (o : OpM) (L : List Int) (hL : okL L) (a : I3) (r : List Int) (h : tId L = .ok a r) : DFun Tryz.prog 135 [.loc 0 0] [.mix 135 (.loc 1 0 :: opD o), .mix 157 [.slf 1 (L).length ((L).flatMap uc8), .val (.int .i64 0)]] (.tup []) [.mix 135 (.loc 1 0 :: opD { o with tg := a }), .mix 157 [.slf 1 (r).length ((r).flatMap uc8), .val (.int .i64 0)]] := by
  refine zal (N := 8) 2 (by kernel_rfl) Tryz.func135 rfl rfl rfl (by simp only [fr0, Nat.zero_add, Nat.reduceAdd]; exact rfl) rfl fun s0 hs0 => ?_
  refine zad ?_
  refine zab rfl rfl rfl (zac (.inl rfl) (ev1 rfl)) ?_
  refine zab rfl rfl rfl (zac (.inl rfl) (ev1 rfl)) ?_
  refine zak rfl rfl rfl (zah [0, 1] [] [] rfl (ev1 rfl) (ec (ev1 rfl) en) rfl rfl (tid_ok o L hL a r h) rfl rfl rfl rfl rfl rfl) (by simp only [upd, za, zaa]; exact rfl) ?_
  refine zab rfl rfl rfl (op_nc rfl (ev1 rfl) (fun s v h => by cases h; exact ⟨_, rfl⟩)) ?_
  refine zab rfl rfl rfl (zap rfl fo135_1 (ev1 rfl)) ?_
  refine zab rfl rfl rfl (zap rfl fo47_9 (ev1 rfl)) ?_
  refine walk_s rfl rfl (op_stmp rfl tb29 (ev1 rfl) (evwk (ev1 rfl) (Wk.vagg _)) rfl rfl rfl rfl rfl) (by simp only [upd, za, zaa]; exact rfl) ?_
  refine zae ?_
  refine kend [0, 1] (res_none rfl) rfl rfl ?_ ⟨rfl, rfl, trivial⟩
  rfl
set_option maxRecDepth 4000 in
set_option maxHeartbeats 1000000 in
theorem ttarget_nol (o : OpM) (L : List Int) (hL : okL L) (e : Int) (h : tId L = .err e) : DPanL Tryz.prog 135 [.loc 0 0] [.mix 135 (.loc 1 0 :: opD o), .mix 157 [.slf 1 (L).length ((L).flatMap uc8), .val (.int .i64 0)]] (.ifc 139 (.val (.agg #[.int .i64 e]))) := by
  refine zal (N := 8) 2 (by kernel_rfl) Tryz.func135 rfl rfl rfl (by simp only [fr0, Nat.zero_add, Nat.reduceAdd]; exact rfl) rfl fun s0 hs0 => ?_
  refine zad ?_
  refine zab rfl rfl rfl (zac (.inl rfl) (ev1 rfl)) ?_
  refine zab rfl rfl rfl (zac (.inl rfl) (ev1 rfl)) ?_
  refine walk_p rfl (dop_callP [0, 1] [] [] rfl (ev1 rfl) (ec (ev1 rfl) en) rfl rfl (tid_no o L hL e h) rfl rfl rfl rfl rfl rfl) rfl ?_
  refine kpanL (Mo := [_, _]) [0, 1] rfl rfl ?_ ⟨rfl, rfl, trivial⟩ rfl
  rfl
theorem ttarget_no (o : OpM) (L : List Int) (hL : okL L) (e : Int) (h : tId L = .err e) : DPan Tryz.prog 135 [.loc 0 0] [.mix 135 (.loc 1 0 :: opD o), .mix 157 [.slf 1 (L).length ((L).flatMap uc8), .val (.int .i64 0)]] (.ifc 139 (.val (.agg #[.int .i64 e]))) [.gone, .gone] := (ttarget_nol o L hL e h).dead
set_option maxRecDepth 4000 in
set_option maxHeartbeats 1000000 in
theorem tside_ok (o : OpM) (L : List Int) (hL : okL L) (n : Int) (r : List Int) (h : tN 1 L = .ok n r) (hs : siD n = true) : DFun Tryz.prog 154 [.loc 0 0] [.mix 135 (.loc 1 0 :: opD o), .mix 157 [.slf 1 (L).length ((L).flatMap uc8), .val (.int .i64 0)]] (.val (.int .i64 n)) [.mix 135 (.loc 1 0 :: opD o), .mix 157 [.slf 1 (r).length ((r).flatMap uc8), .val (.int .i64 0)]] := by
  refine zal (N := 15) 2 (by kernel_rfl) Tryz.func154 rfl rfl rfl (by simp only [fr0, Nat.zero_add, Nat.reduceAdd]; exact rfl) rfl fun s0 hs0 => ?_
  refine zaf ?_
  have x1 := tN_one hL h
  refine zad ?_
  refine zab rfl rfl rfl (zac (.inr rfl) (ev1 rfl)) ?_
  refine zae ?_
  refine zaf ?_
  refine zad ?_
  refine zab rfl rfl rfl (zac (.inl rfl) (ev1 rfl)) ?_
  refine zak rfl rfl rfl (zah [0, 1] [] [] rfl (ev1 rfl) (ec (ev1 rfl) (ec (ev1 rfl) en)) rfl rfl (tnum_ok o (L) (hL) 1 (by decide) (n) (r) (h)) rfl rfl rfl rfl rfl rfl) (by simp only [upd, za, zaa]; exact rfl) ?_
  refine zab rfl rfl rfl (op_conv' ty23 kn3 rfl (ev1 rfl) (fun _ => IntWalk.i64_in _ (by omega))) ?_
  refine zab rfl rfl rfl (zac (.inr rfl) (ev1 rfl)) ?_
  refine zae ?_
  refine zaf ?_
  refine zad ?_
  refine zab rfl rfl rfl (zac (.inl rfl) (ev1 rfl)) ?_
  refine zab rfl rfl rfl (op_geq rfl (ev1 rfl) (ev1 rfl)) ?_
  refine zab rfl rfl rfl (zac (.inl rfl) (ev1 rfl)) ?_
  refine zag (gd_t rfl rfl rfl) rfl rfl rfl (zac (.inl rfl) (ev1 rfl)) ?_
  refine zag (gd_t rfl rfl rfl) rfl rfl rfl (op_leq rfl (ev2 rfl) (ev1 rfl)) ?_
  refine zab rfl rfl rfl (op_and rfl (ev1 rfl) (ev3 rfl id)) ?_
  refine zab rfl rfl rfl (zah [] [] [] rfl (ev1 rfl) (ec (ev1 rfl) (ec (ev1 rfl) en)) rfl rfl (cneed_ok _ _ (by unfold siD at hs; simpa using hs)) rfl rfl rfl rfl rfl rfl) ?_
  refine zae ?_
  refine zaf ?_
  refine zad ?_
  refine zab rfl rfl rfl (zac (.inl rfl) (ev1 rfl)) ?_
  refine zab rfl rfl rfl (zac (.inr rfl) (ev1 rfl)) ?_
  refine zae ?_
  refine zan ?_
  refine kend [0, 1] (rs1 rfl (rv_t rfl)) rfl rfl ?_ ⟨rfl, rfl, trivial⟩
  rfl
set_option maxRecDepth 4000 in
set_option maxHeartbeats 1000000 in
theorem tside_bad (o : OpM) (L : List Int) (hL : okL L) (n : Int) (r : List Int) (h : tN 1 L = .ok n r) (hs : siD n = false) : DPan Tryz.prog 154 [.loc 0 0] [.mix 135 (.loc 1 0 :: opD o), .mix 157 [.slf 1 (L).length ((L).flatMap uc8), .val (.int .i64 0)]] (.ifc 139 (.val (.agg #[.int .i64 290]))) [.mix 135 (.loc 1 0 :: opD o), .mix 157 [.slf 1 (r).length ((r).flatMap uc8), .val (.int .i64 0)]] := by
  refine zal (N := 15) 2 (by kernel_rfl) Tryz.func154 rfl rfl rfl (by simp only [fr0, Nat.zero_add, Nat.reduceAdd]; exact rfl) rfl fun s0 hs0 => ?_
  refine zaf ?_
  have x1 := tN_one hL h
  refine zad ?_
  refine zab rfl rfl rfl (zac (.inr rfl) (ev1 rfl)) ?_
  refine zae ?_
  refine zaf ?_
  refine zad ?_
  refine zab rfl rfl rfl (zac (.inl rfl) (ev1 rfl)) ?_
  refine zak rfl rfl rfl (zah [0, 1] [] [] rfl (ev1 rfl) (ec (ev1 rfl) (ec (ev1 rfl) en)) rfl rfl (tnum_ok o (L) (hL) 1 (by decide) (n) (r) (h)) rfl rfl rfl rfl rfl rfl) (by simp only [upd, za, zaa]; exact rfl) ?_
  refine zab rfl rfl rfl (op_conv' ty23 kn3 rfl (ev1 rfl) (fun _ => IntWalk.i64_in _ (by omega))) ?_
  refine zab rfl rfl rfl (zac (.inr rfl) (ev1 rfl)) ?_
  refine zae ?_
  refine zaf ?_
  refine zad ?_
  refine zab rfl rfl rfl (zac (.inl rfl) (ev1 rfl)) ?_
  refine zab rfl rfl rfl (op_geq rfl (ev1 rfl) (ev1 rfl)) ?_
  refine zab rfl rfl rfl (zac (.inl rfl) (ev1 rfl)) ?_
  refine zag (gd_t rfl rfl rfl) rfl rfl rfl (zac (.inl rfl) (ev1 rfl)) ?_
  refine zag (gd_t rfl rfl rfl) rfl rfl rfl (op_leq rfl (ev2 rfl) (ev1 rfl)) ?_
  refine zab rfl rfl rfl (op_and rfl (ev1 rfl) (ev3 rfl id)) ?_
  refine walk_p rfl (dop_callP [] [] [] rfl (ev1 rfl) (ec (ev1 rfl) (ec (ev1 rfl) en)) rfl rfl (cneed_no _ _ (by unfold siD at hs; simpa using hs)) rfl rfl rfl rfl rfl rfl) rfl ?_
  refine kpan [0, 1] rfl rfl ?_ ⟨rfl, rfl, trivial⟩
  rfl
set_option maxRecDepth 4000 in
set_option maxHeartbeats 1000000 in
theorem tside_no0 (o : OpM) (L : List Int) (hL : okL L) (e : Int) (h : tN 1 L = .err e) : DPan Tryz.prog 154 [.loc 0 0] [.mix 135 (.loc 1 0 :: opD o), .mix 157 [.slf 1 (L).length ((L).flatMap uc8), .val (.int .i64 0)]] (.ifc 139 (.val (.agg #[.int .i64 e]))) [.mix 135 (.loc 1 0 :: opD o), .mix 157 [.slf 1 (L).length ((L).flatMap uc8), .val (.int .i64 e)]] := by
  refine zal (N := 15) 2 (by kernel_rfl) Tryz.func154 rfl rfl rfl (by simp only [fr0, Nat.zero_add, Nat.reduceAdd]; exact rfl) rfl fun s0 hs0 => ?_
  refine zaf ?_
  refine zad ?_
  refine zab rfl rfl rfl (zac (.inr rfl) (ev1 rfl)) ?_
  refine zae ?_
  refine zaf ?_
  refine zad ?_
  refine zab rfl rfl rfl (zac (.inl rfl) (ev1 rfl)) ?_
  refine walk_p rfl (dop_callP [0, 1] [] [] rfl (ev1 rfl) (ec (ev1 rfl) (ec (ev1 rfl) en)) rfl rfl (tnum_no o (L) (hL) 1 (by decide) (e) (h)) rfl rfl rfl rfl rfl rfl) rfl ?_
  refine kpan [0, 1] rfl rfl ?_ ⟨rfl, rfl, trivial⟩
  rfl
theorem tside_no (o : OpM) (L : List Int) (hL : okL L) (e : Int) (h : tSi L = .err e) : DPan Tryz.prog 154 [.loc 0 0] [.mix 135 (.loc 1 0 :: opD o), .mix 157 [.slf 1 (L).length ((L).flatMap uc8), .val (.int .i64 0)]] (.ifc 139 (.val (.agg #[.int .i64 e]))) [.gone, .gone] := by
  rcases tSi_err h with h | ⟨n, r, h1, hs, rfl⟩
  · exact ((tside_no0 o L hL e h).weakL rfl).dead
  · exact ((tside_bad o L hL n r h1 hs).weakL rfl).dead
end Go.Proofs.YtmacjicebemgoaaGreat
namespace Go.Proofs.YtmacjicebemgoaaGreat
set_option linter.unusedVariables false
set_option linter.unusedSimpArgs false
open Go.RowKit
/-- all behind the one that panics stand behind it; what isn't forced ahead of it changes nothing, and it doesn't ask for it -/
def drawOkQ (n : Nat) (lf : List Oper) (m : Nat) (fps : List (List Nat × List Nat)) : Bool :=
  let bs := befL lf []
  fps.length == m && Nat.blt m lf.length && ((List.range lf.length).all fun j => match lf[j]? with
    | some oj => oj.after.all (fun e => !Region.binds .any e || Nat.blt e.on j) && (Nat.ble j m || (bs.getD j 0).testBit m)
    | none => false) && ((List.range m).all fun i => match lf[i]?, fps[i]?, lf[m]? with
    | some oi, some fi, some om => (bs.getD m 0).testBit i || (fi.2.isEmpty && !meet oi.dst.toList (namesOf lf.toArray om))
    | _, _, _ => false) && (List.range m).all fun j =>
    match lf[j]?, fps[j]? with
    | some oj, some fj => dstB n oj.dst && noDef oj.op && fj.2.all (fun x => fj.1.contains x) && (List.range j).all fun i =>
      match lf[i]?, fps[i]? with
      | some oi, some fi => pairOk lf.toArray (bs.getD j 0) i oi oj fi fj
      | _, _ => false
    | _, _ => false
/-- **A region that draws its order, and panics**: what is not forced ahead of the panic only reads. -/
theorem dwp_drawQ {P : Program} {s0 : St} {n : Cx} {id : Nat} {lf : List Oper} {op : Oper} {F : Fr} {M : List Blk} {K : Cont} (m : Nat) (fps : List (List Nat × List Nat)) (hm : P.follows .mixedOrders = true) (hB : drawOkQ n.n lf m fps = true) (hopn : lf[m]? = some op) (hndm : noDef op.op = true)
    (h : Lex P lf.toArray (lf.take m) fps F M (fun F1 M1 => ∃ fp d wr, op.guard = none ∧ DOpP P true op F1 M1 fp d wr ∧ K (.panic d) [] (upd M1 wr))) :
    dwp P s0 n (.region id lf.toArray true) F M K := by
  intro a w hi
  refine wpIn_region_any hm ?_
  simp only [drawOkQ, Bool.and_eq_true, beq_iff_eq, List.all_eq_true, List.mem_range] at hB
  obtain ⟨⟨⟨⟨hlen0, hml⟩, hedge⟩, hpre0⟩, hB⟩ := hB
  have hml := Nat.blt_eq.mp hml
  obtain ⟨l, hl⟩ : ∃ l, l = lf.take m := ⟨_, rfl⟩
  have hllen : l.length = m := by rw [hl, List.length_take]; omega
  rw [← hl] at h
  have hlen : fps.length = l.length := by omega
  have htk : ∀ i, i < l.length → l[i]? = lf[i]? := fun i hi => by rw [hl, List.getElem?_take, if_pos (by omega)]
  have hon : ∀ (j : Nat) o, lf[j]? = some o → ∀ e ∈ o.after.toList, Region.binds .any e = true → e.on < j := by
    intro j o ho e he hb
    have h1 := hedge j (List.getElem?_eq_some_iff.1 ho).1
    rw [ho] at h1
    simp only [Bool.and_eq_true] at h1
    have := Array.all_eq_true_iff_forall_mem.1 h1.1 e (by simpa using he)
    rw [hb] at this
    exact Nat.blt_eq.mp (by simpa using this)
  have hbeh : ∀ i, l.length < i → i < lf.length → ahead lf l.length i = true := by
    intro i h1 h2
    have h3 := hedge i h2
    rw [List.getElem?_eq_getElem h2] at h3
    simp only [Bool.and_eq_true, Bool.or_eq_true] at h3
    rcases h3.2 with h4 | h4
    · have := Nat.ble_eq.mp h4; omega
    · rw [hllen]; exact h4
  have hpre : ∀ (j : Nat) oj fj, lf[j]? = some oj → fps[j]? = some fj → j < l.length → ahead lf j l.length = true ∨ (fj.2 = [] ∧ meet oj.dst.toList (namesOf lf.toArray op) = false) := fun j oj fj ho hf hj => by
    have h1 := hpre0 j (by omega)
    rw [ho, hf, hopn] at h1
    simp only [Bool.or_eq_true, Bool.and_eq_true, Bool.not_eq_true', List.isEmpty_iff] at h1
    rw [hllen]
    exact h1
  subst hllen
  obtain ⟨E, e1, e2, e3⟩ := lex_recs l fps F M hlen h
  have at_ : ∀ k, k < l.length → ∃ o f, l[k]? = some o ∧ fps[k]? = some f := fun k hk => ⟨l[k], fps[k], List.getElem?_eq_getElem hk, List.getElem?_eq_getElem (by omega)⟩
  have hone : ∀ (j : Nat) o f, l[j]? = some o → fps[j]? = some f → (∀ e ∈ o.after.toList, Region.binds .any e = true → e.on < j) ∧ dstB n.n o.dst = true ∧ noDef o.op = true ∧ (∀ x ∈ f.2, x ∈ f.1) ∧ ∀ (i : Nat) oi fi, i < j → l[i]? = some oi → fps[i]? = some fi → ahead lf i j = true ∨ (meet oi.dst.toList (namesOf lf.toArray o) = false ∧ meet (namesOf lf.toArray oi) o.dst.toList = false ∧ meet fi.2 f.1 = false ∧ meet fi.1 f.2 = false) := by
    intro j o f ho hf
    have hj : j < l.length := (List.getElem?_eq_some_iff.1 ho).1
    have h1 := hB j hj
    have ho2 := ho
    rw [htk j hj] at ho2
    rw [ho2, hf] at h1
    simp only [Bool.and_eq_true, List.all_eq_true, List.mem_range] at h1
    obtain ⟨⟨⟨h2, hnd⟩, h3⟩, h4⟩ := h1
    refine ⟨hon j o ho2, h2, hnd, fun x hx => by simpa using h3 x hx, fun i oi fi hij hoi hfi => ?_⟩
    have h5 := h4 i hij
    rw [← htk i (by omega), hoi, hfi] at h5
    simp only [pairOk, Bool.or_eq_true, Bool.not_eq_true', Bool.or_eq_false_iff] at h5
    rcases h5 with h5 | h5
    · exact .inl h5
    · exact .inr ⟨h5.1.1.1, h5.1.1.2, h5.1.2, h5.2⟩
  have meet_no : ∀ {x : List Nat} {y : List Nat} {t : Nat}, meet x y = false → t ∈ x → t ∈ y → False := by
    intro x y t hm hx hy
    simp only [meet, List.any_eq_false] at hm
    exact hm t hx (by simpa using hy)
  -- the state when some have been done
  have main : ∀ (f : Nat) (listed : Array Bool) (b : Act) (s : St), Ok s0 → listed.size = lf.length → (∀ k, l.length ≤ k → listed.getD k false = false) → unl listed lf.length = f → Tr s0 s →
      (∀ t d, lkS l E F (fun k => listed.getD k false) t l.length = some d → Rep s d (slot b t)) → s.M.length = M.length → (∀ i, i < M.length → s.M[i]? = memS E M (fun k => listed.getD k false) i l.length) →
      b.tmps.size = n.n → DfOk s0 s n.mks n.U b.defers → (∀ j i, listed.getD j false = true → j < l.length → ahead lf i j = true → listed.getD i false = true) →
      wpAnyIn (wd (n.ρ s0)) 0 P .any lf.toArray (PostK s0 n K) f listed b s.w := by
    intro f
    induction f with
    | zero =>
      intro listed b s h0 hs hbig hu ht hF hMl hM hn hd _
      have hall := unl_zero _ hu
      have h1 := hall l.length (by omega)
      rw [hbig l.length (Nat.le_refl _)] at h1
      cases h1
    | succ f ih =>
      intro listed b s h0 hs hbig hu ht hF hMl hM hn hd hcl
      refine ⟨fun hnone => ?_, fun i hi => ?_⟩
      · exfalso
        obtain ⟨i, h1, h2, h3⟩ := unl_some lf.length (listed := listed) (by omega)
        obtain ⟨o, ho⟩ : ∃ o, lf[i]? = some o := ⟨lf[i], List.getElem?_eq_getElem h1⟩
        have g1 := hon i o ho
        have : i ∈ Region.ready .any lf.toArray listed := mem_ready.2 ⟨by rw [getD_tf hs h1]; exact h2, o, by simpa using ho, fun e he hb => h3 _ (g1 e (by simpa using he) hb)⟩
        rw [hnone] at this
        cases this
      · obtain ⟨hun, o, ho, hall⟩ := mem_ready.1 hi
        have hof : lf[i]? = some o := by simpa using ho
        have hilf : i < lf.length := (List.getElem?_eq_some_iff.1 hof).1
        rw [getD_tf hs hilf] at hun
        have done0 : ∀ j, ahead lf j i = true → listed.getD j false = true := by
          intro j hj
          obtain ⟨e, he, hb, hcase⟩ := ahead_step hof hj
          have h1 := hall e (by simpa using he) hb
          rcases hcase with rfl | ⟨h2, h3⟩
          · exact h1
          · refine hcl e.on j h1 ?_ h3
            refine Classical.byContradiction fun hno => ?_
            rw [hbig e.on (by omega)] at h1
            cases h1
        by_cases hgt : l.length < i
        · exfalso
          have h1 := done0 l.length (hbeh i hgt hilf)
          rw [hbig l.length (Nat.le_refl _)] at h1
          cases h1
        by_cases him : i = l.length
        · subst him
          rw [hof] at hopn
          obtain rfl := Option.some.inj hopn
          obtain ⟨fp, d, wr, q1, q2, q3⟩ := e2
          have hMk : s.M = Mup E M l.length := by
            refine List.ext_getElem? fun i => ?_
            by_cases hi : i < M.length
            · rw [hM i hi, mup_at i hi]
              refine memS_congr _ fun j rj hj hrj hwj => ?_
              obtain ⟨oj, fj, hoj, hfj⟩ := at_ j hj
              rcases hpre j oj fj (by rw [← htk j hj]; exact hoj) hfj hj with h1 | ⟨h1, _⟩
              · exact done0 j h1
              · exfalso
                obtain ⟨_, _, r', hr', _, _, _, hw', _⟩ := e3 j oj fj hoj hfj
                rw [hrj] at hr'
                obtain rfl := Option.some.inj hr'
                rw [h1] at hw'
                rw [wrAt_none _ _ (by rw [hw']; simp)] at hwj
                cases hwj
            · rw [List.getElem?_eq_none (by omega), List.getElem?_eq_none (by rw [Mup_len]; omega)]
          have hslot : ∀ t d, t ∈ namesOf lf.toArray o → lk (Fup l E F l.length) t = some d → Rep s d (slot b t) := by
            intro t d' ht hd'
            refine hF t d' ?_
            rw [← hd', fup_lk]
            refine lkS_congr _ fun j oj hj hoj hjd => ?_
            obtain ⟨oj', fj, hoj', hfj⟩ := at_ j hj
            rw [hoj] at hoj'
            obtain rfl := Option.some.inj hoj'
            rcases hpre j oj fj (by rw [← htk j hj]; exact hoj) hfj hj with h1 | ⟨_, h1⟩
            · exact done0 j h1
            · exact (meet_no h1 (by simp [hjd]) ht).elim
          unfold wpOpIn
          rw [ho]
          simp only
          have hw : Region.wanted o (yielded lf.toArray b.tmps) = true := by unfold Region.wanted; rw [q1]
          rw [if_pos hw]
          refine dgives_inP hndm (q2 rfl b s ht.ok (fun x hx d' hd' => ?_) (fun i _ => by rw [hMk])) fun s' v ht' ⟨w1, w2⟩ => ?_
          · cases x with
            | tmp t => exact hslot t d' (List.mem_append_left _ (List.mem_append_left _ (List.mem_filterMap.2 ⟨.tmp t, by simpa using hx, rfl⟩))) hd'
            | const v => obtain rfl := Option.some.inj hd'; exact .val v
            | func g => obtain rfl := Option.some.inj hd'; exact Rep.fn (vs := []) (us := []) rfl rfl (fun j d v h => by simp at h) (fun j d v h => by simp at h)
            | global g => obtain rfl := Option.some.inj hd'; exact .val _
          · exact ⟨[], upd (Mup E M l.length) wr, d, ⟨h0, s', v, w1.trans (by rw [hMk]), rfl, ht.trans ht', (fun t d hd => by cases hd), hn, hd.mono ht.ok ht', rfl, w2⟩, q3⟩
        have hil : i < l.length := by omega
        have ho' : l[i]? = some o := by rw [hl, List.getElem?_take, if_pos (by omega)]; exact hof
        obtain ⟨fi, hfi⟩ : ∃ fi, fps[i]? = some fi := ⟨fps[i], List.getElem?_eq_getElem (by omega)⟩
        obtain ⟨pc, d, r, hr, hrd, hg, hop, hwi, hgw⟩ := e3 i o fi ho' hfi
        obtain ⟨g1, g2, hnd, g3, g4⟩ := hone i o fi ho' hfi
        have done := done0
        have undone : ∀ j, j < l.length → ahead lf i j = true → listed.getD j false = false := by
          intro j hj h1
          cases e : listed.getD j false with
          | false => rfl
          | true => rw [hcl j i e hj h1] at hun; cases hun
        have tset : ∀ t, t ∈ namesOf lf.toArray o → lkS l E F (fun k => listed.getD k false) t l.length = lkS l E F (fun _ => true) t i := by
          intro t ht
          rw [lkS_cut i l.length (by omega) fun j oj h1 h2 hj hjd => ?_]
          · refine lkS_congr i fun j oj hj hoj hjd => ?_
            obtain ⟨fj, hfj⟩ : ∃ fj, fps[j]? = some fj := ⟨fps[j], List.getElem?_eq_getElem (by omega)⟩
            rcases g4 j oj fj hj hoj hfj with h1 | h1
            · exact done j h1
            · exact (meet_no h1.1 (by simp [hjd]) ht).elim
          · by_cases e : j = i
            · subst e; exact hun
            · obtain ⟨fj, hfj⟩ : ∃ fj, fps[j]? = some fj := ⟨fps[j], List.getElem?_eq_getElem (by omega)⟩
              rcases (hone j oj fj hj hfj).2.2.2.2 i o fi (by omega) ho' hfi with h3 | h3
              · exact undone j h2 h3
              · exact (meet_no h3.2.1 ht (by simp [hjd])).elim
        have mset : ∀ x, x ∈ fi.1 → memS E M (fun k => listed.getD k false) x l.length = memS E M (fun _ => true) x i := by
          intro x hx
          have wmem : ∀ (j : Nat) rj fj, E[j]? = some rj → fps[j]? = some fj → j < l.length → (wrAt rj.wr x).isSome = true → x ∈ fj.2 := by
            intro j rj fj hrj hfj hj hw
            obtain ⟨oj, _, hoj, _⟩ := at_ j hj
            obtain ⟨_, _, r', hr', _, _, _, hw', _⟩ := e3 j oj fj hoj hfj
            rw [hrj] at hr'
            obtain rfl := Option.some.inj hr'
            rw [← hw']
            refine Classical.byContradiction fun hno => ?_
            rw [wrAt_none _ _ hno] at hw
            cases hw
          rw [memS_cut i l.length (by omega) fun j rj h1 h2 hrj hw => ?_]
          · refine memS_congr i fun j rj hj hrj hw => ?_
            obtain ⟨oj, fj, hoj, hfj⟩ := at_ j (by omega)
            rcases g4 j oj fj hj hoj hfj with h1 | h1
            · exact done j h1
            · exact (meet_no h1.2.2.1 (wmem j rj fj hrj hfj (by omega) hw) hx).elim
          · by_cases e : j = i
            · subst e; exact hun
            · obtain ⟨oj, fj, hoj, hfj⟩ := at_ j (by omega)
              rcases (hone j oj fj hoj hfj).2.2.2.2 i o fi (by omega) ho' hfi with h3 | h3
              · exact undone j h2 h3
              · exact (meet_no h3.2.2.2 hx (wmem j rj fj hrj hfj h2 hw)).elim
        have hslot : ∀ t d, t ∈ o.looksAt lf.toArray → lk (Fup l E F i) t = some d → Rep s d (slot b t) := by
          intro t d' ht hd'
          refine hF t d' ?_
          rw [tset t (List.mem_append_left _ ht), ← fup_lk]
          exact hd'
        have next : ∀ (s' : St) (v : Value), Tr s s' → s'.M = upd s.M r.wr → Rep s' r.d v → wpAnyIn (wd (n.ρ s0)) 0 P .any lf.toArray (PostK s0 n K) f (listed.setIfInBounds i true) (b.put o.dst v) s'.w := by
          intro s' v ht' hM' hrep
          have hset : ∀ k, (listed.setIfInBounds i true).getD k false = if i = k then true else listed.getD k false := fun k => getD_set _ _ _ (by rw [hs]; exact hilf)
          refine ih _ _ s' h0 (by simp [hs]) (fun k hk => by rw [hset, if_neg (by omega)]; exact hbig k hk) ?_ (ht.trans ht') ?_ (by rw [hM', upd_len, hMl]) ?_ (by rw [put_size]; exact hn) (by rw [put_def]; exact hd.mono ht.ok ht') ?_
          · have := unl_set (by rw [hs]; exact hilf) hun lf.length
            rw [if_pos hilf] at this
            omega
          · intro t d' hd'
            by_cases htd : o.dst = some t
            · have e : lkS l E F (fun k => (listed.setIfInBounds i true).getD k false) t l.length = some r.d := by
                rw [lkS_cut (i + 1) l.length (by omega) fun j oj h1 h2 hj hjd => ?_]
                · unfold lkS
                  rw [ho', hr]
                  simp only
                  rw [if_pos ⟨by rw [hset, if_pos rfl], htd⟩]
                · rw [hset, if_neg (by omega)]
                  obtain ⟨fj, hfj⟩ : ∃ fj, fps[j]? = some fj := ⟨fps[j], List.getElem?_eq_getElem (by omega)⟩
                  rcases (hone j oj fj hj hfj).2.2.2.2 i o fi (by omega) ho' hfi with h3 | h3
                  · exact undone j h2 h3
                  · exact (meet_no (t := t) h3.2.1 (List.mem_append_right _ (by simp [htd])) (by simp [hjd])).elim
              rw [e] at hd'
              obtain rfl := Option.some.inj hd'
              have hsz : t < b.tmps.size := by
                rw [htd] at g2
                rw [hn]
                exact Nat.blt_eq.mp g2
              rw [htd, slot_put, if_pos ⟨rfl, hsz⟩]
              exact hrep
            · have e : slot (b.put o.dst v) t = slot b t := by
                cases hod : o.dst with
                | none => rfl
                | some x => rw [slot_put, if_neg (fun q => htd (by rw [hod, q.1]))]
              rw [e]
              refine (hF t d' ?_).mono ht.ok ht'
              rw [← hd']
              refine lkS_congr _ fun j oj hj hoj hjd => ?_
              rw [hset]
              by_cases ej : i = j
              · subst ej
                rw [ho'] at hoj
                obtain rfl := Option.some.inj hoj
                exact absurd hjd htd
              · rw [if_neg ej]
          · intro x hx
            rw [hM', upd_get _ _ _ (by omega), hM x hx]
            cases hw : wrAt r.wr x with
            | none =>
              rw [Option.none_or]
              refine memS_congr _ fun j rj hj hrj hwj => ?_
              rw [hset]
              by_cases ej : i = j
              · subst ej
                rw [hr] at hrj
                obtain rfl := Option.some.inj hrj
                rw [hw] at hwj; cases hwj
              · rw [if_neg ej]
            | some k =>
              rw [Option.some_or]
              have hxw : x ∈ fi.2 := by
                rw [← hwi]
                refine Classical.byContradiction fun hno => ?_
                rw [wrAt_none _ _ hno] at hw
                cases hw
              rw [memS_cut (i + 1) l.length (by omega) fun j rj h1 h2 hrj hwj => ?_]
              · unfold memS
                rw [hr]
                simp only
                rw [if_pos (by rw [hset, if_pos rfl]), hw, Option.some_or]
              · rw [hset, if_neg (by omega)]
                obtain ⟨oj, fj, hoj, hfj⟩ := at_ j (by omega)
                rcases (hone j oj fj hoj hfj).2.2.2.2 i o fi (by omega) ho' hfi with h3 | h3
                · exact undone j h2 h3
                · refine (meet_no h3.2.2.2 (g3 x hxw) ?_).elim
                  obtain ⟨_, _, r', hr', _, _, _, hw', _⟩ := e3 j oj fj hoj hfj
                  rw [hrj] at hr'
                  obtain rfl := Option.some.inj hr'
                  rw [← hw']
                  refine Classical.byContradiction fun hno => ?_
                  rw [wrAt_none _ _ hno] at hwj
                  cases hwj
          · intro j k hj hjl hk
            rw [hset] at hj ⊢
            by_cases e : i = k
            · rw [if_pos e]
            · rw [if_neg e]
              by_cases ej : i = j
              · subst ej; exact done k hk
              · rw [if_neg ej] at hj
                exact hcl j k hj hjl hk
        unfold wpOpIn
        rw [ho]
        simp only
        rw [gd_wanted hg hslot]
        cases pc with
        | true =>
          rw [if_pos rfl]
          refine dgives_in hnd (hop rfl b s ht.ok (fun x hx d' hd' => ?_) (fun x hx => ?_)) fun s' v ht' ⟨q1, q2⟩ => next s' v ht' q1 ?_
          · cases x with
            | tmp t => exact hslot t d' (List.mem_append_left _ (List.mem_filterMap.2 ⟨.tmp t, by simpa using hx, rfl⟩)) hd'
            | const v => obtain rfl := Option.some.inj hd'; exact .val v
            | func g => obtain rfl := Option.some.inj hd'; exact Rep.fn (vs := []) (us := []) rfl rfl (fun j d v h => by simp at h) (fun j d v h => by simp at h)
            | global g => obtain rfl := Option.some.inj hd'; exact .val _
          · by_cases hxl : x < M.length
            · rw [hM x hxl, mup_at x hxl, mset x hx]
            · rw [List.getElem?_eq_none (by omega), List.getElem?_eq_none (by rw [Mup_len]; omega)]
          · rw [hrd]
            unfold gdd
            split
            · exact q2
            · exact .opt (fun _ => q2) (fun h => by cases h)
        | false =>
          rw [if_neg (by simp)]
          have hgs : o.guard.isSome = true := by
            unfold Gd at hg
            cases e : o.guard with
            | none => rw [e] at hg; cases hg
            | some x => rfl
          refine ⟨fun _ _ => trivial, next s undef (Tr.refl ht.ok) (by rw [hgw rfl]; rfl) ?_⟩
          rw [hrd]
          unfold gdd
          split
          · rename_i e; rw [e] at hgs; cases hgs
          · exact .opt (fun h => by cases h) (fun _ => rfl)
  obtain ⟨h0, s, h1, h2, h3, h4, h5, h6⟩ := hi
  subst h1 h2
  have hst := step_same h3.ok { s.w with drawn := s.w.drawn + 1 } rfl rfl rfl rfl
  have hno : ∀ k, (Array.replicate lf.toArray.size false).getD k false = false := fun k => by
    simp only [Array.getD_eq_getD_getElem?, Array.getElem?_replicate]
    split <;> rfl
  have := main lf.length (Array.replicate lf.toArray.size false) a ⟨s.β, s.I, s.M, { s.w with drawn := s.w.drawn + 1 }⟩ h0 (by simp) (fun k _ => hno k) (by
      have := unl_start lf.toArray.size lf.length (by simp)
      exact this) (h3.trans hst) (fun t d hd => ?_) rfl (fun i hi => ?_) h5 (h6.mono h3.ok hst) (fun j i hj => by rw [hno] at hj; cases hj)
  · simpa using this
  · rw [lkS_cut 0 l.length (by omega) fun j o _ _ _ _ => hno j] at hd
    exact (h4 t d hd).mono h3.ok hst
  · rw [memS_cut 0 l.length (by omega) fun j r _ _ _ _ => hno j]
    rfl
end Go.Proofs.YtmacjicebemgoaaGreat
namespace Go.Proofs.YtmacjicebemgoaaGreat
set_option linter.unusedVariables false
set_option linter.unusedSimpArgs false
open Go.RowKit
attribute [local irreducible] tkN valF numN tkCo tkRep
theorem ar141 : arE Tryz.prog 141 = some (9, 1) := by kernel_rfl
theorem sl140 : slE Tryz.prog 140 = some (143, 1, 8) := by kernel_rfl
theorem tb141 : tyB Tryz.prog 141 = some (true, 9) := by kernel_rfl
theorem zr141 : zrC Tryz.prog 141 = some [.slice none 0 0, .slice none 0 0, .slice none 0 0, .slice none 0 0, .slice none 0 0, .slice none 0 0, .slice none 0 0, .slice none 0 0, .slice none 0 0] := by kernel_rfl
theorem zr143 : zrC Tryz.prog 143 = some [.nilFunc] := by kernel_rfl
set_option maxRecDepth 4000 in
set_option maxHeartbeats 1000000 in
theorem tstamp_okx (o : OpM) (L : List Int) (hL : okL L) (w h : Int) (hw : siD w = true) (hh : siD h = true) (r1 r2 : List Int) (e1 : tN 1 L = .ok w r1) (e2 : tN 1 r1 = .ok h r2) (l : List C4) (r : List Int) (e3 : tkRep tCo (w * h).toNat r2 = .ok l r) : DFun Tryz.prog 134 [.loc 0 0] [.mix 135 (.loc 1 0 :: opD o), .mix 157 [.slf 1 (L).length ((L).flatMap uc8), .val (.int .i64 0)]] (.tup []) [.mix 135 (.loc 1 0 :: opD { o with sw := w, sh := h, px := l }), .mix 157 [.slf 1 (r).length ((r).flatMap uc8), .val (.int .i64 0)]] := by
  refine zal (N := 29) 2 (by kernel_rfl) Tryz.func134 rfl rfl rfl (by simp only [fr0, Nat.zero_add, Nat.reduceAdd]; exact rfl) rfl fun s0 hs0 => ?_
  refine zaf ?_
  have k1 := okL_N hL e1
  have k2 := okL_N k1 e2
  have hwh := siD_mul hw hh
  refine zaj 1 (by simp only [holes, List.cons_append, List.nil_append]; exact rfl) ?_
  refine zad ?_
  refine zab rfl rfl rfl (zac (.inl rfl) (ev1 rfl)) ?_
  refine zak rfl rfl rfl (zah [0, 1] [] [] rfl (ev1 rfl) (ec (ev1 rfl) en) rfl rfl (tside_ok o L hL w r1 e1 hw) rfl rfl rfl rfl rfl rfl) (by simp only [upd, za, zaa]; exact rfl) ?_
  refine zab rfl rfl rfl (op_build (ps := [(0, .tmp 4)]) rfl fl45 zr45 (vc (ev1 rfl) vn) rfl rfl) ?_
  refine zak rfl rfl rfl (zao 2 rfl zr45 rfl) (by simp only [upd, za, zaa]; exact rfl) ?_
  refine walk_s rfl rfl (op_stwa rfl tb45 (ev1 rfl) (ev1 rfl) rfl rfl rfl rfl) (by simp only [upd, za, zaa]; exact rfl) ?_
  refine zae ?_
  refine zaf ?_
  refine zad ?_
  refine zab rfl rfl rfl (zac (.inl rfl) (ev1 rfl)) ?_
  refine zak rfl rfl rfl (zah [0, 1] [] [] rfl (ev1 rfl) (ec (ev1 rfl) en) rfl rfl (tside_ok o r1 k1 h r2 e2 hh) rfl rfl rfl rfl rfl rfl) (by simp only [upd, za, zaa]; exact rfl) ?_
  refine zab rfl rfl rfl (zap rfl fo45_1 (ev1 rfl)) ?_
  refine walk_s rfl rfl (op_st1 rfl tb3 (ev1 rfl) (ev1 rfl) rfl (Nat.le_of_ble_eq_true rfl) rfl) (by simp only [upd, za, zaa]; exact rfl) ?_
  refine zae ?_
  refine zaf ?_
  refine zaf ?_
  refine dwp_reb 2 reb_mix rfl rfl (by simp only [List.cons_append, List.nil_append, za, zaa, List.map]; exact rfl) ?_
  refine dwp_adoptc (l' := [.val (.int .i64 w), .val (.int .i64 h), .arr 3]) 2 2 42 4 rfl rfl rfl rfl (by simp only [List.cons_append, List.nil_append, za, zaa]; exact rfl) ?_
  refine dwp_reb 3 reb_arr rfl rfl (by simp only [List.cons_append, List.nil_append, za, zaa, List.map]; exact rfl) ?_
  refine zad ?_
  refine zab rfl rfl rfl (zap rfl fo45_0 (ev1 rfl)) ?_
  refine zab rfl rfl rfl (zaq rfl tb3 (ev1 rfl) rfl rfl) ?_
  refine zab rfl rfl rfl (zap rfl fo45_1 (ev1 rfl)) ?_
  refine zab rfl rfl rfl (zaq rfl tb3 (ev1 rfl) rfl rfl) ?_
  refine zab rfl rfl rfl ((op_mul' rfl (ev1 rfl) (ev1 rfl) (fun _ => IntWalk.i64_in _ (by omega))).cast (d' := .val (.int .i64 ((w * h).toNat : Int))) (by rw [Int.toNat_of_nonneg hwh.1])) ?_
  refine zab rfl rfl rfl (zac (.inl rfl) (ev1 rfl)) ?_
  refine zae ?_
  refine zat ?_
  refine dwp_loopS ⟨hs0, rfl⟩ (α := List C4 × List Int) (fun x => [(14, .val (.int .i64 (x.1.length : Int)))]) [(0, _), (2, _), (13, _)] (fun x => [(1, .mix 157 [.slf 1 (x.2).length ((x.2).flatMap uc8), .val (.int .i64 0)]), (2, .mix 45 [.val (.int .i64 w), .val (.int .i64 h), .arr 3]), (3, .arr 42 4 (x.1).length ((x.1).flatMap c4))]) [_, .hole, .hole, .hole] (fun x => okL x.2 ∧ x.1.length ≤ (w * h).toNat ∧ ∃ ys, tkRep tCo ((w * h).toNat - x.1.length) x.2 = .ok ys r ∧ x.1 ++ ys = l) (fun x => (w * h).toNat - x.1.length) ([], r2) [0, 1, 2, 3] (⟨k2, Nat.zero_le _, l, e3, rfl⟩) rfl ⟨rfl, rfl, rfl, trivial⟩ ⟨rfl, trivial⟩ ⟨rfl, rfl, rfl, rfl, trivial⟩ ?_
  intro x hx
  simp only [upd, za, zaa, List.cons_append, List.nil_append]
  obtain ⟨hk, hle, ys, hy, hcat⟩ := hx
  refine zaf ?_
  refine zad ?_
  refine zab rfl rfl rfl (op_lss rfl (ev1 rfl) (ev1 rfl)) ?_
  refine zae ?_
  refine zaf ?_
  refine dwp_cond rfl (fun c1 => ?_) (fun c1 => ?_)
  · try simp only [decide_eq_true_eq, decide_eq_false_iff_not, beq_iff_eq, bne_iff_ne, beq_eq_false_iff_ne, bne_eq_false_iff_eq, Bool.not_eq_true', Bool.not_eq_false', Bool.and_eq_true, Bool.or_eq_true, Bool.or_eq_false_iff, ne_eq, Decidable.not_not, Int.not_lt, Int.not_le] at c1
    refine zam ?_
    refine zaf ?_
    refine zat ?_
    obtain ⟨c, q, zs, hc, hz, rfl⟩ := rep_step (by omega) hy
    refine zaj 1 (by simp only [holes, List.cons_append, List.nil_append]; exact rfl) ?_
    refine dwp_draw [([], []), ([2], []), ([], []), ([0, 1], [0, 1]), ([], []), ([3, 4], [3, 4]), ([], []), ([2], [2])] mixed (by kernel_rfl) ?_
    refine lex_r rfl rfl (zap rfl fo45_2 (ev1 rfl)) ?_
    refine lex_r rfl rfl (zaq rfl tb43 (ev1 rfl) rfl rfl) ?_
    refine lex_r rfl rfl (zac (.inl rfl) (ev1 rfl)) ?_
    refine lex_w rfl rfl (zah [0, 1] [] [] rfl (ev1 rfl) (ec (ev1 rfl) en) rfl rfl (tpix_ok o x.2 hk c q hc) rfl rfl rfl rfl rfl rfl) rfl (by simp only [upd, za, zaa]; exact rfl) ?_
    refine lex_r rfl rfl (op_bs (ps := [(0, .tmp 19)]) rfl sl43 zr42 rfl (vc (ev1 rfl) vn) rfl (by decide) (by decide)) ?_
    refine lex_w rfl rfl (op_app (j := 4) rfl sl43 zr42 rfl (ev1 rfl) (ev1 rfl) src_slf rfl rfl (fun _ => rfl) (fun _ => ⟨by omega, by omega⟩)) rfl (by simp only [upd, za, zaa]; exact rfl) ?_
    refine lex_r rfl rfl (zap rfl fo45_2 (ev1 rfl)) ?_
    refine lex_s rfl rfl (op_stm rfl tb43 (ev1 rfl) (ev1 rfl) (fun s v h => by cases h <;> exact ⟨rfl, rfl⟩) rfl (by first | decide | exact Nat.le_of_ble_eq_true rfl | simp)) rfl (by simp only [upd, za, zaa]; exact rfl) ?_
    refine lex_nil ?_
    refine zad ?_
    refine zab rfl rfl rfl (op_add' rfl (ev1 rfl) (ev1 rfl) (fun _ => IntWalk.i64_in _ (by omega))) ?_
    refine zab rfl rfl rfl (zac (.inl rfl) (ev1 rfl)) ?_
    refine zae ?_
    refine ⟨(x.1 ++ [c], q), [0, 1, 2, 4], ⟨okL_of (cdCo 110) hk hc, by rw [List.length_append]; simp only [List.length_cons, List.length_nil]; omega, zs, by rw [List.length_append]; exact hz, by rw [List.append_assoc]; exact hcat⟩, by show (w * h).toNat - (x.1 ++ [c]).length < (w * h).toNat - x.1.length; rw [List.length_append]; simp only [List.length_cons, List.length_nil]; omega, rfl, ⟨congrArg (fun z => some (D.val (Value.int .i64 z))) (by simp), rfl, rfl, rfl, trivial⟩, ⟨rfl, rfl, rfl, arr_eq (by simp) (by rw [List.flatMap_append]; rfl), trivial⟩⟩
  · try simp only [decide_eq_true_eq, decide_eq_false_iff_not, beq_iff_eq, bne_iff_ne, beq_eq_false_iff_ne, bne_eq_false_iff_eq, Bool.not_eq_true', Bool.not_eq_false', Bool.and_eq_true, Bool.or_eq_true, Bool.or_eq_false_iff, ne_eq, Decidable.not_not, Int.not_lt, Int.not_le] at c1
    refine dwp_exit ?_
    refine dwp_giveAm 2 2 rfl rfl rfl (by simp only [List.cons_append, List.nil_append, za, zaa]; exact rfl) ?_
    obtain ⟨rfl, hxr⟩ := rep_end (by omega) hy
    rw [List.append_nil] at hcat
    subst hcat
    subst hxr
    refine zad ?_
    refine zab rfl rfl rfl (zac (.inl rfl) (ev1 rfl)) ?_
    refine zab rfl rfl rfl (op_ldmw rfl tb45 (ev1 rfl) rfl rfl) ?_
    refine zab rfl rfl rfl (op_nc rfl (ev1 rfl) (fun s v h => by cases h; exact ⟨_, rfl⟩)) ?_
    refine zab rfl rfl rfl (zap rfl fo135_1 (ev1 rfl)) ?_
    refine zab rfl rfl rfl (zap rfl fo47_8 (ev1 rfl)) ?_
    refine walk_s rfl rfl (op_stmp rfl tb45 (ev1 rfl) (ev1 rfl) rfl rfl rfl rfl rfl) (by simp only [upd, za, zaa]; exact rfl) ?_
    refine zae ?_
    refine kend [0, 1] (res_none rfl) rfl rfl ?_ ⟨rfl, rfl, trivial⟩
    rfl
set_option maxRecDepth 4000 in
set_option maxHeartbeats 1000000 in
theorem tstamp_n3 (o : OpM) (L : List Int) (hL : okL L) (w h : Int) (hw : siD w = true) (hh : siD h = true) (r1 r2 : List Int) (e1 : tN 1 L = .ok w r1) (e2 : tN 1 r1 = .ok h r2) (e : Int) (e3 : tkRep tCo (w * h).toNat r2 = .err e) : DPanL Tryz.prog 134 [.loc 0 0] [.mix 135 (.loc 1 0 :: opD o), .mix 157 [.slf 1 (L).length ((L).flatMap uc8), .val (.int .i64 0)]] (.ifc 139 (.val (.agg #[.int .i64 e]))) := by
  refine zal (N := 29) 2 (by kernel_rfl) Tryz.func134 rfl rfl rfl (by simp only [fr0, Nat.zero_add, Nat.reduceAdd]; exact rfl) rfl fun s0 hs0 => ?_
  refine zaf ?_
  have k1 := okL_N hL e1
  have k2 := okL_N k1 e2
  have hwh := siD_mul hw hh
  refine zaj 1 (by simp only [holes, List.cons_append, List.nil_append]; exact rfl) ?_
  refine zad ?_
  refine zab rfl rfl rfl (zac (.inl rfl) (ev1 rfl)) ?_
  refine zak rfl rfl rfl (zah [0, 1] [] [] rfl (ev1 rfl) (ec (ev1 rfl) en) rfl rfl (tside_ok o L hL w r1 e1 hw) rfl rfl rfl rfl rfl rfl) (by simp only [upd, za, zaa]; exact rfl) ?_
  refine zab rfl rfl rfl (op_build (ps := [(0, .tmp 4)]) rfl fl45 zr45 (vc (ev1 rfl) vn) rfl rfl) ?_
  refine zak rfl rfl rfl (zao 2 rfl zr45 rfl) (by simp only [upd, za, zaa]; exact rfl) ?_
  refine walk_s rfl rfl (op_stwa rfl tb45 (ev1 rfl) (ev1 rfl) rfl rfl rfl rfl) (by simp only [upd, za, zaa]; exact rfl) ?_
  refine zae ?_
  refine zaf ?_
  refine zad ?_
  refine zab rfl rfl rfl (zac (.inl rfl) (ev1 rfl)) ?_
  refine zak rfl rfl rfl (zah [0, 1] [] [] rfl (ev1 rfl) (ec (ev1 rfl) en) rfl rfl (tside_ok o r1 k1 h r2 e2 hh) rfl rfl rfl rfl rfl rfl) (by simp only [upd, za, zaa]; exact rfl) ?_
  refine zab rfl rfl rfl (zap rfl fo45_1 (ev1 rfl)) ?_
  refine walk_s rfl rfl (op_st1 rfl tb3 (ev1 rfl) (ev1 rfl) rfl (Nat.le_of_ble_eq_true rfl) rfl) (by simp only [upd, za, zaa]; exact rfl) ?_
  refine zae ?_
  refine zaf ?_
  refine zaf ?_
  refine dwp_reb 2 reb_mix rfl rfl (by simp only [List.cons_append, List.nil_append, za, zaa, List.map]; exact rfl) ?_
  refine dwp_adoptc (l' := [.val (.int .i64 w), .val (.int .i64 h), .arr 3]) 2 2 42 4 rfl rfl rfl rfl (by simp only [List.cons_append, List.nil_append, za, zaa]; exact rfl) ?_
  refine dwp_reb 3 reb_arr rfl rfl (by simp only [List.cons_append, List.nil_append, za, zaa, List.map]; exact rfl) ?_
  refine zad ?_
  refine zab rfl rfl rfl (zap rfl fo45_0 (ev1 rfl)) ?_
  refine zab rfl rfl rfl (zaq rfl tb3 (ev1 rfl) rfl rfl) ?_
  refine zab rfl rfl rfl (zap rfl fo45_1 (ev1 rfl)) ?_
  refine zab rfl rfl rfl (zaq rfl tb3 (ev1 rfl) rfl rfl) ?_
  refine zab rfl rfl rfl ((op_mul' rfl (ev1 rfl) (ev1 rfl) (fun _ => IntWalk.i64_in _ (by omega))).cast (d' := .val (.int .i64 ((w * h).toNat : Int))) (by rw [Int.toNat_of_nonneg hwh.1])) ?_
  refine zab rfl rfl rfl (zac (.inl rfl) (ev1 rfl)) ?_
  refine zae ?_
  refine zat ?_
  refine dwp_loopS ⟨hs0, rfl⟩ (α := List C4 × List Int) (fun x => [(14, .val (.int .i64 (x.1.length : Int)))]) [(0, _), (2, _), (13, _)] (fun x => [(1, .mix 157 [.slf 1 (x.2).length ((x.2).flatMap uc8), .val (.int .i64 0)]), (2, .mix 45 [.val (.int .i64 w), .val (.int .i64 h), .arr 3]), (3, .arr 42 4 (x.1).length ((x.1).flatMap c4))]) [_, .hole, .hole, .hole] (fun x => okL x.2 ∧ x.1.length ≤ (w * h).toNat ∧ tkRep tCo ((w * h).toNat - x.1.length) x.2 = .err e) (fun x => (w * h).toNat - x.1.length) ([], r2) [0, 1, 2, 3] (⟨k2, Nat.zero_le _, e3⟩) rfl ⟨rfl, rfl, rfl, trivial⟩ ⟨rfl, trivial⟩ ⟨rfl, rfl, rfl, rfl, trivial⟩ ?_
  intro x hx
  simp only [upd, za, zaa, List.cons_append, List.nil_append]
  obtain ⟨hk, hle, hy⟩ := hx
  refine zaf ?_
  refine zad ?_
  refine zab rfl rfl rfl (op_lss rfl (ev1 rfl) (ev1 rfl)) ?_
  refine zae ?_
  refine zaf ?_
  refine dwp_cond rfl (fun c1 => ?_) (fun c1 => ?_)
  · try simp only [decide_eq_true_eq, decide_eq_false_iff_not, beq_iff_eq, bne_iff_ne, beq_eq_false_iff_ne, bne_eq_false_iff_eq, Bool.not_eq_true', Bool.not_eq_false', Bool.and_eq_true, Bool.or_eq_true, Bool.or_eq_false_iff, ne_eq, Decidable.not_not, Int.not_lt, Int.not_le] at c1
    refine zam ?_
    refine zaf ?_
    refine zat ?_
    by_cases hs : ∃ c q, tCo x.2 = .ok c q ∧ tkRep tCo ((w * h).toNat - (x.1.length + 1)) q = .err e
    · obtain ⟨c, q, hc, hz⟩ := hs
      refine zaj 1 (by simp only [holes, List.cons_append, List.nil_append]; exact rfl) ?_
      refine dwp_draw [([], []), ([2], []), ([], []), ([0, 1], [0, 1]), ([], []), ([3, 4], [3, 4]), ([], []), ([2], [2])] mixed (by kernel_rfl) ?_
      refine lex_r rfl rfl (zap rfl fo45_2 (ev1 rfl)) ?_
      refine lex_r rfl rfl (zaq rfl tb43 (ev1 rfl) rfl rfl) ?_
      refine lex_r rfl rfl (zac (.inl rfl) (ev1 rfl)) ?_
      refine lex_w rfl rfl (zah [0, 1] [] [] rfl (ev1 rfl) (ec (ev1 rfl) en) rfl rfl (tpix_ok o x.2 hk c q hc) rfl rfl rfl rfl rfl rfl) rfl (by simp only [upd, za, zaa]; exact rfl) ?_
      refine lex_r rfl rfl (op_bs (ps := [(0, .tmp 19)]) rfl sl43 zr42 rfl (vc (ev1 rfl) vn) rfl (by decide) (by decide)) ?_
      refine lex_w rfl rfl (op_app (j := 4) rfl sl43 zr42 rfl (ev1 rfl) (ev1 rfl) src_slf rfl rfl (fun _ => rfl) (fun _ => ⟨by omega, by omega⟩)) rfl (by simp only [upd, za, zaa]; exact rfl) ?_
      refine lex_r rfl rfl (zap rfl fo45_2 (ev1 rfl)) ?_
      refine lex_s rfl rfl (op_stm rfl tb43 (ev1 rfl) (ev1 rfl) (fun s v h => by cases h <;> exact ⟨rfl, rfl⟩) rfl (by first | decide | exact Nat.le_of_ble_eq_true rfl | simp)) rfl (by simp only [upd, za, zaa]; exact rfl) ?_
      refine lex_nil ?_
      refine zad ?_
      refine zab rfl rfl rfl (op_add' rfl (ev1 rfl) (ev1 rfl) (fun _ => IntWalk.i64_in _ (by omega))) ?_
      refine zab rfl rfl rfl (zac (.inl rfl) (ev1 rfl)) ?_
      refine zae ?_
      refine ⟨(x.1 ++ [c], q), [0, 1, 2, 4], ⟨okL_of (cdCo 110) hk hc, by rw [List.length_append]; simp only [List.length_cons, List.length_nil]; omega, by rw [List.length_append]; exact hz⟩, by show (w * h).toNat - (x.1 ++ [c]).length < (w * h).toNat - x.1.length; rw [List.length_append]; simp only [List.length_cons, List.length_nil]; omega, rfl, ⟨congrArg (fun z => some (D.val (Value.int .i64 z))) (by simp), rfl, rfl, rfl, trivial⟩, ⟨rfl, rfl, rfl, arr_eq (by simp) (by rw [List.flatMap_append]; rfl), trivial⟩⟩
    · have hn : tCo x.2 = .err e := by
        rcases rep_stop (by omega) hy with h1 | ⟨c, q, h1, h2⟩
        · exact h1
        · exact absurd ⟨c, q, h1, h2⟩ hs
      refine zaj 1 (by simp only [holes, List.cons_append, List.nil_append]; exact rfl) ?_
      refine dwp_drawQ 3 [([], []), ([2], []), ([], [])] mixed (by kernel_rfl) rfl rfl ?_
      refine lex_r rfl rfl (zap rfl fo45_2 (ev1 rfl)) ?_
      refine lex_r rfl rfl (zaq rfl tb43 (ev1 rfl) rfl rfl) ?_
      refine lex_r rfl rfl (zac (.inl rfl) (ev1 rfl)) ?_
      refine lex_nil ⟨_, _, _, rfl, dop_callP [0, 1] [] [] rfl (ev1 rfl) (ec (ev1 rfl) en) rfl rfl (tpix_no o x.2 hk e hn) rfl rfl rfl rfl rfl rfl, ?_⟩
      refine kpanL (Mo := [_, _]) [0, 1] rfl rfl ?_ ⟨rfl, rfl, trivial⟩ rfl
      rfl
  · exact (rep_endx (by simp only [decide_eq_false_iff_not, Int.not_lt] at c1; omega) hy).elim
set_option maxRecDepth 4000 in
set_option maxHeartbeats 1000000 in
theorem tstamp_n2 (o : OpM) (L : List Int) (hL : okL L) (w : Int) (hw : siD w = true) (r1 : List Int) (e1 : tN 1 L = .ok w r1) (e : Int) (h : tSi r1 = .err e) : DPanL Tryz.prog 134 [.loc 0 0] [.mix 135 (.loc 1 0 :: opD o), .mix 157 [.slf 1 (L).length ((L).flatMap uc8), .val (.int .i64 0)]] (.ifc 139 (.val (.agg #[.int .i64 e]))) := by
  refine zal (N := 29) 2 (by kernel_rfl) Tryz.func134 rfl rfl rfl (by simp only [fr0, Nat.zero_add, Nat.reduceAdd]; exact rfl) rfl fun s0 hs0 => ?_
  refine zaf ?_
  have k1 := okL_N hL e1
  refine zaj 1 (by simp only [holes, List.cons_append, List.nil_append]; exact rfl) ?_
  refine zad ?_
  refine zab rfl rfl rfl (zac (.inl rfl) (ev1 rfl)) ?_
  refine zak rfl rfl rfl (zah [0, 1] [] [] rfl (ev1 rfl) (ec (ev1 rfl) en) rfl rfl (tside_ok o L hL w r1 e1 hw) rfl rfl rfl rfl rfl rfl) (by simp only [upd, za, zaa]; exact rfl) ?_
  refine zab rfl rfl rfl (op_build (ps := [(0, .tmp 4)]) rfl fl45 zr45 (vc (ev1 rfl) vn) rfl rfl) ?_
  refine zak rfl rfl rfl (zao 2 rfl zr45 rfl) (by simp only [upd, za, zaa]; exact rfl) ?_
  refine walk_s rfl rfl (op_stwa rfl tb45 (ev1 rfl) (ev1 rfl) rfl rfl rfl rfl) (by simp only [upd, za, zaa]; exact rfl) ?_
  refine zae ?_
  refine zaf ?_
  refine zad ?_
  refine zab rfl rfl rfl (zac (.inl rfl) (ev1 rfl)) ?_
  refine walk_p rfl (dop_callP [0, 1] [] [] rfl (ev1 rfl) (ec (ev1 rfl) en) rfl rfl (tside_no o r1 k1 e h) rfl rfl rfl rfl rfl rfl) rfl ?_
  refine kpanL (Mo := [_, _]) [0, 1] rfl rfl ?_ ⟨rfl, rfl, trivial⟩ rfl
  rfl
set_option maxRecDepth 4000 in
set_option maxHeartbeats 1000000 in
theorem tstamp_n1 (o : OpM) (L : List Int) (hL : okL L) (e : Int) (h : tSi L = .err e) : DPanL Tryz.prog 134 [.loc 0 0] [.mix 135 (.loc 1 0 :: opD o), .mix 157 [.slf 1 (L).length ((L).flatMap uc8), .val (.int .i64 0)]] (.ifc 139 (.val (.agg #[.int .i64 e]))) := by
  refine zal (N := 29) 2 (by kernel_rfl) Tryz.func134 rfl rfl rfl (by simp only [fr0, Nat.zero_add, Nat.reduceAdd]; exact rfl) rfl fun s0 hs0 => ?_
  refine zaf ?_
  refine zaj 1 (by simp only [holes, List.cons_append, List.nil_append]; exact rfl) ?_
  refine zad ?_
  refine zab rfl rfl rfl (zac (.inl rfl) (ev1 rfl)) ?_
  refine walk_p rfl (dop_callP [0, 1] [] [] rfl (ev1 rfl) (ec (ev1 rfl) en) rfl rfl (tside_no o L hL e h) rfl rfl rfl rfl rfl rfl) rfl ?_
  refine kpanL (Mo := [_, _]) [0, 1] rfl rfl ?_ ⟨rfl, rfl, trivial⟩ rfl
  rfl
theorem tstamp_ok (o : OpM) (L : List Int) (hL : okL L) (s : (Int × Int) × List C4) (r : List Int) (h : tSt L = .ok s r) : DFun Tryz.prog 134 [.loc 0 0] [.mix 135 (.loc 1 0 :: opD o), .mix 157 [.slf 1 (L).length ((L).flatMap uc8), .val (.int .i64 0)]] (.tup []) [.mix 135 (.loc 1 0 :: opD { o with sw := s.1.1, sh := s.1.2, px := s.2 }), .mix 157 [.slf 1 (r).length ((r).flatMap uc8), .val (.int .i64 0)]] := by
  obtain ⟨r1, r2, e1, e2, e3⟩ := tSt_ok h
  obtain ⟨e1, hw⟩ := tSi_ok e1
  obtain ⟨e2, hh⟩ := tSi_ok e2
  exact tstamp_okx o L hL s.1.1 s.1.2 hw hh r1 r2 e1 e2 s.2 r e3
theorem tstamp_no (o : OpM) (L : List Int) (hL : okL L) (e : Int) (h : tSt L = .err e) : DPan Tryz.prog 134 [.loc 0 0] [.mix 135 (.loc 1 0 :: opD o), .mix 157 [.slf 1 (L).length ((L).flatMap uc8), .val (.int .i64 0)]] (.ifc 139 (.val (.agg #[.int .i64 e]))) [.gone, .gone] := by
  rcases tSt_err h with h | ⟨w, r1, e1, h⟩ | ⟨w, r1, x, r2, e1, e2, h⟩
  · exact (tstamp_n1 o L hL e h).dead
  · obtain ⟨e1, hw⟩ := tSi_ok e1
    exact (tstamp_n2 o L hL w hw r1 e1 e h).dead
  · obtain ⟨e1, hw⟩ := tSi_ok e1
    obtain ⟨e2, hh⟩ := tSi_ok e2
    exact (tstamp_n3 o L hL w x hw hh r1 r2 e1 e2 e h).dead
def fnT (f : Nat) : FuncId := match f with
  | 0 => 128
  | 1 => 129
  | 2 => 130
  | 3 => 131
  | 4 => 132
  | 5 => 133
  | 6 => 134
  | _ => 135
set_option maxRecDepth 4000 in
set_option maxHeartbeats 1000000 in
theorem takes_d : DFun Tryz.prog 84 [] [] (.agg (rowsF fnT)) [] := by
  refine zal (N := 44) 0 (by kernel_rfl) Tryz.func84 rfl rfl rfl (by simp only [fr0, Nat.zero_add, Nat.reduceAdd]; exact rfl) rfl fun s0 hs0 => ?_
  refine zaf ?_
  refine zaj 1 (by simp only [holes, List.cons_append, List.nil_append]; exact rfl) ?_
  refine zad ?_
  refine zak rfl rfl rfl (zao 0 rfl zr141 rfl) (by simp only [upd, za, zaa]; exact rfl) ?_
  refine zae ?_
  refine zaf ?_
  refine zad ?_
  refine zab rfl rfl rfl (zac (.inr rfl) (ev1 rfl)) ?_
  refine zab rfl rfl rfl (zac (.inr rfl) (ev1 rfl)) ?_
  refine zab rfl rfl rfl (zac (.inr rfl) (ev1 rfl)) ?_
  refine zab rfl rfl rfl (zac (.inr rfl) (ev1 rfl)) ?_
  refine zab rfl rfl rfl (zac (.inr rfl) (ev1 rfl)) ?_
  refine zab rfl rfl rfl (zac (.inr rfl) (ev1 rfl)) ?_
  refine zae ?_
  refine zaf ?_
  refine zad ?_
  refine zab rfl rfl rfl (zac (.inl rfl) (ev1 rfl)) ?_
  refine zab rfl rfl rfl (zac (.inl rfl) (ev1 rfl)) ?_
  refine zab rfl rfl rfl (zac (.inl rfl) (ev1 rfl)) ?_
  refine zab rfl rfl rfl (zac (.inl rfl) (ev1 rfl)) ?_
  refine zab rfl rfl rfl (zac (.inl rfl) (ev1 rfl)) ?_
  refine zab rfl rfl rfl (zac (.inl rfl) (ev1 rfl)) ?_
  refine zab rfl rfl rfl (op_bsr (ps := [(0, .tmp 7), (1, .tmp 8), (2, .tmp 9), (3, .tmp 10), (4, .tmp 11), (5, .tmp 12)]) rfl sl140 zr143 rfl (ec (ev1 rfl) (ec (ev1 rfl) (ec (ev1 rfl) (ec (ev1 rfl) (ec (ev1 rfl) (ec (ev1 rfl) en)))))) rfl rfl rfl (by rfl) rfl (by decide) (by decide)) ?_
  refine zab rfl rfl rfl (zac (.inl rfl) (ev1 rfl)) ?_
  refine zab rfl rfl rfl (zac (.inl rfl) (ev1 rfl)) ?_
  refine zab rfl rfl rfl (zac (.inl rfl) (ev1 rfl)) ?_
  refine zab rfl rfl rfl (zac (.inl rfl) (ev1 rfl)) ?_
  refine zab rfl rfl rfl (zac (.inl rfl) (ev1 rfl)) ?_
  refine zab rfl rfl rfl (zac (.inl rfl) (ev1 rfl)) ?_
  refine zab rfl rfl rfl (op_bsr (ps := [(0, .tmp 14), (1, .tmp 15), (2, .tmp 16), (3, .tmp 17), (4, .tmp 18), (5, .tmp 19)]) rfl sl140 zr143 rfl (ec (ev1 rfl) (ec (ev1 rfl) (ec (ev1 rfl) (ec (ev1 rfl) (ec (ev1 rfl) (ec (ev1 rfl) en)))))) rfl rfl rfl (by rfl) rfl (by decide) (by decide)) ?_
  refine zab rfl rfl rfl (zac (.inl rfl) (ev1 rfl)) ?_
  refine zab rfl rfl rfl (zac (.inl rfl) (ev1 rfl)) ?_
  refine zab rfl rfl rfl (zac (.inl rfl) (ev1 rfl)) ?_
  refine zab rfl rfl rfl (zac (.inl rfl) (ev1 rfl)) ?_
  refine zab rfl rfl rfl (zac (.inl rfl) (ev1 rfl)) ?_
  refine zab rfl rfl rfl (op_bsr (ps := [(0, .tmp 21), (1, .tmp 22), (2, .tmp 23), (3, .tmp 24), (4, .tmp 25)]) rfl sl140 zr143 rfl (ec (ev1 rfl) (ec (ev1 rfl) (ec (ev1 rfl) (ec (ev1 rfl) (ec (ev1 rfl) en))))) rfl rfl rfl (by rfl) rfl (by decide) (by decide)) ?_
  refine zab rfl rfl rfl (zac (.inl rfl) (ev1 rfl)) ?_
  refine zab rfl rfl rfl (zac (.inl rfl) (ev1 rfl)) ?_
  refine zab rfl rfl rfl (zac (.inl rfl) (ev1 rfl)) ?_
  refine zab rfl rfl rfl (zac (.inl rfl) (ev1 rfl)) ?_
  refine zab rfl rfl rfl (zac (.inl rfl) (ev1 rfl)) ?_
  refine zab rfl rfl rfl (op_bsr (ps := [(0, .tmp 27), (1, .tmp 28), (2, .tmp 29), (3, .tmp 30), (4, .tmp 31)]) rfl sl140 zr143 rfl (ec (ev1 rfl) (ec (ev1 rfl) (ec (ev1 rfl) (ec (ev1 rfl) (ec (ev1 rfl) en))))) rfl rfl rfl (by rfl) rfl (by decide) (by decide)) ?_
  refine zab rfl rfl rfl (zac (.inl rfl) (ev1 rfl)) ?_
  refine zab rfl rfl rfl (zac (.inl rfl) (ev1 rfl)) ?_
  refine zab rfl rfl rfl (zac (.inl rfl) (ev1 rfl)) ?_
  refine zab rfl rfl rfl (zac (.inl rfl) (ev1 rfl)) ?_
  refine zab rfl rfl rfl (op_bsr (ps := [(0, .tmp 33), (1, .tmp 34), (2, .tmp 35), (3, .tmp 36)]) rfl sl140 zr143 rfl (ec (ev1 rfl) (ec (ev1 rfl) (ec (ev1 rfl) (ec (ev1 rfl) en)))) rfl rfl rfl (by rfl) rfl (by decide) (by decide)) ?_
  refine zab rfl rfl rfl (zac (.inl rfl) (ev1 rfl)) ?_
  refine zab rfl rfl rfl (zac (.inl rfl) (ev1 rfl)) ?_
  refine zab rfl rfl rfl (op_bsr (ps := [(0, .tmp 38), (1, .tmp 39), (2, .func 134)]) rfl sl140 zr143 rfl (ec (ev1 rfl) (ec (ev1 rfl) (ec (ev1 rfl) en))) rfl rfl rfl (by rfl) rfl (by decide) (by decide)) ?_
  refine zab rfl rfl rfl (op_bsr (ps := [(0, .func 135)]) rfl sl140 zr143 rfl (ec (ev1 rfl) en) rfl rfl rfl (by rfl) rfl (by decide) (by decide)) ?_
  refine zab rfl rfl rfl (op_bsr (ps := [(0, .func 135)]) rfl sl140 zr143 rfl (ec (ev1 rfl) en) rfl rfl rfl (by rfl) rfl (by decide) (by decide)) ?_
  refine zab rfl rfl rfl (op_bldaD (ps := [(1, .tmp 13), (2, .tmp 20), (3, .tmp 26), (4, .tmp 32), (5, .tmp 37), (6, .tmp 40), (7, .tmp 41), (8, .tmp 42)]) rfl ar141 zr141 (ec (ev1 rfl) (ec (ev1 rfl) (ec (ev1 rfl) (ec (ev1 rfl) (ec (ev1 rfl) (ec (ev1 rfl) (ec (ev1 rfl) (ec (ev1 rfl) en)))))))) rfl rfl rfl rfl) ?_
  refine walk_s rfl rfl (op_stam rfl tb141 (ev1 rfl) (ev1 rfl) rfl rfl rfl rfl) (by simp only [upd, za, zaa]; exact rfl) ?_
  refine zae ?_
  refine zan ?_
  refine kend0 (rs1 rfl (rv_mw tb141 rfl rfl rfl)) rfl ?_
  rfl
end Go.Proofs.YtmacjicebemgoaaGreat
namespace Go.Proofs.YtmacjicebemgoaaGreat
set_option linter.unusedVariables false
set_option linter.unusedSimpArgs false
open Go.RowKit
attribute [local irreducible] tkN valF numN tkCo tkRep tkF tkFs tkVs fieldsK
theorem aw141 : arW Tryz.prog 141 = some 9 := by kernel_rfl
theorem fl47 : fdL Tryz.prog 47 = some [(0, 3), (3, 1), (4, 1), (5, 1), (6, 1), (7, 1), (8, 1), (9, 4), (13, 3), (16, 3)] := by kernel_rfl
theorem tb143 : tyB Tryz.prog 143 = some (false, 1) := by kernel_rfl
theorem tF_ok (f : Nat) (hf : f < 8) (o : OpM) (L : List Int) (hL : okL L) (o' : OpM) (r : List Int) (h : tkF f o L = .ok o' r) : DFun Tryz.prog (fnT f) [.loc 0 0] [.mix 135 (.loc 1 0 :: opD o), .mix 157 [.slf 1 (L).length ((L).flatMap uc8), .val (.int .i64 0)]] (.tup []) [.mix 135 (.loc 1 0 :: opD o'), .mix 157 [.slf 1 (r).length ((r).flatMap uc8), .val (.int .i64 0)]] := by
  unfold tkF at h
  match f, hf, h with
  | 0, _, h => obtain ⟨a, q, e1, e2⟩ := Tk.bind_ok h; cases e2; exact tx_ok o L hL a _ e1
  | 1, _, h => obtain ⟨a, q, e1, e2⟩ := Tk.bind_ok h; cases e2; exact ty_ok o L hL a _ e1
  | 2, _, h => obtain ⟨a, q, e1, e2⟩ := Tk.bind_ok h; cases e2; exact tx2_ok o L hL a _ e1
  | 3, _, h => obtain ⟨a, q, e1, e2⟩ := Tk.bind_ok h; cases e2; exact ty2_ok o L hL a _ e1
  | 4, _, h => obtain ⟨a, q, e1, e2⟩ := Tk.bind_ok h; cases e2; exact tsize_ok o L hL a _ e1
  | 5, _, h => obtain ⟨a, q, e1, e2⟩ := Tk.bind_ok h; cases e2; exact tcolor_ok o L hL a _ e1
  | 6, _, h => obtain ⟨a, q, e1, e2⟩ := Tk.bind_ok h; cases e2; exact tstamp_ok o L hL a _ e1
  | 7, _, h => obtain ⟨a, q, e1, e2⟩ := Tk.bind_ok h; cases e2; exact ttarget_ok o L hL a _ e1
  | n + 8, hf, _ => omega
theorem tF_no (f : Nat) (hf : f < 8) (o : OpM) (L : List Int) (hL : okL L) (e : Int) (h : tkF f o L = .err e) : DPan Tryz.prog (fnT f) [.loc 0 0] [.mix 135 (.loc 1 0 :: opD o), .mix 157 [.slf 1 (L).length ((L).flatMap uc8), .val (.int .i64 0)]] (.ifc 139 (.val (.agg #[.int .i64 e]))) [.gone, .gone] := by
  unfold tkF at h
  match f, hf, h with
  | 0, _, h =>
    rcases Tk.bind_err h with h | ⟨a, q, e1, e2⟩
    · exact ((tx_no o L hL e h).weakL rfl).dead
    · cases e2
  | 1, _, h =>
    rcases Tk.bind_err h with h | ⟨a, q, e1, e2⟩
    · exact ((ty_no o L hL e h).weakL rfl).dead
    · cases e2
  | 2, _, h =>
    rcases Tk.bind_err h with h | ⟨a, q, e1, e2⟩
    · exact ((tx2_no o L hL e h).weakL rfl).dead
    · cases e2
  | 3, _, h =>
    rcases Tk.bind_err h with h | ⟨a, q, e1, e2⟩
    · exact ((ty2_no o L hL e h).weakL rfl).dead
    · cases e2
  | 4, _, h =>
    rcases Tk.bind_err h with h | ⟨a, q, e1, e2⟩
    · exact ((tsize_no o L hL e h).weakL rfl).dead
    · cases e2
  | 5, _, h =>
    rcases Tk.bind_err h with h | ⟨a, q, e1, e2⟩
    · exact tcolor_no o L hL e h
    · cases e2
  | 6, _, h =>
    rcases Tk.bind_err h with h | ⟨a, q, e1, e2⟩
    · exact tstamp_no o L hL e h
    · cases e2
  | 7, _, h =>
    rcases Tk.bind_err h with h | ⟨a, q, e1, e2⟩
    · exact ttarget_no o L hL e h
    · cases e2
  | n + 8, hf, _ => omega
theorem wkOp (K : Int) : Wk (.val (.agg #[.int .u64 0, .int .i64 0, .int .u64 0, .int .i64 K, .int .i64 0, .int .i64 0, .int .i64 0, .int .i64 0, .int .i64 0, .int .u8 0, .int .u8 0, .int .u8 0, .int .u8 0, .int .i64 0, .int .i64 0, .slice none 0 0, .int .u64 0, .int .i64 0, .int .u64 0])) (.agg (opD (mk0 K zI3))) :=
  (Wk.vagg _).trans (Wk.agg (WkL.cons (Wk.refl _) (WkL.cons (Wk.refl _) (WkL.cons (Wk.refl _) (WkL.cons (Wk.refl _) (WkL.cons (Wk.refl _) (WkL.cons (Wk.refl _) (WkL.cons (Wk.refl _) (WkL.cons (Wk.refl _) (WkL.cons (Wk.refl _) (WkL.cons (Wk.refl _) (WkL.cons (Wk.refl _) (WkL.cons (Wk.refl _) (WkL.cons (Wk.refl _) (WkL.cons (Wk.refl _) (WkL.cons (Wk.refl _) (WkL.cons (Wk.slf0 4) (WkL.cons (Wk.refl _) (WkL.cons (Wk.refl _) (WkL.cons (Wk.refl _) (WkL.nil)))))))))))))))))))))
set_option maxRecDepth 4000 in
set_option maxHeartbeats 1000000 in
theorem top_okx (o : OpM) (L : List Int) (hL : okL L) (K : Nat) (hK : 1 ≤ K ∧ K ≤ 8) (r1 : List Int) (e1 : tN 1 L = .ok (K : Int) r1) (i : I3) (r2 : List Int) (e2 : tId r1 = .ok i r2) (v : OpM) (r : List Int) (h : tkFs (fieldsK K) (mk0 K i) r2 = .ok v r) : DFun Tryz.prog 52 [.loc 0 0] [.mix 135 (.loc 1 0 :: opD o), .mix 157 [.slf 1 (L).length ((L).flatMap uc8), .val (.int .i64 0)]] (.agg (opD v)) [.mix 135 (.loc 1 0 :: opD v), .mix 157 [.slf 1 (r).length ((r).flatMap uc8), .val (.int .i64 0)]] := by
  refine zal (N := 50) 2 (by kernel_rfl) Tryz.func52 rfl rfl rfl (by simp only [fr0, Nat.zero_add, Nat.reduceAdd]; exact rfl) rfl fun s0 hs0 => ?_
  refine zaf ?_
  have k1 := okL_N hL e1
  have k2 := okL_of (cdId 110 290) k1 e2
  refine zaj 1 (by simp only [holes, List.cons_append, List.nil_append]; exact rfl) ?_
  refine zad ?_
  refine zak rfl rfl rfl (zao 2 rfl zr47 rfl) (by simp only [upd, za, zaa]; exact rfl) ?_
  refine zae ?_
  refine zaf ?_
  refine zad ?_
  refine zab rfl rfl rfl (zac (.inl rfl) (ev1 rfl)) ?_
  refine zak rfl rfl rfl (zah [0, 1] [] [] rfl (ev1 rfl) (ec (ev1 rfl) (ec (ev1 rfl) en)) rfl rfl (tnum_ok o (L) (hL) 1 (by decide) ((K : Int)) (r1) (e1)) rfl rfl rfl rfl rfl rfl) (by simp only [upd, za, zaa]; exact rfl) ?_
  refine zab rfl rfl rfl (op_conv' ty23 kn3 rfl (ev1 rfl) (fun _ => IntWalk.i64_in _ (by omega))) ?_
  refine zab rfl rfl rfl (zac (.inr rfl) (ev1 rfl)) ?_
  refine zae ?_
  refine zaf ?_
  refine zad ?_
  refine zab rfl rfl rfl (zac (.inl rfl) (ev1 rfl)) ?_
  refine zab rfl rfl rfl (op_geq rfl (ev1 rfl) (ev1 rfl)) ?_
  refine zab rfl rfl rfl (zac (.inl rfl) (ev1 rfl)) ?_
  refine zag (gd_t rfl rfl rfl) rfl rfl rfl (zac (.inl rfl) (ev1 rfl)) ?_
  refine zag (gd_t rfl rfl rfl) rfl rfl rfl (op_leq rfl (ev2 rfl) (ev1 rfl)) ?_
  refine zab rfl rfl rfl (op_and rfl (ev1 rfl) (ev3 rfl id)) ?_
  refine zab rfl rfl rfl (zah [] [] [] rfl (ev1 rfl) (ec (ev1 rfl) (ec (ev1 rfl) en)) rfl rfl (cneed_ok _ _ (by simp; omega)) rfl rfl rfl rfl rfl rfl) ?_
  refine zae ?_
  refine zaf ?_
  refine zad ?_
  refine zab rfl rfl rfl (zac (.inl rfl) (ev1 rfl)) ?_
  refine zab rfl rfl rfl (zac (.inl rfl) (ev1 rfl)) ?_
  refine zab rfl rfl rfl ((op_build (ps := [(1, .tmp 17)]) rfl fl47 zr47 (vc (ev1 rfl) vn) rfl rfl).cast (d' := .val (.agg #[.int .u64 0, .int .i64 0, .int .u64 0, .int .i64 K, .int .i64 0, .int .i64 0, .int .i64 0, .int .i64 0, .int .i64 0, .int .u8 0, .int .u8 0, .int .u8 0, .int .u8 0, .int .i64 0, .int .i64 0, .slice none 0 0, .int .u64 0, .int .i64 0, .int .u64 0])) (by kernel_rfl)) ?_
  refine zab rfl rfl rfl (op_nc rfl (ev1 rfl) (fun s v h => by cases h; exact ⟨_, rfl⟩)) ?_
  refine zab rfl rfl rfl (zap rfl fo135_1 (ev1 rfl)) ?_
  refine walk_s rfl rfl (op_stmp rfl tb47 (ev1 rfl) (evwk (ev1 rfl) (wkOp _)) rfl rfl rfl rfl rfl) (by simp only [upd, za, zaa]; exact rfl) ?_
  refine zae ?_
  refine zaf ?_
  refine zad ?_
  refine zab rfl rfl rfl (zac (.inl rfl) (ev1 rfl)) ?_
  refine zab rfl rfl rfl (zac (.inl rfl) (ev1 rfl)) ?_
  refine zak rfl rfl rfl (zah [0, 1] [] [] rfl (ev1 rfl) (ec (ev1 rfl) en) rfl rfl (tid_ok (mk0 K zI3) r1 k1 i r2 e2) rfl rfl rfl rfl rfl rfl) (by simp only [upd, za, zaa]; exact rfl) ?_
  refine zab rfl rfl rfl (op_nc rfl (ev1 rfl) (fun s v h => by cases h; exact ⟨_, rfl⟩)) ?_
  refine zab rfl rfl rfl (zap rfl fo135_1 (ev1 rfl)) ?_
  refine zab rfl rfl rfl (zap rfl fo47_0 (ev1 rfl)) ?_
  refine walk_s rfl rfl (op_stmp rfl tb29 (ev1 rfl) (evwk (ev1 rfl) (Wk.vagg _)) rfl rfl rfl rfl rfl) (by simp only [upd, za, zaa]; exact rfl) ?_
  refine zae ?_
  refine zaf ?_
  refine zaf ?_
  refine zad ?_
  refine zab rfl rfl rfl (zah [] [] [] rfl (ev1 rfl) en rfl rfl (takes_d) rfl rfl rfl rfl rfl rfl) ?_
  refine zab rfl rfl rfl (zac (.inl rfl) (ev1 rfl)) ?_
  refine zab rfl rfl rfl (op_ixw K rfl aw141 (ev1 rfl) (ev1 rfl) (fun _ => rfl) (by omega) (rowsF_at fnT hK)) ?_
  refine zab rfl rfl rfl (op_lenm rfl sl140 (ev1 rfl)) ?_
  refine zab rfl rfl rfl (zac (.inl rfl) (ev1 rfl)) ?_
  refine zae ?_
  refine zat ?_
  refine dwp_loopS ⟨hs0, rfl⟩ (α := Nat × OpM × List Int) (fun x => [(31, .val (.int .i64 (x.1 : Int)))]) [(0, _), (2, _), (29, _), (30, _)] (fun x => [(0, .mix 135 (.loc 1 0 :: opD x.2.1)), (1, .mix 157 [.slf 1 (x.2.2).length ((x.2.2).flatMap uc8), .val (.int .i64 0)])]) [.hole, .hole, _] (fun x => okL x.2.2 ∧ x.1 ≤ (fieldsK K).length ∧ tkFs ((fieldsK K).drop x.1) x.2.1 x.2.2 = .ok v r) (fun x => (fieldsK K).length - x.1) (0, mk0 K i, r2) [0, 1, 2] (⟨k2, Nat.zero_le _, h⟩) rfl ⟨rfl, rfl, rfl, rfl, trivial⟩ ⟨rfl, trivial⟩ ⟨rfl, rfl, rfl, trivial⟩ ?_
  intro x hx
  simp only [upd, za, zaa, List.cons_append, List.nil_append]
  obtain ⟨hk, hle, hy⟩ := hx
  have h6 := fieldsK_len K
  refine zaf ?_
  refine zad ?_
  refine zab rfl rfl rfl (op_lss rfl (ev1 rfl) (ev1 rfl)) ?_
  refine zae ?_
  refine zaf ?_
  refine dwp_cond rfl (fun c1 => ?_) (fun c1 => ?_)
  · try simp only [decide_eq_true_eq, decide_eq_false_iff_not, beq_iff_eq, bne_iff_ne, beq_eq_false_iff_ne, bne_eq_false_iff_eq, Bool.not_eq_true', Bool.not_eq_false', Bool.and_eq_true, Bool.or_eq_true, Bool.or_eq_false_iff, ne_eq, Decidable.not_not, Int.not_lt, Int.not_le] at c1
    refine zam ?_
    refine zaf ?_
    refine zat ?_
    refine zaf ?_
    refine zad ?_
    refine zab rfl rfl rfl (op_ixm (x.1) rfl sl140 (ev1 rfl) (ev1 rfl) (fun _ => rfl) (flat1_at (by omega))) ?_
    refine zab rfl rfl rfl (op_lddm rfl tb143 (ev1 rfl) rfl) ?_
    refine zab rfl rfl rfl (zac (.inr rfl) (ev1 rfl)) ?_
    refine zae ?_
    obtain ⟨o', q, hf, hz⟩ := fs_step (by omega) hy
    refine zad ?_
    refine zab rfl rfl rfl (zac (.inl rfl) (ev1 rfl)) ?_
    refine zab rfl rfl rfl (zac (.inl rfl) (ev1 rfl)) ?_
    refine zak rfl rfl rfl (zah [0, 1] [] [] rfl (ev1 rfl) (ec (ev1 rfl) en) rfl rfl (tF_ok (fieldsK K)[x.1] (fieldsK_lt _ _ (List.getElem_mem _)) x.2.1 x.2.2 hk o' q hf) rfl rfl rfl rfl rfl rfl) (by simp only [upd, za, zaa]; exact rfl) ?_
    refine zae ?_
    refine zad ?_
    refine zab rfl rfl rfl (op_add' rfl (ev1 rfl) (ev1 rfl) (fun _ => IntWalk.i64_in _ (by omega))) ?_
    refine zab rfl rfl rfl (zac (.inl rfl) (ev1 rfl)) ?_
    refine zae ?_
    refine ⟨(x.1 + 1, o', q), [0, 1, 2], ⟨okL_F hk hf, by show x.1 + 1 ≤ _; omega, hz⟩, by show (fieldsK K).length - (x.1 + 1) < (fieldsK K).length - x.1; omega, rfl, ⟨rfl, rfl, rfl, rfl, rfl, trivial⟩, ⟨rfl, rfl, rfl, trivial⟩⟩
  · try simp only [decide_eq_true_eq, decide_eq_false_iff_not, beq_iff_eq, bne_iff_ne, beq_eq_false_iff_ne, bne_eq_false_iff_eq, Bool.not_eq_true', Bool.not_eq_false', Bool.and_eq_true, Bool.or_eq_true, Bool.or_eq_false_iff, ne_eq, Decidable.not_not, Int.not_lt, Int.not_le] at c1
    refine dwp_exit ?_
    refine zaf ?_
    obtain ⟨hoB, hxv, hxr⟩ := fs_end (by omega) hy
    rw [hxv, hxr]
    refine zad ?_
    refine zab rfl rfl rfl (zac (.inl rfl) (ev1 rfl)) ?_
    refine zab rfl rfl rfl (op_nc rfl (ev1 rfl) (fun s v h => by cases h; exact ⟨_, rfl⟩)) ?_
    refine zab rfl rfl rfl (zap rfl fo135_1 (ev1 rfl)) ?_
    refine zab rfl rfl rfl (op_ldmp rfl tb47 (ev1 rfl) rfl rfl rfl) ?_
    refine zab rfl rfl rfl (zah [] [] [] rfl (ev1 rfl) (ec (ev1 rfl) en) rfl rfl (opCheck_d v) rfl rfl rfl rfl rfl rfl) ?_
    refine zab rfl rfl rfl (op_eql rfl (ev1 rfl) (ev1 rfl)) ?_
    refine zab rfl rfl rfl (zah [] [] [] rfl (ev1 rfl) (ec (ev1 rfl) (ec (ev1 rfl) en)) rfl rfl (cneed_ok _ _ (by rw [hoB]; rfl)) rfl rfl rfl rfl rfl rfl) ?_
    refine zae ?_
    refine zaf ?_
    refine zad ?_
    refine zab rfl rfl rfl (zac (.inl rfl) (ev1 rfl)) ?_
    refine zab rfl rfl rfl (op_nc rfl (ev1 rfl) (fun s v h => by cases h; exact ⟨_, rfl⟩)) ?_
    refine zab rfl rfl rfl (zap rfl fo135_1 (ev1 rfl)) ?_
    refine zab rfl rfl rfl (op_ldmp rfl tb47 (ev1 rfl) rfl rfl rfl) ?_
    refine walk_s rfl rfl (op_stam rfl tb47 (ev1 rfl) (ev1 rfl) rfl rfl rfl rfl) (by simp only [upd, za, zaa]; exact rfl) ?_
    refine zae ?_
    refine zan ?_
    refine kend [0, 1] (rs1 rfl (rv_mw tb47 rfl rfl rfl)) rfl rfl ?_ ⟨rfl, rfl, trivial⟩
    rfl
set_option maxRecDepth 4000 in
set_option maxHeartbeats 1000000 in
theorem top_n3 (o : OpM) (L : List Int) (hL : okL L) (K : Nat) (hK : 1 ≤ K ∧ K ≤ 8) (r1 : List Int) (e1 : tN 1 L = .ok (K : Int) r1) (i : I3) (r2 : List Int) (e2 : tId r1 = .ok i r2) (e : Int) (h : tkFs (fieldsK K) (mk0 K i) r2 = .err e) : DPanL Tryz.prog 52 [.loc 0 0] [.mix 135 (.loc 1 0 :: opD o), .mix 157 [.slf 1 (L).length ((L).flatMap uc8), .val (.int .i64 0)]] (.ifc 139 (.val (.agg #[.int .i64 e]))) := by
  refine zal (N := 50) 2 (by kernel_rfl) Tryz.func52 rfl rfl rfl (by simp only [fr0, Nat.zero_add, Nat.reduceAdd]; exact rfl) rfl fun s0 hs0 => ?_
  refine zaf ?_
  have k1 := okL_N hL e1
  have k2 := okL_of (cdId 110 290) k1 e2
  refine zaj 1 (by simp only [holes, List.cons_append, List.nil_append]; exact rfl) ?_
  refine zad ?_
  refine zak rfl rfl rfl (zao 2 rfl zr47 rfl) (by simp only [upd, za, zaa]; exact rfl) ?_
  refine zae ?_
  refine zaf ?_
  refine zad ?_
  refine zab rfl rfl rfl (zac (.inl rfl) (ev1 rfl)) ?_
  refine zak rfl rfl rfl (zah [0, 1] [] [] rfl (ev1 rfl) (ec (ev1 rfl) (ec (ev1 rfl) en)) rfl rfl (tnum_ok o (L) (hL) 1 (by decide) ((K : Int)) (r1) (e1)) rfl rfl rfl rfl rfl rfl) (by simp only [upd, za, zaa]; exact rfl) ?_
  refine zab rfl rfl rfl (op_conv' ty23 kn3 rfl (ev1 rfl) (fun _ => IntWalk.i64_in _ (by omega))) ?_
  refine zab rfl rfl rfl (zac (.inr rfl) (ev1 rfl)) ?_
  refine zae ?_
  refine zaf ?_
  refine zad ?_
  refine zab rfl rfl rfl (zac (.inl rfl) (ev1 rfl)) ?_
  refine zab rfl rfl rfl (op_geq rfl (ev1 rfl) (ev1 rfl)) ?_
  refine zab rfl rfl rfl (zac (.inl rfl) (ev1 rfl)) ?_
  refine zag (gd_t rfl rfl rfl) rfl rfl rfl (zac (.inl rfl) (ev1 rfl)) ?_
  refine zag (gd_t rfl rfl rfl) rfl rfl rfl (op_leq rfl (ev2 rfl) (ev1 rfl)) ?_
  refine zab rfl rfl rfl (op_and rfl (ev1 rfl) (ev3 rfl id)) ?_
  refine zab rfl rfl rfl (zah [] [] [] rfl (ev1 rfl) (ec (ev1 rfl) (ec (ev1 rfl) en)) rfl rfl (cneed_ok _ _ (by simp; omega)) rfl rfl rfl rfl rfl rfl) ?_
  refine zae ?_
  refine zaf ?_
  refine zad ?_
  refine zab rfl rfl rfl (zac (.inl rfl) (ev1 rfl)) ?_
  refine zab rfl rfl rfl (zac (.inl rfl) (ev1 rfl)) ?_
  refine zab rfl rfl rfl ((op_build (ps := [(1, .tmp 17)]) rfl fl47 zr47 (vc (ev1 rfl) vn) rfl rfl).cast (d' := .val (.agg #[.int .u64 0, .int .i64 0, .int .u64 0, .int .i64 K, .int .i64 0, .int .i64 0, .int .i64 0, .int .i64 0, .int .i64 0, .int .u8 0, .int .u8 0, .int .u8 0, .int .u8 0, .int .i64 0, .int .i64 0, .slice none 0 0, .int .u64 0, .int .i64 0, .int .u64 0])) (by kernel_rfl)) ?_
  refine zab rfl rfl rfl (op_nc rfl (ev1 rfl) (fun s v h => by cases h; exact ⟨_, rfl⟩)) ?_
  refine zab rfl rfl rfl (zap rfl fo135_1 (ev1 rfl)) ?_
  refine walk_s rfl rfl (op_stmp rfl tb47 (ev1 rfl) (evwk (ev1 rfl) (wkOp _)) rfl rfl rfl rfl rfl) (by simp only [upd, za, zaa]; exact rfl) ?_
  refine zae ?_
  refine zaf ?_
  refine zad ?_
  refine zab rfl rfl rfl (zac (.inl rfl) (ev1 rfl)) ?_
  refine zab rfl rfl rfl (zac (.inl rfl) (ev1 rfl)) ?_
  refine zak rfl rfl rfl (zah [0, 1] [] [] rfl (ev1 rfl) (ec (ev1 rfl) en) rfl rfl (tid_ok (mk0 K zI3) r1 k1 i r2 e2) rfl rfl rfl rfl rfl rfl) (by simp only [upd, za, zaa]; exact rfl) ?_
  refine zab rfl rfl rfl (op_nc rfl (ev1 rfl) (fun s v h => by cases h; exact ⟨_, rfl⟩)) ?_
  refine zab rfl rfl rfl (zap rfl fo135_1 (ev1 rfl)) ?_
  refine zab rfl rfl rfl (zap rfl fo47_0 (ev1 rfl)) ?_
  refine walk_s rfl rfl (op_stmp rfl tb29 (ev1 rfl) (evwk (ev1 rfl) (Wk.vagg _)) rfl rfl rfl rfl rfl) (by simp only [upd, za, zaa]; exact rfl) ?_
  refine zae ?_
  refine zaf ?_
  refine zaf ?_
  refine zad ?_
  refine zab rfl rfl rfl (zah [] [] [] rfl (ev1 rfl) en rfl rfl (takes_d) rfl rfl rfl rfl rfl rfl) ?_
  refine zab rfl rfl rfl (zac (.inl rfl) (ev1 rfl)) ?_
  refine zab rfl rfl rfl (op_ixw K rfl aw141 (ev1 rfl) (ev1 rfl) (fun _ => rfl) (by omega) (rowsF_at fnT hK)) ?_
  refine zab rfl rfl rfl (op_lenm rfl sl140 (ev1 rfl)) ?_
  refine zab rfl rfl rfl (zac (.inl rfl) (ev1 rfl)) ?_
  refine zae ?_
  refine zat ?_
  refine dwp_loopS ⟨hs0, rfl⟩ (α := Nat × OpM × List Int) (fun x => [(31, .val (.int .i64 (x.1 : Int)))]) [(0, _), (2, _), (29, _), (30, _)] (fun x => [(0, .mix 135 (.loc 1 0 :: opD x.2.1)), (1, .mix 157 [.slf 1 (x.2.2).length ((x.2.2).flatMap uc8), .val (.int .i64 0)])]) [.hole, .hole, _] (fun x => okL x.2.2 ∧ x.1 ≤ (fieldsK K).length ∧ tkFs ((fieldsK K).drop x.1) x.2.1 x.2.2 = .err e) (fun x => (fieldsK K).length - x.1) (0, mk0 K i, r2) [0, 1, 2] (⟨k2, Nat.zero_le _, h⟩) rfl ⟨rfl, rfl, rfl, rfl, trivial⟩ ⟨rfl, trivial⟩ ⟨rfl, rfl, rfl, trivial⟩ ?_
  intro x hx
  simp only [upd, za, zaa, List.cons_append, List.nil_append]
  obtain ⟨hk, hle, hy⟩ := hx
  have h6 := fieldsK_len K
  refine zaf ?_
  refine zad ?_
  refine zab rfl rfl rfl (op_lss rfl (ev1 rfl) (ev1 rfl)) ?_
  refine zae ?_
  refine zaf ?_
  refine dwp_cond rfl (fun c1 => ?_) (fun c1 => ?_)
  · try simp only [decide_eq_true_eq, decide_eq_false_iff_not, beq_iff_eq, bne_iff_ne, beq_eq_false_iff_ne, bne_eq_false_iff_eq, Bool.not_eq_true', Bool.not_eq_false', Bool.and_eq_true, Bool.or_eq_true, Bool.or_eq_false_iff, ne_eq, Decidable.not_not, Int.not_lt, Int.not_le] at c1
    refine zam ?_
    refine zaf ?_
    refine zat ?_
    refine zaf ?_
    refine zad ?_
    refine zab rfl rfl rfl (op_ixm (x.1) rfl sl140 (ev1 rfl) (ev1 rfl) (fun _ => rfl) (flat1_at (by omega))) ?_
    refine zab rfl rfl rfl (op_lddm rfl tb143 (ev1 rfl) rfl) ?_
    refine zab rfl rfl rfl (zac (.inr rfl) (ev1 rfl)) ?_
    refine zae ?_
    by_cases hs : ∃ o' q, tkF ((fieldsK K)[x.1]'(by omega)) x.2.1 x.2.2 = .ok o' q ∧ tkFs ((fieldsK K).drop (x.1 + 1)) o' q = .err e
    · obtain ⟨o', q, hf, hz⟩ := hs
      refine zad ?_
      refine zab rfl rfl rfl (zac (.inl rfl) (ev1 rfl)) ?_
      refine zab rfl rfl rfl (zac (.inl rfl) (ev1 rfl)) ?_
      refine zak rfl rfl rfl (zah [0, 1] [] [] rfl (ev1 rfl) (ec (ev1 rfl) en) rfl rfl (tF_ok (fieldsK K)[x.1] (fieldsK_lt _ _ (List.getElem_mem _)) x.2.1 x.2.2 hk o' q hf) rfl rfl rfl rfl rfl rfl) (by simp only [upd, za, zaa]; exact rfl) ?_
      refine zae ?_
      refine zad ?_
      refine zab rfl rfl rfl (op_add' rfl (ev1 rfl) (ev1 rfl) (fun _ => IntWalk.i64_in _ (by omega))) ?_
      refine zab rfl rfl rfl (zac (.inl rfl) (ev1 rfl)) ?_
      refine zae ?_
      refine ⟨(x.1 + 1, o', q), [0, 1, 2], ⟨okL_F hk hf, by show x.1 + 1 ≤ _; omega, hz⟩, by show (fieldsK K).length - (x.1 + 1) < (fieldsK K).length - x.1; omega, rfl, ⟨rfl, rfl, rfl, rfl, rfl, trivial⟩, ⟨rfl, rfl, rfl, trivial⟩⟩
    · have hf : tkF (fieldsK K)[x.1] x.2.1 x.2.2 = .err e := by
        rcases fs_stop (by omega) hy with h1 | ⟨a, q, h1, h2⟩
        · exact h1
        · exact absurd ⟨a, q, h1, h2⟩ hs
      refine zad ?_
      refine zab rfl rfl rfl (zac (.inl rfl) (ev1 rfl)) ?_
      refine zab rfl rfl rfl (zac (.inl rfl) (ev1 rfl)) ?_
      refine walk_p rfl (dop_callP [0, 1] [] [] rfl (ev1 rfl) (ec (ev1 rfl) en) rfl rfl (tF_no (fieldsK K)[x.1] (fieldsK_lt _ _ (List.getElem_mem _)) x.2.1 x.2.2 hk e hf) rfl rfl rfl rfl rfl rfl) rfl ?_
      refine kpanL (Mo := [_, _]) [0, 1] rfl rfl ?_ ⟨rfl, rfl, trivial⟩ rfl
      rfl
  · try simp only [decide_eq_true_eq, decide_eq_false_iff_not, beq_iff_eq, bne_iff_ne, beq_eq_false_iff_ne, bne_eq_false_iff_eq, Bool.not_eq_true', Bool.not_eq_false', Bool.and_eq_true, Bool.or_eq_true, Bool.or_eq_false_iff, ne_eq, Decidable.not_not, Int.not_lt, Int.not_le] at c1
    refine dwp_exit ?_
    refine zaf ?_
    obtain ⟨hoB, rfl⟩ := fs_endx (by omega) hy
    refine zad ?_
    refine zab rfl rfl rfl (zac (.inl rfl) (ev1 rfl)) ?_
    refine zab rfl rfl rfl (op_nc rfl (ev1 rfl) (fun s v h => by cases h; exact ⟨_, rfl⟩)) ?_
    refine zab rfl rfl rfl (zap rfl fo135_1 (ev1 rfl)) ?_
    refine zab rfl rfl rfl (op_ldmp rfl tb47 (ev1 rfl) rfl rfl rfl) ?_
    refine zab rfl rfl rfl (zah [] [] [] rfl (ev1 rfl) (ec (ev1 rfl) en) rfl rfl (opCheck_d x.2.1) rfl rfl rfl rfl rfl rfl) ?_
    refine zab rfl rfl rfl (op_eql rfl (ev1 rfl) (ev1 rfl)) ?_
    refine walk_p rfl (dop_callP [] [] [] rfl (ev1 rfl) (ec (ev1 rfl) (ec (ev1 rfl) en)) rfl rfl (cneed_no _ _ (by rw [hoB]; rfl)) rfl rfl rfl rfl rfl rfl) rfl ?_
    refine kpanL (Mo := [_, _]) [0, 1] rfl rfl ?_ ⟨rfl, rfl, trivial⟩ rfl
    rfl
set_option maxRecDepth 4000 in
set_option maxHeartbeats 1000000 in
theorem top_n2 (o : OpM) (L : List Int) (hL : okL L) (K : Nat) (hK : 1 ≤ K ∧ K ≤ 8) (r1 : List Int) (e1 : tN 1 L = .ok (K : Int) r1) (e : Int) (h : tId r1 = .err e) : DPanL Tryz.prog 52 [.loc 0 0] [.mix 135 (.loc 1 0 :: opD o), .mix 157 [.slf 1 (L).length ((L).flatMap uc8), .val (.int .i64 0)]] (.ifc 139 (.val (.agg #[.int .i64 e]))) := by
  refine zal (N := 50) 2 (by kernel_rfl) Tryz.func52 rfl rfl rfl (by simp only [fr0, Nat.zero_add, Nat.reduceAdd]; exact rfl) rfl fun s0 hs0 => ?_
  refine zaf ?_
  have k1 := okL_N hL e1
  refine zaj 1 (by simp only [holes, List.cons_append, List.nil_append]; exact rfl) ?_
  refine zad ?_
  refine zak rfl rfl rfl (zao 2 rfl zr47 rfl) (by simp only [upd, za, zaa]; exact rfl) ?_
  refine zae ?_
  refine zaf ?_
  refine zad ?_
  refine zab rfl rfl rfl (zac (.inl rfl) (ev1 rfl)) ?_
  refine zak rfl rfl rfl (zah [0, 1] [] [] rfl (ev1 rfl) (ec (ev1 rfl) (ec (ev1 rfl) en)) rfl rfl (tnum_ok o (L) (hL) 1 (by decide) ((K : Int)) (r1) (e1)) rfl rfl rfl rfl rfl rfl) (by simp only [upd, za, zaa]; exact rfl) ?_
  refine zab rfl rfl rfl (op_conv' ty23 kn3 rfl (ev1 rfl) (fun _ => IntWalk.i64_in _ (by omega))) ?_
  refine zab rfl rfl rfl (zac (.inr rfl) (ev1 rfl)) ?_
  refine zae ?_
  refine zaf ?_
  refine zad ?_
  refine zab rfl rfl rfl (zac (.inl rfl) (ev1 rfl)) ?_
  refine zab rfl rfl rfl (op_geq rfl (ev1 rfl) (ev1 rfl)) ?_
  refine zab rfl rfl rfl (zac (.inl rfl) (ev1 rfl)) ?_
  refine zag (gd_t rfl rfl rfl) rfl rfl rfl (zac (.inl rfl) (ev1 rfl)) ?_
  refine zag (gd_t rfl rfl rfl) rfl rfl rfl (op_leq rfl (ev2 rfl) (ev1 rfl)) ?_
  refine zab rfl rfl rfl (op_and rfl (ev1 rfl) (ev3 rfl id)) ?_
  refine zab rfl rfl rfl (zah [] [] [] rfl (ev1 rfl) (ec (ev1 rfl) (ec (ev1 rfl) en)) rfl rfl (cneed_ok _ _ (by simp; omega)) rfl rfl rfl rfl rfl rfl) ?_
  refine zae ?_
  refine zaf ?_
  refine zad ?_
  refine zab rfl rfl rfl (zac (.inl rfl) (ev1 rfl)) ?_
  refine zab rfl rfl rfl (zac (.inl rfl) (ev1 rfl)) ?_
  refine zab rfl rfl rfl ((op_build (ps := [(1, .tmp 17)]) rfl fl47 zr47 (vc (ev1 rfl) vn) rfl rfl).cast (d' := .val (.agg #[.int .u64 0, .int .i64 0, .int .u64 0, .int .i64 K, .int .i64 0, .int .i64 0, .int .i64 0, .int .i64 0, .int .i64 0, .int .u8 0, .int .u8 0, .int .u8 0, .int .u8 0, .int .i64 0, .int .i64 0, .slice none 0 0, .int .u64 0, .int .i64 0, .int .u64 0])) (by kernel_rfl)) ?_
  refine zab rfl rfl rfl (op_nc rfl (ev1 rfl) (fun s v h => by cases h; exact ⟨_, rfl⟩)) ?_
  refine zab rfl rfl rfl (zap rfl fo135_1 (ev1 rfl)) ?_
  refine walk_s rfl rfl (op_stmp rfl tb47 (ev1 rfl) (evwk (ev1 rfl) (wkOp _)) rfl rfl rfl rfl rfl) (by simp only [upd, za, zaa]; exact rfl) ?_
  refine zae ?_
  refine zaf ?_
  refine zad ?_
  refine zab rfl rfl rfl (zac (.inl rfl) (ev1 rfl)) ?_
  refine zab rfl rfl rfl (zac (.inl rfl) (ev1 rfl)) ?_
  refine walk_p rfl (dop_callP [0, 1] [] [] rfl (ev1 rfl) (ec (ev1 rfl) en) rfl rfl (tid_no (mk0 K zI3) r1 k1 e h) rfl rfl rfl rfl rfl rfl) rfl ?_
  refine kpanL (Mo := [_, _]) [0, 1] rfl rfl ?_ ⟨rfl, rfl, trivial⟩ rfl
  rfl
set_option maxRecDepth 4000 in
set_option maxHeartbeats 1000000 in
theorem top_n1 (o : OpM) (L : List Int) (hL : okL L) (k : Int) (r1 : List Int) (e1 : tN 1 L = .ok k r1) (hk : isK k = false) : DPanL Tryz.prog 52 [.loc 0 0] [.mix 135 (.loc 1 0 :: opD o), .mix 157 [.slf 1 (L).length ((L).flatMap uc8), .val (.int .i64 0)]] (.ifc 139 (.val (.agg #[.int .i64 290]))) := by
  refine zal (N := 50) 2 (by kernel_rfl) Tryz.func52 rfl rfl rfl (by simp only [fr0, Nat.zero_add, Nat.reduceAdd]; exact rfl) rfl fun s0 hs0 => ?_
  refine zaf ?_
  have k1 := okL_N hL e1
  have x1 := tN_one hL e1
  refine zaj 1 (by simp only [holes, List.cons_append, List.nil_append]; exact rfl) ?_
  refine zad ?_
  refine zak rfl rfl rfl (zao 2 rfl zr47 rfl) (by simp only [upd, za, zaa]; exact rfl) ?_
  refine zae ?_
  refine zaf ?_
  refine zad ?_
  refine zab rfl rfl rfl (zac (.inl rfl) (ev1 rfl)) ?_
  refine zak rfl rfl rfl (zah [0, 1] [] [] rfl (ev1 rfl) (ec (ev1 rfl) (ec (ev1 rfl) en)) rfl rfl (tnum_ok o (L) (hL) 1 (by decide) (k) (r1) (e1)) rfl rfl rfl rfl rfl rfl) (by simp only [upd, za, zaa]; exact rfl) ?_
  refine zab rfl rfl rfl (op_conv' ty23 kn3 rfl (ev1 rfl) (fun _ => IntWalk.i64_in _ (by omega))) ?_
  refine zab rfl rfl rfl (zac (.inr rfl) (ev1 rfl)) ?_
  refine zae ?_
  refine zaf ?_
  refine zad ?_
  refine zab rfl rfl rfl (zac (.inl rfl) (ev1 rfl)) ?_
  refine zab rfl rfl rfl (op_geq rfl (ev1 rfl) (ev1 rfl)) ?_
  refine zab rfl rfl rfl (zac (.inl rfl) (ev1 rfl)) ?_
  refine zag (gd_t rfl rfl rfl) rfl rfl rfl (zac (.inl rfl) (ev1 rfl)) ?_
  refine zag (gd_t rfl rfl rfl) rfl rfl rfl (op_leq rfl (ev2 rfl) (ev1 rfl)) ?_
  refine zab rfl rfl rfl (op_and rfl (ev1 rfl) (ev3 rfl id)) ?_
  refine walk_p rfl (dop_callP [] [] [] rfl (ev1 rfl) (ec (ev1 rfl) (ec (ev1 rfl) en)) rfl rfl (cneed_no _ _ (by unfold isK at hk; simpa using hk)) rfl rfl rfl rfl rfl rfl) rfl ?_
  refine kpanL (Mo := [_, _]) [0, 1] rfl rfl ?_ ⟨rfl, rfl, trivial⟩ rfl
  rfl
set_option maxRecDepth 4000 in
set_option maxHeartbeats 1000000 in
theorem top_n0 (o : OpM) (L : List Int) (hL : okL L) (e : Int) (h : tN 1 L = .err e) : DPanL Tryz.prog 52 [.loc 0 0] [.mix 135 (.loc 1 0 :: opD o), .mix 157 [.slf 1 (L).length ((L).flatMap uc8), .val (.int .i64 0)]] (.ifc 139 (.val (.agg #[.int .i64 e]))) := by
  refine zal (N := 50) 2 (by kernel_rfl) Tryz.func52 rfl rfl rfl (by simp only [fr0, Nat.zero_add, Nat.reduceAdd]; exact rfl) rfl fun s0 hs0 => ?_
  refine zaf ?_
  refine zaj 1 (by simp only [holes, List.cons_append, List.nil_append]; exact rfl) ?_
  refine zad ?_
  refine zak rfl rfl rfl (zao 2 rfl zr47 rfl) (by simp only [upd, za, zaa]; exact rfl) ?_
  refine zae ?_
  refine zaf ?_
  refine zad ?_
  refine zab rfl rfl rfl (zac (.inl rfl) (ev1 rfl)) ?_
  refine walk_p rfl (dop_callP [0, 1] [] [] rfl (ev1 rfl) (ec (ev1 rfl) (ec (ev1 rfl) en)) rfl rfl (tnum_no o (L) (hL) 1 (by decide) (e) (h)) rfl rfl rfl rfl rfl rfl) rfl ?_
  refine kpanL (Mo := [_, _]) [0, 1] rfl rfl ?_ ⟨rfl, rfl, trivial⟩ rfl
  rfl
theorem top_ok (o : OpM) (L : List Int) (hL : okL L) (v : OpM) (r : List Int) (h : tOp L = .ok v r) : DFun Tryz.prog 52 [.loc 0 0] [.mix 135 (.loc 1 0 :: opD o), .mix 157 [.slf 1 (L).length ((L).flatMap uc8), .val (.int .i64 0)]] (.agg (opD v)) [.mix 135 (.loc 1 0 :: opD v), .mix 157 [.slf 1 (r).length ((r).flatMap uc8), .val (.int .i64 0)]] := by
  obtain ⟨K, r1, i, r2, e1, hK, e2, h⟩ := tOp_ok h
  exact top_okx o L hL K hK r1 e1 i r2 e2 v r h
theorem top_no (o : OpM) (L : List Int) (hL : okL L) (e : Int) (h : tOp L = .err e) : DPan Tryz.prog 52 [.loc 0 0] [.mix 135 (.loc 1 0 :: opD o), .mix 157 [.slf 1 (L).length ((L).flatMap uc8), .val (.int .i64 0)]] (.ifc 139 (.val (.agg #[.int .i64 e]))) [.gone, .gone] := by
  rcases tOp_err h with h | ⟨k, r1, e1, hk, rfl⟩ | ⟨K, r1, e1, hK, h⟩ | ⟨K, r1, i, r2, e1, hK, e2, h⟩
  · exact (top_n0 o L hL e h).dead
  · exact (top_n1 o L hL k r1 e1 hk).dead
  · exact (top_n2 o L hL K hK r1 e1 e h).dead
  · exact (top_n3 o L hL K hK r1 e1 i r2 e2 e h).dead
end Go.Proofs.YtmacjicebemgoaaGreat
namespace Go.Proofs.YtmacjicebemgoaaGreat
set_option linter.unusedVariables false
set_option linter.unusedSimpArgs false
open Go.RowKit
attribute [local irreducible] tkN valF numN tkRep tkOp tkId tkVec tkRow
theorem ops_nl2 (l : List OpM) : D.nlL (l.flatMap opD) = true := by
  induction l with
  | nil => rfl
  | cons a l ih => exact ih
def lastO (l : List OpM) (o : OpM) : OpM := l.getLast?.getD o
theorem lastO_app (l : List OpM) (a o : OpM) : lastO (l ++ [a]) o = a := by
  unfold lastO
  simp
set_option maxRecDepth 4000 in
set_option maxHeartbeats 1000000 in
theorem tos1_ok (o : OpM) (L : List Int) (hL : okL L) (K : Nat) (r1 : List Int) (e1 : tN 1 L = .ok (K : Int) r1) (hK : K ≤ 64) (v : List OpM) (r : List Int) (h : tkRep tOp K r1 = .ok v r) : DFun Tryz.prog 49 [.loc 0 0] [.mix 135 (.loc 1 0 :: opD o), .mix 157 [.slf 1 (L).length ((L).flatMap uc8), .val (.int .i64 0)]] (.slm 19 v.length (v.flatMap opD)) [.mix 135 (.loc 1 0 :: opD (lastO v o)), .mix 157 [.slf 1 (r).length ((r).flatMap uc8), .val (.int .i64 0)]] := by
  refine zal (N := 20) 2 (by kernel_rfl) Tryz.func49 rfl rfl rfl (by simp only [fr0, Nat.zero_add, Nat.reduceAdd]; exact rfl) rfl fun s0 hs0 => ?_
  refine zaf ?_
  have k1 := okL_N hL e1
  refine zad ?_
  refine zab rfl rfl rfl (zac (.inr rfl) (ev1 rfl)) ?_
  refine zae ?_
  refine zaf ?_
  refine zad ?_
  refine zab rfl rfl rfl (zac (.inl rfl) (ev1 rfl)) ?_
  refine zak rfl rfl rfl (zah [0, 1] [] [] rfl (ev1 rfl) (ec (ev1 rfl) (ec (ev1 rfl) en)) rfl rfl (tnum_ok o (L) (hL) 1 (by decide) ((K : Int)) (r1) (e1)) rfl rfl rfl rfl rfl rfl) (by simp only [upd, za, zaa]; exact rfl) ?_
  refine zab rfl rfl rfl (zac (.inr rfl) (ev1 rfl)) ?_
  refine zae ?_
  refine zaf ?_
  refine zad ?_
  refine zab rfl rfl rfl (zac (.inl rfl) (ev1 rfl)) ?_
  refine zab rfl rfl rfl (op_leq rfl (ev1 rfl) (ev1 rfl)) ?_
  refine zab rfl rfl rfl (zah [] [] [] rfl (ev1 rfl) (ec (ev1 rfl) (ec (ev1 rfl) en)) rfl rfl (cneed_ok _ _ (decide_eq_true (by omega))) rfl rfl rfl rfl rfl rfl) ?_
  refine zae ?_
  refine zaf ?_
  refine zad ?_
  refine zab rfl rfl rfl (zac (.inr rfl) (ev1 rfl)) ?_
  refine zae ?_
  refine zaf ?_
  refine zaf ?_
  refine zad ?_
  refine zab rfl rfl rfl (zac (.inl rfl) (ev1 rfl)) ?_
  refine zab rfl rfl rfl (zac (.inl rfl) (ev1 rfl)) ?_
  refine zae ?_
  refine zat ?_
  refine dwp_adoptx 4 47 19 rfl rfl rfl ?_
  refine dwp_loopS ⟨hs0, rfl⟩ (α := List OpM × List Int) (fun x => [(11, .val (.int .u64 (x.1.length : Int)))]) [(0, _), (4, _), (10, _)] (fun x => [(0, .mix 135 (.loc 1 0 :: opD (lastO x.1 o))), (1, .mix 157 [.slf 1 (x.2).length ((x.2).flatMap uc8), .val (.int .i64 0)]), (2, .arx 47 19 (x.1).length ((x.1).flatMap opD))]) [.hole, .hole, .hole] (fun x => okL x.2 ∧ x.1.length ≤ K ∧ ∃ ys, tkRep tOp (K - x.1.length) x.2 = .ok ys r ∧ x.1 ++ ys = v) (fun x => K - x.1.length) ([], r1) [0, 1, 2] (⟨k1, Nat.zero_le _, v, h, rfl⟩) rfl ⟨rfl, rfl, rfl, trivial⟩ ⟨rfl, trivial⟩ ⟨rfl, rfl, rfl, trivial⟩ ?_
  intro x hx
  simp only [upd, za, zaa, List.cons_append, List.nil_append]
  obtain ⟨hk, hle, ys, hy, hcat⟩ := hx
  refine zaf ?_
  refine zad ?_
  refine zab rfl rfl rfl (op_lss rfl (ev1 rfl) (ev1 rfl)) ?_
  refine zae ?_
  refine zaf ?_
  refine dwp_cond rfl (fun c1 => ?_) (fun c1 => ?_)
  · try simp only [decide_eq_true_eq, decide_eq_false_iff_not, beq_iff_eq, bne_iff_ne, beq_eq_false_iff_ne, bne_eq_false_iff_eq, Bool.not_eq_true', Bool.not_eq_false', Bool.and_eq_true, Bool.or_eq_true, Bool.or_eq_false_iff, ne_eq, Decidable.not_not, Int.not_lt, Int.not_le] at c1
    refine zam ?_
    refine zaf ?_
    refine zat ?_
    obtain ⟨a, q, zs, ha, hz, rfl⟩ := rep_step (by omega) hy
    refine zaj 1 (by simp only [holes, List.cons_append, List.nil_append]; exact rfl) ?_
    refine zad ?_
    refine zab rfl rfl rfl (zac (.inl rfl) (ev1 rfl)) ?_
    refine zab rfl rfl rfl (zac (.inl rfl) (ev1 rfl)) ?_
    refine zak rfl rfl rfl (zah [0, 1] [] [] rfl (ev1 rfl) (ec (ev1 rfl) en) rfl rfl (top_ok (lastO x.1 o) x.2 hk a q ha) rfl rfl rfl rfl rfl rfl) (by simp only [upd, za, zaa]; exact rfl) ?_
    refine zab rfl rfl rfl (op_bsr (ps := [(0, .tmp 15)]) rfl sl26 zr47 rfl (ec (ev1 rfl) en) rfl rfl rfl (by rfl) rfl (by decide) (by decide)) ?_
    refine zak rfl rfl rfl (op_appr (j := 3) rfl sl26 zr47 rfl (ev1 rfl) (ev1 rfl) rfl rfl (rfl) (fun _ => ⟨by omega, by omega⟩)) (by simp only [upd, za, zaa]; exact rfl) ?_
    refine zab rfl rfl rfl (zac (.inr rfl) (ev1 rfl)) ?_
    refine zae ?_
    refine zad ?_
    refine zab rfl rfl rfl (op_add' rfl (ev1 rfl) (ev1 rfl) (fun _ => IntWalk.u64_in _ (by omega))) ?_
    refine zab rfl rfl rfl (zac (.inl rfl) (ev1 rfl)) ?_
    refine zae ?_
    refine ⟨(x.1 ++ [a], q), [0, 1, 3], ⟨okL_op hk ha, by rw [List.length_append]; simp only [List.length_cons, List.length_nil]; omega, zs, by rw [List.length_append]; exact hz, by rw [List.append_assoc]; exact hcat⟩, by show K - (x.1 ++ [a]).length < K - x.1.length; rw [List.length_append]; simp only [List.length_cons, List.length_nil]; omega, rfl, ⟨congrArg (fun z => some (D.val (Value.int .u64 z))) (by simp), rfl, rfl, rfl, trivial⟩, ⟨congrArg (fun z => some (Blk.mix _ (D.loc 1 0 :: opD z))) (lastO_app _ _ _).symm, rfl, arxr_fits (by rw [List.length_append]; rfl) (by rw [List.flatMap_append]; rfl) (ops_nl2 _), trivial⟩⟩
  · try simp only [decide_eq_true_eq, decide_eq_false_iff_not, beq_iff_eq, bne_iff_ne, beq_eq_false_iff_ne, bne_eq_false_iff_eq, Bool.not_eq_true', Bool.not_eq_false', Bool.and_eq_true, Bool.or_eq_true, Bool.or_eq_false_iff, ne_eq, Decidable.not_not, Int.not_lt, Int.not_le] at c1
    refine dwp_exit ?_
    refine zaf ?_
    refine dwp_give 4 (ops_nl2 _) rfl rfl (by simp only [za, zaa]; exact rfl) ?_
    refine zad ?_
    refine zab rfl rfl rfl (zac (.inl rfl) (ev1 rfl)) ?_
    refine zab rfl rfl rfl (zac (.inr rfl) (ev1 rfl)) ?_
    refine zae ?_
    refine zan ?_
    obtain ⟨rfl, hxr⟩ := rep_end (by omega) hy
    rw [List.append_nil] at hcat
    subst hcat
    subst hxr
    refine kend [0, 1] (rs1 rfl (rv_t rfl)) rfl rfl ?_ ⟨rfl, rfl, trivial⟩
    rfl
set_option maxRecDepth 4000 in
set_option maxHeartbeats 1000000 in
theorem tos1_n2 (o : OpM) (L : List Int) (hL : okL L) (K : Nat) (r1 : List Int) (e1 : tN 1 L = .ok (K : Int) r1) (hK : K ≤ 64) (e : Int) (h : tkRep tOp K r1 = .err e) : DPanL Tryz.prog 49 [.loc 0 0] [.mix 135 (.loc 1 0 :: opD o), .mix 157 [.slf 1 (L).length ((L).flatMap uc8), .val (.int .i64 0)]] (.ifc 139 (.val (.agg #[.int .i64 e]))) := by
  refine zal (N := 20) 2 (by kernel_rfl) Tryz.func49 rfl rfl rfl (by simp only [fr0, Nat.zero_add, Nat.reduceAdd]; exact rfl) rfl fun s0 hs0 => ?_
  refine zaf ?_
  have k1 := okL_N hL e1
  refine zad ?_
  refine zab rfl rfl rfl (zac (.inr rfl) (ev1 rfl)) ?_
  refine zae ?_
  refine zaf ?_
  refine zad ?_
  refine zab rfl rfl rfl (zac (.inl rfl) (ev1 rfl)) ?_
  refine zak rfl rfl rfl (zah [0, 1] [] [] rfl (ev1 rfl) (ec (ev1 rfl) (ec (ev1 rfl) en)) rfl rfl (tnum_ok o (L) (hL) 1 (by decide) ((K : Int)) (r1) (e1)) rfl rfl rfl rfl rfl rfl) (by simp only [upd, za, zaa]; exact rfl) ?_
  refine zab rfl rfl rfl (zac (.inr rfl) (ev1 rfl)) ?_
  refine zae ?_
  refine zaf ?_
  refine zad ?_
  refine zab rfl rfl rfl (zac (.inl rfl) (ev1 rfl)) ?_
  refine zab rfl rfl rfl (op_leq rfl (ev1 rfl) (ev1 rfl)) ?_
  refine zab rfl rfl rfl (zah [] [] [] rfl (ev1 rfl) (ec (ev1 rfl) (ec (ev1 rfl) en)) rfl rfl (cneed_ok _ _ (decide_eq_true (by omega))) rfl rfl rfl rfl rfl rfl) ?_
  refine zae ?_
  refine zaf ?_
  refine zad ?_
  refine zab rfl rfl rfl (zac (.inr rfl) (ev1 rfl)) ?_
  refine zae ?_
  refine zaf ?_
  refine zaf ?_
  refine zad ?_
  refine zab rfl rfl rfl (zac (.inl rfl) (ev1 rfl)) ?_
  refine zab rfl rfl rfl (zac (.inl rfl) (ev1 rfl)) ?_
  refine zae ?_
  refine zat ?_
  refine dwp_adoptx 4 47 19 rfl rfl rfl ?_
  refine dwp_loopS ⟨hs0, rfl⟩ (α := List OpM × List Int) (fun x => [(11, .val (.int .u64 (x.1.length : Int)))]) [(0, _), (4, _), (10, _)] (fun x => [(0, .mix 135 (.loc 1 0 :: opD (lastO x.1 o))), (1, .mix 157 [.slf 1 (x.2).length ((x.2).flatMap uc8), .val (.int .i64 0)]), (2, .arx 47 19 (x.1).length ((x.1).flatMap opD))]) [.hole, .hole, .hole] (fun x => okL x.2 ∧ x.1.length ≤ K ∧ tkRep tOp (K - x.1.length) x.2 = .err e) (fun x => K - x.1.length) ([], r1) [0, 1, 2] (⟨k1, Nat.zero_le _, h⟩) rfl ⟨rfl, rfl, rfl, trivial⟩ ⟨rfl, trivial⟩ ⟨rfl, rfl, rfl, trivial⟩ ?_
  intro x hx
  simp only [upd, za, zaa, List.cons_append, List.nil_append]
  obtain ⟨hk, hle, hy⟩ := hx
  refine zaf ?_
  refine zad ?_
  refine zab rfl rfl rfl (op_lss rfl (ev1 rfl) (ev1 rfl)) ?_
  refine zae ?_
  refine zaf ?_
  refine dwp_cond rfl (fun c1 => ?_) (fun c1 => ?_)
  · try simp only [decide_eq_true_eq, decide_eq_false_iff_not, beq_iff_eq, bne_iff_ne, beq_eq_false_iff_ne, bne_eq_false_iff_eq, Bool.not_eq_true', Bool.not_eq_false', Bool.and_eq_true, Bool.or_eq_true, Bool.or_eq_false_iff, ne_eq, Decidable.not_not, Int.not_lt, Int.not_le] at c1
    refine zam ?_
    refine zaf ?_
    refine zat ?_
    by_cases hs : ∃ a q, tOp x.2 = .ok a q ∧ tkRep tOp (K - (x.1.length + 1)) q = .err e
    · obtain ⟨a, q, ha, hz⟩ := hs
      refine zaj 1 (by simp only [holes, List.cons_append, List.nil_append]; exact rfl) ?_
      refine zad ?_
      refine zab rfl rfl rfl (zac (.inl rfl) (ev1 rfl)) ?_
      refine zab rfl rfl rfl (zac (.inl rfl) (ev1 rfl)) ?_
      refine zak rfl rfl rfl (zah [0, 1] [] [] rfl (ev1 rfl) (ec (ev1 rfl) en) rfl rfl (top_ok (lastO x.1 o) x.2 hk a q ha) rfl rfl rfl rfl rfl rfl) (by simp only [upd, za, zaa]; exact rfl) ?_
      refine zab rfl rfl rfl (op_bsr (ps := [(0, .tmp 15)]) rfl sl26 zr47 rfl (ec (ev1 rfl) en) rfl rfl rfl (by rfl) rfl (by decide) (by decide)) ?_
      refine zak rfl rfl rfl (op_appr (j := 3) rfl sl26 zr47 rfl (ev1 rfl) (ev1 rfl) rfl rfl (rfl) (fun _ => ⟨by omega, by omega⟩)) (by simp only [upd, za, zaa]; exact rfl) ?_
      refine zab rfl rfl rfl (zac (.inr rfl) (ev1 rfl)) ?_
      refine zae ?_
      refine zad ?_
      refine zab rfl rfl rfl (op_add' rfl (ev1 rfl) (ev1 rfl) (fun _ => IntWalk.u64_in _ (by omega))) ?_
      refine zab rfl rfl rfl (zac (.inl rfl) (ev1 rfl)) ?_
      refine zae ?_
      refine ⟨(x.1 ++ [a], q), [0, 1, 3], ⟨okL_op hk ha, by rw [List.length_append]; simp only [List.length_cons, List.length_nil]; omega, by rw [List.length_append]; exact hz⟩, by show K - (x.1 ++ [a]).length < K - x.1.length; rw [List.length_append]; simp only [List.length_cons, List.length_nil]; omega, rfl, ⟨congrArg (fun z => some (D.val (Value.int .u64 z))) (by simp), rfl, rfl, rfl, trivial⟩, ⟨congrArg (fun z => some (Blk.mix _ (D.loc 1 0 :: opD z))) (lastO_app _ _ _).symm, rfl, arxr_fits (by rw [List.length_append]; rfl) (by rw [List.flatMap_append]; rfl) (ops_nl2 _), trivial⟩⟩
    · have hn : tOp x.2 = .err e := by
        rcases rep_stop (by omega) hy with h1 | ⟨c, q, h1, h2⟩
        · exact h1
        · exact absurd ⟨c, q, h1, h2⟩ hs
      refine zaj 1 (by simp only [holes, List.cons_append, List.nil_append]; exact rfl) ?_
      refine zad ?_
      refine zab rfl rfl rfl (zac (.inl rfl) (ev1 rfl)) ?_
      refine zab rfl rfl rfl (zac (.inl rfl) (ev1 rfl)) ?_
      refine walk_p rfl (dop_callP [0, 1] [] [] rfl (ev1 rfl) (ec (ev1 rfl) en) rfl rfl (top_no (lastO x.1 o) x.2 hk e hn) rfl rfl rfl rfl rfl rfl) rfl ?_
      refine kpanL (Mo := [_, _]) [0, 1] rfl rfl ?_ ⟨rfl, rfl, trivial⟩ rfl
      rfl
  · exact (rep_endx (by simp only [decide_eq_false_iff_not, Int.not_lt] at c1; omega) hy).elim
set_option maxRecDepth 4000 in
set_option maxHeartbeats 1000000 in
theorem tos1_n1 (o : OpM) (L : List Int) (hL : okL L) (k : Int) (r1 : List Int) (e1 : tN 1 L = .ok k r1) (hk : isM k = false) : DPanL Tryz.prog 49 [.loc 0 0] [.mix 135 (.loc 1 0 :: opD o), .mix 157 [.slf 1 (L).length ((L).flatMap uc8), .val (.int .i64 0)]] (.ifc 139 (.val (.agg #[.int .i64 290]))) := by
  refine zal (N := 20) 2 (by kernel_rfl) Tryz.func49 rfl rfl rfl (by simp only [fr0, Nat.zero_add, Nat.reduceAdd]; exact rfl) rfl fun s0 hs0 => ?_
  refine zaf ?_
  have k1 := okL_N hL e1
  refine zad ?_
  refine zab rfl rfl rfl (zac (.inr rfl) (ev1 rfl)) ?_
  refine zae ?_
  refine zaf ?_
  refine zad ?_
  refine zab rfl rfl rfl (zac (.inl rfl) (ev1 rfl)) ?_
  refine zak rfl rfl rfl (zah [0, 1] [] [] rfl (ev1 rfl) (ec (ev1 rfl) (ec (ev1 rfl) en)) rfl rfl (tnum_ok o (L) (hL) 1 (by decide) (k) (r1) (e1)) rfl rfl rfl rfl rfl rfl) (by simp only [upd, za, zaa]; exact rfl) ?_
  refine zab rfl rfl rfl (zac (.inr rfl) (ev1 rfl)) ?_
  refine zae ?_
  refine zaf ?_
  refine zad ?_
  refine zab rfl rfl rfl (zac (.inl rfl) (ev1 rfl)) ?_
  refine zab rfl rfl rfl (op_leq rfl (ev1 rfl) (ev1 rfl)) ?_
  refine walk_p rfl (dop_callP [] [] [] rfl (ev1 rfl) (ec (ev1 rfl) (ec (ev1 rfl) en)) rfl rfl (cneed_no _ _ (by unfold isM at hk; exact hk)) rfl rfl rfl rfl rfl rfl) rfl ?_
  refine kpanL (Mo := [_, _]) [0, 1] rfl rfl ?_ ⟨rfl, rfl, trivial⟩ rfl
  rfl
set_option maxRecDepth 4000 in
set_option maxHeartbeats 1000000 in
theorem tos1_n0 (o : OpM) (L : List Int) (hL : okL L) (e : Int) (h : tN 1 L = .err e) : DPanL Tryz.prog 49 [.loc 0 0] [.mix 135 (.loc 1 0 :: opD o), .mix 157 [.slf 1 (L).length ((L).flatMap uc8), .val (.int .i64 0)]] (.ifc 139 (.val (.agg #[.int .i64 e]))) := by
  refine zal (N := 20) 2 (by kernel_rfl) Tryz.func49 rfl rfl rfl (by simp only [fr0, Nat.zero_add, Nat.reduceAdd]; exact rfl) rfl fun s0 hs0 => ?_
  refine zaf ?_
  refine zad ?_
  refine zab rfl rfl rfl (zac (.inr rfl) (ev1 rfl)) ?_
  refine zae ?_
  refine zaf ?_
  refine zad ?_
  refine zab rfl rfl rfl (zac (.inl rfl) (ev1 rfl)) ?_
  refine walk_p rfl (dop_callP [0, 1] [] [] rfl (ev1 rfl) (ec (ev1 rfl) (ec (ev1 rfl) en)) rfl rfl (tnum_no o (L) (hL) 1 (by decide) (e) (h)) rfl rfl rfl rfl rfl rfl) rfl ?_
  refine kpanL (Mo := [_, _]) [0, 1] rfl rfl ?_ ⟨rfl, rfl, trivial⟩ rfl
  rfl
theorem tos1_no (o : OpM) (L : List Int) (hL : okL L) (e : Int) (h : tRow L = .err e) : DPan Tryz.prog 49 [.loc 0 0] [.mix 135 (.loc 1 0 :: opD o), .mix 157 [.slf 1 (L).length ((L).flatMap uc8), .val (.int .i64 0)]] (.ifc 139 (.val (.agg #[.int .i64 e]))) [.gone, .gone] := by
  rcases tRow_err h with h | ⟨k, r1, e1, hk, rfl⟩ | ⟨K, r1, e1, hK, h⟩
  · exact (tos1_n0 o L hL e h).dead
  · exact (tos1_n1 o L hL k r1 e1 hk).dead
  · exact (tos1_n2 o L hL K r1 e1 hK e h).dead
set_option maxRecDepth 4000 in
set_option maxHeartbeats 1000000 in
theorem tid1_ok (o : OpM) (L : List Int) (hL : okL L) (v : I3) (r : List Int) (h : tId L = .ok v r) : DFun Tryz.prog 57 [.loc 0 0] [.mix 135 (.loc 1 0 :: opD o), .mix 157 [.slf 1 (L).length ((L).flatMap uc8), .val (.int .i64 0)]] (.val (.agg (idc v).toArray)) [.mix 135 (.loc 1 0 :: opD o), .mix 157 [.slf 1 (r).length ((r).flatMap uc8), .val (.int .i64 0)]] := by
  refine zal (N := 5) 2 (by kernel_rfl) Tryz.func57 rfl rfl rfl (by simp only [fr0, Nat.zero_add, Nat.reduceAdd]; exact rfl) rfl fun s0 hs0 => ?_
  refine zaf ?_
  refine zaj 1 (by simp only [holes, List.cons_append, List.nil_append]; exact rfl) ?_
  refine zad ?_
  refine zak rfl rfl rfl (zao 2 rfl zr29 rfl) (by simp only [upd, za, zaa]; exact rfl) ?_
  refine zae ?_
  refine zaf ?_
  refine zad ?_
  refine zab rfl rfl rfl (zac (.inl rfl) (ev1 rfl)) ?_
  refine zak rfl rfl rfl (zah [0, 1] [] [] rfl (ev1 rfl) (ec (ev1 rfl) en) rfl rfl (tid_ok o L hL v r h) rfl rfl rfl rfl rfl rfl) (by simp only [upd, za, zaa]; exact rfl) ?_
  refine walk_s rfl rfl (op_stwa rfl tb29 (ev1 rfl) (ev1 rfl) rfl rfl rfl rfl) (by simp only [upd, za, zaa]; exact rfl) ?_
  refine zae ?_
  refine zan ?_
  refine kend [0, 1] (rs1 rfl (rv_w tb29 rfl rfl rfl)) rfl rfl ?_ ⟨rfl, rfl, trivial⟩
  rfl
set_option maxRecDepth 4000 in
set_option maxHeartbeats 1000000 in
theorem top1_ok (o : OpM) (L : List Int) (hL : okL L) (v : OpM) (r : List Int) (h : tOp L = .ok v r) : DFun Tryz.prog 55 [.loc 0 0] [.mix 135 (.loc 1 0 :: opD o), .mix 157 [.slf 1 (L).length ((L).flatMap uc8), .val (.int .i64 0)]] (.agg (opD v)) [.mix 135 (.loc 1 0 :: opD v), .mix 157 [.slf 1 (r).length ((r).flatMap uc8), .val (.int .i64 0)]] := by
  refine zal (N := 5) 2 (by kernel_rfl) Tryz.func55 rfl rfl rfl (by simp only [fr0, Nat.zero_add, Nat.reduceAdd]; exact rfl) rfl fun s0 hs0 => ?_
  refine zaf ?_
  refine zaj 1 (by simp only [holes, List.cons_append, List.nil_append]; exact rfl) ?_
  refine zad ?_
  refine zak rfl rfl rfl (zao 2 rfl zr47 rfl) (by simp only [upd, za, zaa]; exact rfl) ?_
  refine zae ?_
  refine zaf ?_
  refine zad ?_
  refine zab rfl rfl rfl (zac (.inl rfl) (ev1 rfl)) ?_
  refine zak rfl rfl rfl (zah [0, 1] [] [] rfl (ev1 rfl) (ec (ev1 rfl) en) rfl rfl (top_ok o L hL v r h) rfl rfl rfl rfl rfl rfl) (by simp only [upd, za, zaa]; exact rfl) ?_
  refine walk_s rfl rfl (op_stam rfl tb47 (ev1 rfl) (ev1 rfl) rfl rfl rfl rfl) (by simp only [upd, za, zaa]; exact rfl) ?_
  refine zae ?_
  refine zan ?_
  refine kend [0, 1] (rs1 rfl (rv_mw tb47 rfl rfl rfl)) rfl rfl ?_ ⟨rfl, rfl, trivial⟩
  rfl
set_option maxRecDepth 4000 in
set_option maxHeartbeats 1000000 in
theorem top1_nol (o : OpM) (L : List Int) (hL : okL L) (e : Int) (h : tOp L = .err e) : DPanL Tryz.prog 55 [.loc 0 0] [.mix 135 (.loc 1 0 :: opD o), .mix 157 [.slf 1 (L).length ((L).flatMap uc8), .val (.int .i64 0)]] (.ifc 139 (.val (.agg #[.int .i64 e]))) := by
  refine zal (N := 5) 2 (by kernel_rfl) Tryz.func55 rfl rfl rfl (by simp only [fr0, Nat.zero_add, Nat.reduceAdd]; exact rfl) rfl fun s0 hs0 => ?_
  refine zaf ?_
  refine zaj 1 (by simp only [holes, List.cons_append, List.nil_append]; exact rfl) ?_
  refine zad ?_
  refine zak rfl rfl rfl (zao 2 rfl zr47 rfl) (by simp only [upd, za, zaa]; exact rfl) ?_
  refine zae ?_
  refine zaf ?_
  refine zad ?_
  refine zab rfl rfl rfl (zac (.inl rfl) (ev1 rfl)) ?_
  refine walk_p rfl (dop_callP [0, 1] [] [] rfl (ev1 rfl) (ec (ev1 rfl) en) rfl rfl (top_no o L hL e h) rfl rfl rfl rfl rfl rfl) rfl ?_
  refine kpanL (Mo := [_, _]) [0, 1] rfl rfl ?_ ⟨rfl, rfl, trivial⟩ rfl
  rfl
theorem top1_no (o : OpM) (L : List Int) (hL : okL L) (e : Int) (h : tOp L = .err e) : DPan Tryz.prog 55 [.loc 0 0] [.mix 135 (.loc 1 0 :: opD o), .mix 157 [.slf 1 (L).length ((L).flatMap uc8), .val (.int .i64 0)]] (.ifc 139 (.val (.agg #[.int .i64 e]))) [.gone, .gone] := (top1_nol o L hL e h).dead
end Go.Proofs.YtmacjicebemgoaaGreat
