/- taking from the front of bytes; does the layer do anything?; arguments that are opened. No condition. -/
import Derived.Test.YtmacjicebemgoaaGreatQ6
import Derived.Test.YtmacjicebemgoaaGreatRows
namespace Go.Proofs.YtmacjicebemgoaaGreat
set_option linter.unusedVariables false
set_option linter.unusedSimpArgs false
open Go.RowKit
attribute [local irreducible] tkN valF numN tkRep tkOp tkId tkVec tkRow
theorem fl135 : fdL Tryz.prog 135 = some [(0, 1), (1, 19)] := by kernel_rfl
theorem zr135 : zrC Tryz.prog 135 = some [.pointer none, .int .u64 0, .int .i64 0, .int .u64 0, .int .i64 0, .int .i64 0, .int .i64 0, .int .i64 0, .int .i64 0, .int .i64 0, .int .u8 0, .int .u8 0, .int .u8 0, .int .u8 0, .int .i64 0, .int .i64 0, .slice none 0 0, .int .u64 0, .int .i64 0, .int .u64 0] := by kernel_rfl
theorem wkZL {d : D} : WkL [d, .val (.int .u64 0), .val (.int .i64 0), .val (.int .u64 0), .val (.int .i64 0), .val (.int .i64 0), .val (.int .i64 0), .val (.int .i64 0), .val (.int .i64 0), .val (.int .i64 0), .val (.int .u8 0), .val (.int .u8 0), .val (.int .u8 0), .val (.int .u8 0), .val (.int .i64 0), .val (.int .i64 0), .val (.slice none 0 0), .val (.int .u64 0), .val (.int .i64 0), .val (.int .u64 0)] (d :: opD zO) :=
  WkL.cons (Wk.refl _) (WkL.cons (Wk.refl _) (WkL.cons (Wk.refl _) (WkL.cons (Wk.refl _) (WkL.cons (Wk.refl _) (WkL.cons (Wk.refl _) (WkL.cons (Wk.refl _) (WkL.cons (Wk.refl _) (WkL.cons (Wk.refl _) (WkL.cons (Wk.refl _) (WkL.cons (Wk.refl _) (WkL.cons (Wk.refl _) (WkL.cons (Wk.refl _) (WkL.cons (Wk.refl _) (WkL.cons (Wk.refl _) (WkL.cons (Wk.refl _) (WkL.cons (Wk.slf0 4) (WkL.cons (Wk.refl _) (WkL.cons (Wk.refl _) (WkL.cons (Wk.refl _) (WkL.nil))))))))))))))))))))
set_option maxRecDepth 4000 in
set_option maxHeartbeats 1000000 in
theorem urleft_v (L : List Int) (e : Int) : DFun Tryz.prog 81 [.dpm [.slf 1 (L).length ((L).flatMap uc8), .val (.int .i64 e)]] [] (.val (.int .i64 (L.length : Int))) [] := by
  refine zal (N := 11) 0 (by kernel_rfl) Tryz.func81 rfl rfl rfl (by simp only [fr0, Nat.zero_add, Nat.reduceAdd]; exact rfl) rfl fun s0 hs0 => ?_
  refine zaf ?_
  refine zad ?_
  refine zab rfl rfl rfl (zac (.inr rfl) (ev1 rfl)) ?_
  refine zae ?_
  refine zaf ?_
  refine zaf ?_
  refine zad ?_
  refine zab rfl rfl rfl (zac (.inl rfl) (ev1 rfl)) ?_
  refine zab rfl rfl rfl (op_pnilm rfl pt131 (ev1 rfl)) ?_
  refine zae ?_
  refine dwp_if_f rfl (rfl) ?_
  refine zam ?_
  refine zaf ?_
  refine zad ?_
  refine zab rfl rfl rfl (zac (.inl rfl) (ev1 rfl)) ?_
  refine zab rfl rfl rfl (op_nc rfl (ev1 rfl) (fun s v h => by cases h; exact ⟨_, rfl⟩)) ?_
  refine zab rfl rfl rfl (op_fadm rfl fo157_0 (ev1 rfl)) ?_
  refine zab rfl rfl rfl (op_fadm rfl fo155_0 (ev1 rfl)) ?_
  refine zab rfl rfl rfl (op_lddm rfl tb30 (ev1 rfl) rfl) ?_
  refine zab rfl rfl rfl (op_len rfl sl30 (ev1 rfl)) ?_
  refine zab rfl rfl rfl (zac (.inr rfl) (ev1 rfl)) ?_
  refine zae ?_
  refine zan ?_
  refine kend0 (rs1 rfl (rv_t rfl)) rfl ?_
  rfl
set_option maxRecDepth 4000 in
set_option maxHeartbeats 1000000 in
theorem ktidd_idle (e : Int) : DDef Tryz.prog 87 [.loc 0 0] [.flat 31 [.int .i64 e]] none none [.flat 31 [.int .i64 0]] := by
  refine ddef_go1 (dr := .tup []) (t := 1) (N := 3) 1 (by kernel_rfl) Tryz.func87 rfl rfl rfl (by simp only [fr0, Nat.zero_add, Nat.reduceAdd]; exact rfl) rfl rfl rfl rfl rfl fun s0 hs0 => ?_
  refine zab rfl rfl rfl (zah [] [] [] rfl (ev1 rfl) (ec (ev1 rfl) en) rfl rfl (ctold_no) rfl rfl rfl rfl rfl rfl) ?_
  refine walk_s rfl rfl (op_stwi rfl tb31 (ev1 rfl) (ev1 rfl) rfl) (by simp only [upd, za, zaa]; exact rfl) ?_
  refine zae ?_
  refine kend [0] (res_none rfl) rfl rfl ?_ ⟨rfl, trivial⟩
  rfl
set_option maxRecDepth 4000 in
set_option maxHeartbeats 1000000 in
theorem ktid_ok (L : List Int) (hL : okL L) (h15 : L.length ≤ 32768) (v : I3) (r : List Int) (h : tId L = .ok v r) (hr : r.length ≤ L.length) : DFun Tryz.prog 56 [.slf 1 (L).length ((L).flatMap uc8), .fn (.func 57) [] []] [] (.tup [.val (.agg (idc v).toArray), .val (.int .i64 ((L.length : Int) - (r.length : Int))), .val (.int .i64 0)]) [] := by
  refine dcalls_body (N := 41) 0 (by kernel_rfl) Tryz.func56 rfl rfl rfl (by simp only [fr0, Nat.zero_add, Nat.reduceAdd]; exact rfl) rfl fun s0 hs0 => ?_
  refine dbody_seq rfl hs0 ?_
  refine zaj 2 (by simp only [holes, List.cons_append, List.nil_append]; exact rfl) ?_
  refine zad ?_
  refine zak rfl rfl rfl (zao 0 rfl zr29 rfl) (by simp only [upd, za, zaa]; exact rfl) ?_
  refine zab rfl rfl rfl (zac (.inr rfl) (ev1 rfl)) ?_
  refine zak rfl rfl rfl (zao 1 rfl zr31 rfl) (by simp only [upd, za, zaa]; exact rfl) ?_
  refine zae ?_
  refine dbody_defer (l0 := [_]) rfl rfl rfl rfl rfl hs0 ?_
  refine zab rfl rfl rfl (op_mkf rfl en (ec (ev1 rfl) en)) ?_
  refine zae ⟨_, _, _, 2, ev1 rfl, Nat.le_trans hs0 (by decide), rfl, ?_⟩
  have hs1 : s0.M.length ≤ 2 := Nat.le_trans hs0 (by decide)
  refine dbody_end rfl hs0 ?_
  refine zaf ?_
  refine zad ?_
  refine zab rfl rfl rfl (zac (.inl rfl) (ev1 rfl)) ?_
  refine zab rfl rfl rfl (op_len rfl sl30 (ev1 rfl)) ?_
  refine zab rfl rfl rfl ((op_min rfl (ev1 rfl) (ev1 rfl)).cast (d' := .val (.int .i64 (L.length : Int))) (by congr 2; omega)) ?_
  refine zab rfl rfl rfl (zac (.inr rfl) (ev1 rfl)) ?_
  refine zae ?_
  refine zaf ?_
  refine zaj 1 (by simp only [holes, List.cons_append, List.nil_append]; exact rfl) ?_
  refine zad ?_
  refine zab rfl rfl rfl (zac (.inl rfl) (ev1 rfl)) ?_
  refine zab rfl rfl rfl (zac (.inl rfl) (ev1 rfl)) ?_
  refine zab rfl rfl rfl (zac (.inl rfl) (ev1 rfl)) ?_
  refine zab rfl rfl rfl ((op_sl3f (j := L.length) rfl sl30 (ev1 rfl) (ev1 rfl) (ev1 rfl) (fun hp => by first | omega | (simp at hp; omega)) (fun hp => by first | omega | (simp at hp; omega)) (fun hp => by first | omega | (simp at hp; omega)) (fun _ => rfl)).cast (d' := .slf 1 (L).length ((L).flatMap uc8)) (by rw [List.take_length])) ?_
  refine zak rfl rfl rfl (zah [] [] [2] rfl (ev1 rfl) (ec (ev1 rfl) en) rfl rfl (uopen_d L (by have := hL.2; omega)) rfl rfl rfl rfl rfl rfl) (by simp only [upd, za, zaa]; exact rfl) ?_
  refine zab rfl rfl rfl (zac (.inl rfl) (ev1 rfl)) ?_
  refine zab rfl rfl rfl (zar rfl (ev1 rfl) rfl) ?_
  refine zab rfl rfl rfl (zar rfl (ev1 rfl) rfl) ?_
  refine zab rfl rfl rfl (zac (.inr rfl) (ev1 rfl)) ?_
  refine walk_s rfl rfl (op_stwi rfl tb31 (ev1 rfl) (ev1 rfl) rfl) (by simp only [upd, za, zaa]; exact rfl) ?_
  refine zae ?_
  refine zaf ?_
  refine zad ?_
  refine zab rfl rfl rfl (op_ldo rfl tb31 (ev1 rfl) rfl rfl) ?_
  refine zab rfl rfl rfl (op_eql rfl (ev1 rfl) (ev1 rfl)) ?_
  refine zab rfl rfl rfl (op_ldo rfl tb31 (ev1 rfl) rfl rfl) ?_
  refine zab rfl rfl rfl (zah [] [] [] rfl (ev1 rfl) (ec (ev1 rfl) (ec (ev1 rfl) en)) rfl rfl (cneed_ok _ _ (rfl)) rfl rfl rfl rfl rfl rfl) ?_
  refine zae ?_
  refine zaf ?_
  refine zaj 1 (by simp only [holes, List.cons_append, List.nil_append]; exact rfl) ?_
  refine zad ?_
  refine zab rfl rfl rfl (zac (.inl rfl) (ev1 rfl)) ?_
  refine zab rfl rfl rfl ((op_bldD (ps := [(0, .tmp 27)]) rfl fl135 zr135 (ec (ev1 rfl) en) rfl rfl rfl).cast (d' := .agg [.loc 2 0, .val (.int .u64 0), .val (.int .i64 0), .val (.int .u64 0), .val (.int .i64 0), .val (.int .i64 0), .val (.int .i64 0), .val (.int .i64 0), .val (.int .i64 0), .val (.int .i64 0), .val (.int .u8 0), .val (.int .u8 0), .val (.int .u8 0), .val (.int .u8 0), .val (.int .i64 0), .val (.int .i64 0), .val (.slice none 0 0), .val (.int .u64 0), .val (.int .i64 0), .val (.int .u64 0)]) (by kernel_rfl)) ?_
  refine zak rfl rfl rfl (op_boxam 3 rfl (ev1 rfl) rfl) (by simp only [upd, za, zaa]; exact rfl) ?_
  refine zab rfl rfl rfl (zac (.inr rfl) (ev1 rfl)) ?_
  refine zae ?_
  refine zaf ?_
  refine dwp_reb 3 (reb_wk wkZL) rfl rfl (by simp only [List.cons_append, List.nil_append, za, zaa, List.map]; exact rfl) ?_
  refine zaj 1 (by simp only [holes, List.cons_append, List.nil_append]; exact rfl) ?_
  refine zad ?_
  refine zab rfl rfl rfl (zac (.inl rfl) (ev1 rfl)) ?_
  refine zab rfl rfl rfl (zac (.inl rfl) (ev1 rfl)) ?_
  refine zak rfl rfl rfl (zah [3, 2] [] [] rfl (ev1 rfl) (ec (ev1 rfl) en) rfl rfl (tid1_ok zO L hL v r h) rfl rfl rfl rfl rfl rfl) (by simp only [upd, za, zaa]; exact rfl) ?_
  refine zak rfl rfl rfl (zao 4 rfl zr29 rfl) (by simp only [upd, za, zaa]; exact rfl) ?_
  refine walk_s rfl rfl (op_stwa rfl tb29 (ev1 rfl) (ev1 rfl) rfl rfl rfl rfl) (by simp only [upd, za, zaa]; exact rfl) ?_
  refine zae ?_
  refine zaf ?_
  refine dwp_draw [([4], []), ([], []), ([], []), ([], []), ([], []), ([3], []), ([2], []), ([], []), ([0], [0]), ([], []), ([1], [1])] mixed (by kernel_rfl) ?_
  refine lex_r rfl rfl (op_ldw rfl tb29 (ev1 rfl) rfl rfl) ?_
  refine lex_r rfl rfl (zac (.inl rfl) (ev1 rfl)) ?_
  refine lex_r rfl rfl (zac (.inl rfl) (ev1 rfl)) ?_
  refine lex_r rfl rfl (op_nc rfl (ev1 rfl) (fun s v h => by cases h; exact ⟨_, rfl⟩)) ?_
  refine lex_r rfl rfl (zap rfl fo135_0 (ev1 rfl)) ?_
  refine lex_r rfl rfl (zaq rfl tb131 (ev1 rfl) rfl rfl) ?_
  refine lex_r rfl rfl (zah [] [2] [] rfl (ev1 rfl) (ec (ev1 rfl) en) rfl rfl (urleft_v r 0) rfl rfl rfl rfl rfl rfl) ?_
  refine lex_r rfl rfl (op_sub' rfl (ev1 rfl) (ev1 rfl) (fun _ => IntWalk.i64_in _ (by omega))) ?_
  refine lex_s rfl rfl (op_stwa rfl tb29 (ev1 rfl) (ev1 rfl) rfl rfl rfl rfl) rfl (by simp only [upd, za, zaa]; exact rfl) ?_
  refine lex_r rfl rfl (zac (.inr rfl) (ev1 rfl)) ?_
  refine lex_s rfl rfl (op_stwi rfl tb31 (ev1 rfl) (ev1 rfl) rfl) rfl (by simp only [upd, za, zaa]; exact rfl) ?_
  refine lex_nil ?_
  refine zan ?_
  refine kdef (dturn_idle [1] [] rfl rfl (ktidd_idle _) rfl rfl rfl rfl rfl) ?_
  refine kend0 (rs3 rfl (rv_w tb29 rfl rfl rfl) (rv_t rfl) (rv_1 tb31 rfl rfl rfl)) rfl ?_
  rfl
set_option maxRecDepth 4000 in
set_option maxHeartbeats 1000000 in
theorem takeId_ok (L : List Int) (hL : okL L) (h15 : L.length ≤ 32768) (v : I3) (r : List Int) (h : tId L = .ok v r) (hr : r.length ≤ L.length) : DFun Tryz.prog 27 [.slf 1 (L).length ((L).flatMap uc8)] [] (.tup [.val (.agg (idc v).toArray), .val (.int .i64 ((L.length : Int) - (r.length : Int))), .val (.int .i64 0)]) [] := by
  refine zal (N := 10) 0 (by kernel_rfl) Tryz.func27 rfl rfl rfl (by simp only [fr0, Nat.zero_add, Nat.reduceAdd]; exact rfl) rfl fun s0 hs0 => ?_
  refine dwp_len (t := 0) rfl fun hl0 hL0 => ?_
  refine zaf ?_
  refine zaj 1 (by simp only [holes, List.cons_append, List.nil_append]; exact rfl) ?_
  refine zad ?_
  refine zak rfl rfl rfl (zao 0 rfl zr29 rfl) (by simp only [upd, za, zaa]; exact rfl) ?_
  refine zab rfl rfl rfl (zac (.inr rfl) (ev1 rfl)) ?_
  refine zab rfl rfl rfl (zac (.inr rfl) (ev1 rfl)) ?_
  refine zae ?_
  refine zaf ?_
  refine zad ?_
  refine zab rfl rfl rfl (zac (.inl rfl) (ev1 rfl)) ?_
  refine zab rfl rfl rfl (zah [] [] [] rfl (ev1 rfl) (ec (ev1 rfl) (ec (ev1 rfl) en)) rfl rfl (ktid_ok L hL h15 v r h hr) rfl rfl rfl rfl rfl rfl) ?_
  refine zab rfl rfl rfl (zar rfl (ev1 rfl) rfl) ?_
  refine zab rfl rfl rfl (zar rfl (ev1 rfl) rfl) ?_
  refine zab rfl rfl rfl (zar rfl (ev1 rfl) rfl) ?_
  refine walk_s rfl rfl (op_stwa rfl tb29 (ev1 rfl) (ev1 rfl) rfl rfl rfl rfl) (by simp only [upd, za, zaa]; exact rfl) ?_
  refine zab rfl rfl rfl (zac (.inr rfl) (ev1 rfl)) ?_
  refine zab rfl rfl rfl (zac (.inr rfl) (ev1 rfl)) ?_
  refine zae ?_
  refine zan ?_
  refine kend0 (rs3 rfl (rv_w tb29 rfl rfl rfl) (rv_t rfl) (rv_t rfl)) rfl ?_
  rfl
set_option maxRecDepth 4000 in
set_option maxHeartbeats 1000000 in
theorem ktopd_idle (e : Int) : DDef Tryz.prog 86 [.loc 0 0] [.flat 31 [.int .i64 e]] none none [.flat 31 [.int .i64 0]] := by
  refine ddef_go1 (dr := .tup []) (t := 1) (N := 3) 1 (by kernel_rfl) Tryz.func86 rfl rfl rfl (by simp only [fr0, Nat.zero_add, Nat.reduceAdd]; exact rfl) rfl rfl rfl rfl rfl fun s0 hs0 => ?_
  refine zab rfl rfl rfl (zah [] [] [] rfl (ev1 rfl) (ec (ev1 rfl) en) rfl rfl (ctold_no) rfl rfl rfl rfl rfl rfl) ?_
  refine walk_s rfl rfl (op_stwi rfl tb31 (ev1 rfl) (ev1 rfl) rfl) (by simp only [upd, za, zaa]; exact rfl) ?_
  refine zae ?_
  refine kend [0] (res_none rfl) rfl rfl ?_ ⟨rfl, trivial⟩
  rfl
set_option maxRecDepth 4000 in
set_option maxHeartbeats 1000000 in
theorem ktopd_caught (e n : Int) : DDef Tryz.prog 86 [.loc 0 0] [.flat 31 [.int .i64 e]] (some (.ifc 139 (.val (.agg #[.int .i64 n])))) none [.flat 31 [.int .i64 n]] := by
  refine ddef_go1 (dr := .tup []) (t := 1) (N := 3) 1 (by kernel_rfl) Tryz.func86 rfl rfl rfl (by simp only [fr0, Nat.zero_add, Nat.reduceAdd]; exact rfl) rfl rfl rfl rfl rfl fun s0 hs0 => ?_
  refine zab rfl rfl rfl (zah [] [] [] rfl (ev1 rfl) (ec (ev1 rfl) en) rfl rfl (ctold_w n) rfl rfl rfl rfl rfl rfl) ?_
  refine walk_s rfl rfl (op_stwi rfl tb31 (ev1 rfl) (ev1 rfl) rfl) (by simp only [upd, za, zaa]; exact rfl) ?_
  refine zae ?_
  refine kend [0] (res_none rfl) rfl rfl ?_ ⟨rfl, trivial⟩
  rfl
set_option maxRecDepth 4000 in
set_option maxHeartbeats 1000000 in
theorem ktop_ok (L : List Int) (hL : okL L) (h15 : L.length ≤ 32768) (v : OpM) (r : List Int) (h : tOp L = .ok v r) (hr : r.length ≤ L.length) : DFun Tryz.prog 54 [.slf 1 (L).length ((L).flatMap uc8), .fn (.func 55) [] []] [] (.tup [.agg (opD v), .val (.int .i64 ((L.length : Int) - (r.length : Int))), .val (.int .i64 0)]) [] := by
  refine dcalls_body (N := 41) 0 (by kernel_rfl) Tryz.func54 rfl rfl rfl (by simp only [fr0, Nat.zero_add, Nat.reduceAdd]; exact rfl) rfl fun s0 hs0 => ?_
  refine dbody_seq rfl hs0 ?_
  refine zaj 2 (by simp only [holes, List.cons_append, List.nil_append]; exact rfl) ?_
  refine zad ?_
  refine zak rfl rfl rfl (zao 0 rfl zr47 rfl) (by simp only [upd, za, zaa]; exact rfl) ?_
  refine zab rfl rfl rfl (zac (.inr rfl) (ev1 rfl)) ?_
  refine zak rfl rfl rfl (zao 1 rfl zr31 rfl) (by simp only [upd, za, zaa]; exact rfl) ?_
  refine zae ?_
  refine dbody_defer (l0 := [_]) rfl rfl rfl rfl rfl hs0 ?_
  refine zab rfl rfl rfl (op_mkf rfl en (ec (ev1 rfl) en)) ?_
  refine zae ⟨_, _, _, 2, ev1 rfl, Nat.le_trans hs0 (by decide), rfl, ?_⟩
  have hs1 : s0.M.length ≤ 2 := Nat.le_trans hs0 (by decide)
  refine dbody_end rfl hs0 ?_
  refine zaf ?_
  refine zad ?_
  refine zab rfl rfl rfl (zac (.inl rfl) (ev1 rfl)) ?_
  refine zab rfl rfl rfl (op_len rfl sl30 (ev1 rfl)) ?_
  refine zab rfl rfl rfl ((op_min rfl (ev1 rfl) (ev1 rfl)).cast (d' := .val (.int .i64 (L.length : Int))) (by congr 2; omega)) ?_
  refine zab rfl rfl rfl (zac (.inr rfl) (ev1 rfl)) ?_
  refine zae ?_
  refine zaf ?_
  refine zaj 1 (by simp only [holes, List.cons_append, List.nil_append]; exact rfl) ?_
  refine zad ?_
  refine zab rfl rfl rfl (zac (.inl rfl) (ev1 rfl)) ?_
  refine zab rfl rfl rfl (zac (.inl rfl) (ev1 rfl)) ?_
  refine zab rfl rfl rfl (zac (.inl rfl) (ev1 rfl)) ?_
  refine zab rfl rfl rfl ((op_sl3f (j := L.length) rfl sl30 (ev1 rfl) (ev1 rfl) (ev1 rfl) (fun hp => by first | omega | (simp at hp; omega)) (fun hp => by first | omega | (simp at hp; omega)) (fun hp => by first | omega | (simp at hp; omega)) (fun _ => rfl)).cast (d' := .slf 1 (L).length ((L).flatMap uc8)) (by rw [List.take_length])) ?_
  refine zak rfl rfl rfl (zah [] [] [2] rfl (ev1 rfl) (ec (ev1 rfl) en) rfl rfl (uopen_d L (by have := hL.2; omega)) rfl rfl rfl rfl rfl rfl) (by simp only [upd, za, zaa]; exact rfl) ?_
  refine zab rfl rfl rfl (zac (.inl rfl) (ev1 rfl)) ?_
  refine zab rfl rfl rfl (zar rfl (ev1 rfl) rfl) ?_
  refine zab rfl rfl rfl (zar rfl (ev1 rfl) rfl) ?_
  refine zab rfl rfl rfl (zac (.inr rfl) (ev1 rfl)) ?_
  refine walk_s rfl rfl (op_stwi rfl tb31 (ev1 rfl) (ev1 rfl) rfl) (by simp only [upd, za, zaa]; exact rfl) ?_
  refine zae ?_
  refine zaf ?_
  refine zad ?_
  refine zab rfl rfl rfl (op_ldo rfl tb31 (ev1 rfl) rfl rfl) ?_
  refine zab rfl rfl rfl (op_eql rfl (ev1 rfl) (ev1 rfl)) ?_
  refine zab rfl rfl rfl (op_ldo rfl tb31 (ev1 rfl) rfl rfl) ?_
  refine zab rfl rfl rfl (zah [] [] [] rfl (ev1 rfl) (ec (ev1 rfl) (ec (ev1 rfl) en)) rfl rfl (cneed_ok _ _ (rfl)) rfl rfl rfl rfl rfl rfl) ?_
  refine zae ?_
  refine zaf ?_
  refine zaj 1 (by simp only [holes, List.cons_append, List.nil_append]; exact rfl) ?_
  refine zad ?_
  refine zab rfl rfl rfl (zac (.inl rfl) (ev1 rfl)) ?_
  refine zab rfl rfl rfl ((op_bldD (ps := [(0, .tmp 27)]) rfl fl135 zr135 (ec (ev1 rfl) en) rfl rfl rfl).cast (d' := .agg [.loc 2 0, .val (.int .u64 0), .val (.int .i64 0), .val (.int .u64 0), .val (.int .i64 0), .val (.int .i64 0), .val (.int .i64 0), .val (.int .i64 0), .val (.int .i64 0), .val (.int .i64 0), .val (.int .u8 0), .val (.int .u8 0), .val (.int .u8 0), .val (.int .u8 0), .val (.int .i64 0), .val (.int .i64 0), .val (.slice none 0 0), .val (.int .u64 0), .val (.int .i64 0), .val (.int .u64 0)]) (by kernel_rfl)) ?_
  refine zak rfl rfl rfl (op_boxam 3 rfl (ev1 rfl) rfl) (by simp only [upd, za, zaa]; exact rfl) ?_
  refine zab rfl rfl rfl (zac (.inr rfl) (ev1 rfl)) ?_
  refine zae ?_
  refine zaf ?_
  refine dwp_reb 3 (reb_wk wkZL) rfl rfl (by simp only [List.cons_append, List.nil_append, za, zaa, List.map]; exact rfl) ?_
  refine zaj 1 (by simp only [holes, List.cons_append, List.nil_append]; exact rfl) ?_
  refine zad ?_
  refine zab rfl rfl rfl (zac (.inl rfl) (ev1 rfl)) ?_
  refine zab rfl rfl rfl (zac (.inl rfl) (ev1 rfl)) ?_
  refine zak rfl rfl rfl (zah [3, 2] [] [] rfl (ev1 rfl) (ec (ev1 rfl) en) rfl rfl (top1_ok zO L hL v r h) rfl rfl rfl rfl rfl rfl) (by simp only [upd, za, zaa]; exact rfl) ?_
  refine zak rfl rfl rfl (zao 4 rfl zr47 rfl) (by simp only [upd, za, zaa]; exact rfl) ?_
  refine walk_s rfl rfl (op_stam rfl tb47 (ev1 rfl) (ev1 rfl) rfl rfl rfl rfl) (by simp only [upd, za, zaa]; exact rfl) ?_
  refine zae ?_
  refine zaf ?_
  refine dwp_draw [([4], []), ([], []), ([], []), ([], []), ([], []), ([3], []), ([2], []), ([], []), ([0], [0]), ([], []), ([1], [1])] mixed (by kernel_rfl) ?_
  refine lex_r rfl rfl (op_ldmw rfl tb47 (ev1 rfl) rfl rfl) ?_
  refine lex_r rfl rfl (zac (.inl rfl) (ev1 rfl)) ?_
  refine lex_r rfl rfl (zac (.inl rfl) (ev1 rfl)) ?_
  refine lex_r rfl rfl (op_nc rfl (ev1 rfl) (fun s v h => by cases h; exact ⟨_, rfl⟩)) ?_
  refine lex_r rfl rfl (zap rfl fo135_0 (ev1 rfl)) ?_
  refine lex_r rfl rfl (zaq rfl tb131 (ev1 rfl) rfl rfl) ?_
  refine lex_r rfl rfl (zah [] [2] [] rfl (ev1 rfl) (ec (ev1 rfl) en) rfl rfl (urleft_v r 0) rfl rfl rfl rfl rfl rfl) ?_
  refine lex_r rfl rfl (op_sub' rfl (ev1 rfl) (ev1 rfl) (fun _ => IntWalk.i64_in _ (by omega))) ?_
  refine lex_s rfl rfl (op_stam rfl tb47 (ev1 rfl) (ev1 rfl) rfl rfl rfl rfl) rfl (by simp only [upd, za, zaa]; exact rfl) ?_
  refine lex_r rfl rfl (zac (.inr rfl) (ev1 rfl)) ?_
  refine lex_s rfl rfl (op_stwi rfl tb31 (ev1 rfl) (ev1 rfl) rfl) rfl (by simp only [upd, za, zaa]; exact rfl) ?_
  refine lex_nil ?_
  refine zan ?_
  refine kdef (dturn_idle [1] [] rfl rfl (ktopd_idle _) rfl rfl rfl rfl rfl) ?_
  refine kend0 (rs3 rfl (rv_mw tb47 rfl rfl rfl) (rv_t rfl) (rv_1 tb31 rfl rfl rfl)) rfl ?_
  rfl
set_option maxRecDepth 4000 in
set_option maxHeartbeats 1000000 in
theorem ktop_no (L : List Int) (hL : okL L) (h15 : L.length ≤ 32768) (e : Int) (h : tOp L = .err e) : DFun Tryz.prog 54 [.slf 1 (L).length ((L).flatMap uc8), .fn (.func 55) [] []] [] (.tup [.val (.agg #[.int .u64 0, .int .i64 0, .int .u64 0, .int .i64 0, .int .i64 0, .int .i64 0, .int .i64 0, .int .i64 0, .int .i64 0, .int .u8 0, .int .u8 0, .int .u8 0, .int .u8 0, .int .i64 0, .int .i64 0, .slice none 0 0, .int .u64 0, .int .i64 0, .int .u64 0]), .val (.int .i64 0), .val (.int .i64 e)]) [] := by
  refine dcalls_body (N := 41) 0 (by kernel_rfl) Tryz.func54 rfl rfl rfl (by simp only [fr0, Nat.zero_add, Nat.reduceAdd]; exact rfl) rfl fun s0 hs0 => ?_
  refine dbody_seq rfl hs0 ?_
  refine zaj 2 (by simp only [holes, List.cons_append, List.nil_append]; exact rfl) ?_
  refine zad ?_
  refine zak rfl rfl rfl (zao 0 rfl zr47 rfl) (by simp only [upd, za, zaa]; exact rfl) ?_
  refine zab rfl rfl rfl (zac (.inr rfl) (ev1 rfl)) ?_
  refine zak rfl rfl rfl (zao 1 rfl zr31 rfl) (by simp only [upd, za, zaa]; exact rfl) ?_
  refine zae ?_
  refine dbody_defer (l0 := [_]) rfl rfl rfl rfl rfl hs0 ?_
  refine zab rfl rfl rfl (op_mkf rfl en (ec (ev1 rfl) en)) ?_
  refine zae ⟨_, _, _, 2, ev1 rfl, Nat.le_trans hs0 (by decide), rfl, ?_⟩
  have hs1 : s0.M.length ≤ 2 := Nat.le_trans hs0 (by decide)
  refine dbody_end rfl hs0 ?_
  refine zaf ?_
  refine zad ?_
  refine zab rfl rfl rfl (zac (.inl rfl) (ev1 rfl)) ?_
  refine zab rfl rfl rfl (op_len rfl sl30 (ev1 rfl)) ?_
  refine zab rfl rfl rfl ((op_min rfl (ev1 rfl) (ev1 rfl)).cast (d' := .val (.int .i64 (L.length : Int))) (by congr 2; omega)) ?_
  refine zab rfl rfl rfl (zac (.inr rfl) (ev1 rfl)) ?_
  refine zae ?_
  refine zaf ?_
  refine zaj 1 (by simp only [holes, List.cons_append, List.nil_append]; exact rfl) ?_
  refine zad ?_
  refine zab rfl rfl rfl (zac (.inl rfl) (ev1 rfl)) ?_
  refine zab rfl rfl rfl (zac (.inl rfl) (ev1 rfl)) ?_
  refine zab rfl rfl rfl (zac (.inl rfl) (ev1 rfl)) ?_
  refine zab rfl rfl rfl ((op_sl3f (j := L.length) rfl sl30 (ev1 rfl) (ev1 rfl) (ev1 rfl) (fun hp => by first | omega | (simp at hp; omega)) (fun hp => by first | omega | (simp at hp; omega)) (fun hp => by first | omega | (simp at hp; omega)) (fun _ => rfl)).cast (d' := .slf 1 (L).length ((L).flatMap uc8)) (by rw [List.take_length])) ?_
  refine zak rfl rfl rfl (zah [] [] [2] rfl (ev1 rfl) (ec (ev1 rfl) en) rfl rfl (uopen_d L (by have := hL.2; omega)) rfl rfl rfl rfl rfl rfl) (by simp only [upd, za, zaa]; exact rfl) ?_
  refine zab rfl rfl rfl (zac (.inl rfl) (ev1 rfl)) ?_
  refine zab rfl rfl rfl (zar rfl (ev1 rfl) rfl) ?_
  refine zab rfl rfl rfl (zar rfl (ev1 rfl) rfl) ?_
  refine zab rfl rfl rfl (zac (.inr rfl) (ev1 rfl)) ?_
  refine walk_s rfl rfl (op_stwi rfl tb31 (ev1 rfl) (ev1 rfl) rfl) (by simp only [upd, za, zaa]; exact rfl) ?_
  refine zae ?_
  refine zaf ?_
  refine zad ?_
  refine zab rfl rfl rfl (op_ldo rfl tb31 (ev1 rfl) rfl rfl) ?_
  refine zab rfl rfl rfl (op_eql rfl (ev1 rfl) (ev1 rfl)) ?_
  refine zab rfl rfl rfl (op_ldo rfl tb31 (ev1 rfl) rfl rfl) ?_
  refine zab rfl rfl rfl (zah [] [] [] rfl (ev1 rfl) (ec (ev1 rfl) (ec (ev1 rfl) en)) rfl rfl (cneed_ok _ _ (rfl)) rfl rfl rfl rfl rfl rfl) ?_
  refine zae ?_
  refine zaf ?_
  refine zaj 1 (by simp only [holes, List.cons_append, List.nil_append]; exact rfl) ?_
  refine zad ?_
  refine zab rfl rfl rfl (zac (.inl rfl) (ev1 rfl)) ?_
  refine zab rfl rfl rfl ((op_bldD (ps := [(0, .tmp 27)]) rfl fl135 zr135 (ec (ev1 rfl) en) rfl rfl rfl).cast (d' := .agg [.loc 2 0, .val (.int .u64 0), .val (.int .i64 0), .val (.int .u64 0), .val (.int .i64 0), .val (.int .i64 0), .val (.int .i64 0), .val (.int .i64 0), .val (.int .i64 0), .val (.int .i64 0), .val (.int .u8 0), .val (.int .u8 0), .val (.int .u8 0), .val (.int .u8 0), .val (.int .i64 0), .val (.int .i64 0), .val (.slice none 0 0), .val (.int .u64 0), .val (.int .i64 0), .val (.int .u64 0)]) (by kernel_rfl)) ?_
  refine zak rfl rfl rfl (op_boxam 3 rfl (ev1 rfl) rfl) (by simp only [upd, za, zaa]; exact rfl) ?_
  refine zab rfl rfl rfl (zac (.inr rfl) (ev1 rfl)) ?_
  refine zae ?_
  refine zaf ?_
  refine dwp_reb 3 (reb_wk wkZL) rfl rfl (by simp only [List.cons_append, List.nil_append, za, zaa, List.map]; exact rfl) ?_
  refine zaj 1 (by simp only [holes, List.cons_append, List.nil_append]; exact rfl) ?_
  refine zad ?_
  refine zab rfl rfl rfl (zac (.inl rfl) (ev1 rfl)) ?_
  refine zab rfl rfl rfl (zac (.inl rfl) (ev1 rfl)) ?_
  refine walk_p rfl (dop_callP [3, 2] [] [] rfl (ev1 rfl) (ec (ev1 rfl) en) rfl rfl (top1_no zO L hL e h) rfl rfl rfl rfl rfl rfl) rfl ?_
  refine kdef (dturn_caught [1] [] rfl rfl rfl (ktopd_caught _ _) rfl rfl rfl rfl rfl) ?_
  refine kend0 (rs3 rfl (rv_w tb47 rfl rfl rfl) (rv_t rfl) (rv_1 tb31 rfl rfl rfl)) rfl ?_
  rfl
set_option maxRecDepth 4000 in
set_option maxHeartbeats 1000000 in
theorem takeOp_ok (L : List Int) (hL : okL L) (h15 : L.length ≤ 32768) (v : OpM) (r : List Int) (h : tOp L = .ok v r) (hr : r.length ≤ L.length) : DFun Tryz.prog 26 [.slf 1 (L).length ((L).flatMap uc8)] [] (.tup [.agg (opD v), .val (.int .i64 ((L.length : Int) - (r.length : Int))), .val (.int .i64 0)]) [] := by
  refine zal (N := 10) 0 (by kernel_rfl) Tryz.func26 rfl rfl rfl (by simp only [fr0, Nat.zero_add, Nat.reduceAdd]; exact rfl) rfl fun s0 hs0 => ?_
  refine dwp_len (t := 0) rfl fun hl0 hL0 => ?_
  refine zaf ?_
  refine zaj 1 (by simp only [holes, List.cons_append, List.nil_append]; exact rfl) ?_
  refine zad ?_
  refine zak rfl rfl rfl (zao 0 rfl zr47 rfl) (by simp only [upd, za, zaa]; exact rfl) ?_
  refine zab rfl rfl rfl (zac (.inr rfl) (ev1 rfl)) ?_
  refine zab rfl rfl rfl (zac (.inr rfl) (ev1 rfl)) ?_
  refine zae ?_
  refine zaf ?_
  refine zad ?_
  refine zab rfl rfl rfl (zac (.inl rfl) (ev1 rfl)) ?_
  refine zab rfl rfl rfl (zah [] [] [] rfl (ev1 rfl) (ec (ev1 rfl) (ec (ev1 rfl) en)) rfl rfl (ktop_ok L hL h15 v r h hr) rfl rfl rfl rfl rfl rfl) ?_
  refine zab rfl rfl rfl (zar rfl (ev1 rfl) rfl) ?_
  refine zab rfl rfl rfl (zar rfl (ev1 rfl) rfl) ?_
  refine zab rfl rfl rfl (zar rfl (ev1 rfl) rfl) ?_
  refine walk_s rfl rfl (op_stam rfl tb47 (ev1 rfl) (ev1 rfl) rfl rfl rfl rfl) (by simp only [upd, za, zaa]; exact rfl) ?_
  refine zab rfl rfl rfl (zac (.inr rfl) (ev1 rfl)) ?_
  refine zab rfl rfl rfl (zac (.inr rfl) (ev1 rfl)) ?_
  refine zae ?_
  refine zan ?_
  refine kend0 (rs3 rfl (rv_mw tb47 rfl rfl rfl) (rv_t rfl) (rv_t rfl)) rfl ?_
  rfl
set_option maxRecDepth 4000 in
set_option maxHeartbeats 1000000 in
theorem takeOp_no (L : List Int) (hL : okL L) (h15 : L.length ≤ 32768) (e : Int) (h : tOp L = .err e) : DFun Tryz.prog 26 [.slf 1 (L).length ((L).flatMap uc8)] [] (.tup [.val (.agg #[.int .u64 0, .int .i64 0, .int .u64 0, .int .i64 0, .int .i64 0, .int .i64 0, .int .i64 0, .int .i64 0, .int .i64 0, .int .u8 0, .int .u8 0, .int .u8 0, .int .u8 0, .int .i64 0, .int .i64 0, .slice none 0 0, .int .u64 0, .int .i64 0, .int .u64 0]), .val (.int .i64 0), .val (.int .i64 e)]) [] := by
  refine zal (N := 10) 0 (by kernel_rfl) Tryz.func26 rfl rfl rfl (by simp only [fr0, Nat.zero_add, Nat.reduceAdd]; exact rfl) rfl fun s0 hs0 => ?_
  refine dwp_len (t := 0) rfl fun hl0 hL0 => ?_
  refine zaf ?_
  refine zaj 1 (by simp only [holes, List.cons_append, List.nil_append]; exact rfl) ?_
  refine zad ?_
  refine zak rfl rfl rfl (zao 0 rfl zr47 rfl) (by simp only [upd, za, zaa]; exact rfl) ?_
  refine zab rfl rfl rfl (zac (.inr rfl) (ev1 rfl)) ?_
  refine zab rfl rfl rfl (zac (.inr rfl) (ev1 rfl)) ?_
  refine zae ?_
  refine zaf ?_
  refine zad ?_
  refine zab rfl rfl rfl (zac (.inl rfl) (ev1 rfl)) ?_
  refine zab rfl rfl rfl (zah [] [] [] rfl (ev1 rfl) (ec (ev1 rfl) (ec (ev1 rfl) en)) rfl rfl (ktop_no L hL h15 e h) rfl rfl rfl rfl rfl rfl) ?_
  refine zab rfl rfl rfl (zar rfl (ev1 rfl) rfl) ?_
  refine zab rfl rfl rfl (zar rfl (ev1 rfl) rfl) ?_
  refine zab rfl rfl rfl (zar rfl (ev1 rfl) rfl) ?_
  refine walk_s rfl rfl (op_stwa rfl tb47 (ev1 rfl) (ev1 rfl) rfl rfl rfl rfl) (by simp only [upd, za, zaa]; exact rfl) ?_
  refine zab rfl rfl rfl (zac (.inr rfl) (ev1 rfl)) ?_
  refine zab rfl rfl rfl (zac (.inr rfl) (ev1 rfl)) ?_
  refine zae ?_
  refine zan ?_
  refine kend0 (rs3 rfl (rv_w tb47 rfl rfl rfl) (rv_t rfl) (rv_t rfl)) rfl ?_
  rfl
set_option maxRecDepth 4000 in
set_option maxHeartbeats 1000000 in
theorem ktosd_idle (e : Int) : DDef Tryz.prog 78 [.loc 0 0] [.flat 31 [.int .i64 e]] none none [.flat 31 [.int .i64 0]] := by
  refine ddef_go1 (dr := .tup []) (t := 1) (N := 3) 1 (by kernel_rfl) Tryz.func78 rfl rfl rfl (by simp only [fr0, Nat.zero_add, Nat.reduceAdd]; exact rfl) rfl rfl rfl rfl rfl fun s0 hs0 => ?_
  refine zab rfl rfl rfl (zah [] [] [] rfl (ev1 rfl) (ec (ev1 rfl) en) rfl rfl (ctold_no) rfl rfl rfl rfl rfl rfl) ?_
  refine walk_s rfl rfl (op_stwi rfl tb31 (ev1 rfl) (ev1 rfl) rfl) (by simp only [upd, za, zaa]; exact rfl) ?_
  refine zae ?_
  refine kend [0] (res_none rfl) rfl rfl ?_ ⟨rfl, trivial⟩
  rfl
set_option maxRecDepth 4000 in
set_option maxHeartbeats 1000000 in
theorem ktosd_caught (e n : Int) : DDef Tryz.prog 78 [.loc 0 0] [.flat 31 [.int .i64 e]] (some (.ifc 139 (.val (.agg #[.int .i64 n])))) none [.flat 31 [.int .i64 n]] := by
  refine ddef_go1 (dr := .tup []) (t := 1) (N := 3) 1 (by kernel_rfl) Tryz.func78 rfl rfl rfl (by simp only [fr0, Nat.zero_add, Nat.reduceAdd]; exact rfl) rfl rfl rfl rfl rfl fun s0 hs0 => ?_
  refine zab rfl rfl rfl (zah [] [] [] rfl (ev1 rfl) (ec (ev1 rfl) en) rfl rfl (ctold_w n) rfl rfl rfl rfl rfl rfl) ?_
  refine walk_s rfl rfl (op_stwi rfl tb31 (ev1 rfl) (ev1 rfl) rfl) (by simp only [upd, za, zaa]; exact rfl) ?_
  refine zae ?_
  refine kend [0] (res_none rfl) rfl rfl ?_ ⟨rfl, trivial⟩
  rfl
set_option maxRecDepth 4000 in
set_option maxHeartbeats 1000000 in
theorem ktos_okx (L : List Int) (hL : okL L) (h15 : L.length ≤ 32768) (v : List OpM) (r : List Int) (K : Nat) (r1 : List Int) (e1 : tN 1 L = .ok (K : Int) r1) (hK : K ≤ 64) (h : tkRep tOp K r1 = .ok v r) (hr : r.length ≤ L.length) : DFun Tryz.prog 48 [.slf 1 (L).length ((L).flatMap uc8), .fn (.func 49) [] []] [] (.tup [.slm 19 v.length (v.flatMap opD), .val (.int .i64 ((L.length : Int) - (r.length : Int))), .val (.int .i64 0)]) [] := by
  refine dcalls_body (N := 41) 0 (by kernel_rfl) Tryz.func48 rfl rfl rfl (by simp only [fr0, Nat.zero_add, Nat.reduceAdd]; exact rfl) rfl fun s0 hs0 => ?_
  refine dbody_seq rfl hs0 ?_
  refine zaj 1 (by simp only [holes, List.cons_append, List.nil_append]; exact rfl) ?_
  refine zad ?_
  refine zab rfl rfl rfl (zac (.inr rfl) (ev1 rfl)) ?_
  refine zab rfl rfl rfl (zac (.inr rfl) (ev1 rfl)) ?_
  refine zak rfl rfl rfl (zao 0 rfl zr31 rfl) (by simp only [upd, za, zaa]; exact rfl) ?_
  refine zae ?_
  refine dbody_defer (l0 := [_]) rfl rfl rfl rfl rfl hs0 ?_
  refine zab rfl rfl rfl (op_mkf rfl en (ec (ev1 rfl) en)) ?_
  refine zae ⟨_, _, _, 1, ev1 rfl, Nat.le_trans hs0 (by decide), rfl, ?_⟩
  have hs1 : s0.M.length ≤ 1 := Nat.le_trans hs0 (by decide)
  refine dbody_end rfl hs0 ?_
  refine zaf ?_
  refine zad ?_
  refine zab rfl rfl rfl (zac (.inl rfl) (ev1 rfl)) ?_
  refine zab rfl rfl rfl (op_len rfl sl30 (ev1 rfl)) ?_
  refine zab rfl rfl rfl ((op_min rfl (ev1 rfl) (ev1 rfl)).cast (d' := .val (.int .i64 (L.length : Int))) (by congr 2; omega)) ?_
  refine zab rfl rfl rfl (zac (.inr rfl) (ev1 rfl)) ?_
  refine zae ?_
  refine zaf ?_
  refine zaj 1 (by simp only [holes, List.cons_append, List.nil_append]; exact rfl) ?_
  refine zad ?_
  refine zab rfl rfl rfl (zac (.inl rfl) (ev1 rfl)) ?_
  refine zab rfl rfl rfl (zac (.inl rfl) (ev1 rfl)) ?_
  refine zab rfl rfl rfl (zac (.inl rfl) (ev1 rfl)) ?_
  refine zab rfl rfl rfl ((op_sl3f (j := L.length) rfl sl30 (ev1 rfl) (ev1 rfl) (ev1 rfl) (fun hp => by first | omega | (simp at hp; omega)) (fun hp => by first | omega | (simp at hp; omega)) (fun hp => by first | omega | (simp at hp; omega)) (fun _ => rfl)).cast (d' := .slf 1 (L).length ((L).flatMap uc8)) (by rw [List.take_length])) ?_
  refine zak rfl rfl rfl (zah [] [] [1] rfl (ev1 rfl) (ec (ev1 rfl) en) rfl rfl (uopen_d L (by have := hL.2; omega)) rfl rfl rfl rfl rfl rfl) (by simp only [upd, za, zaa]; exact rfl) ?_
  refine zab rfl rfl rfl (zac (.inl rfl) (ev1 rfl)) ?_
  refine zab rfl rfl rfl (zar rfl (ev1 rfl) rfl) ?_
  refine zab rfl rfl rfl (zar rfl (ev1 rfl) rfl) ?_
  refine zab rfl rfl rfl (zac (.inr rfl) (ev1 rfl)) ?_
  refine walk_s rfl rfl (op_stwi rfl tb31 (ev1 rfl) (ev1 rfl) rfl) (by simp only [upd, za, zaa]; exact rfl) ?_
  refine zae ?_
  refine zaf ?_
  refine zad ?_
  refine zab rfl rfl rfl (op_ldo rfl tb31 (ev1 rfl) rfl rfl) ?_
  refine zab rfl rfl rfl (op_eql rfl (ev1 rfl) (ev1 rfl)) ?_
  refine zab rfl rfl rfl (op_ldo rfl tb31 (ev1 rfl) rfl rfl) ?_
  refine zab rfl rfl rfl (zah [] [] [] rfl (ev1 rfl) (ec (ev1 rfl) (ec (ev1 rfl) en)) rfl rfl (cneed_ok _ _ (rfl)) rfl rfl rfl rfl rfl rfl) ?_
  refine zae ?_
  refine zaf ?_
  refine zaj 1 (by simp only [holes, List.cons_append, List.nil_append]; exact rfl) ?_
  refine zad ?_
  refine zab rfl rfl rfl (zac (.inl rfl) (ev1 rfl)) ?_
  refine zab rfl rfl rfl ((op_bldD (ps := [(0, .tmp 27)]) rfl fl135 zr135 (ec (ev1 rfl) en) rfl rfl rfl).cast (d' := .agg [.loc 1 0, .val (.int .u64 0), .val (.int .i64 0), .val (.int .u64 0), .val (.int .i64 0), .val (.int .i64 0), .val (.int .i64 0), .val (.int .i64 0), .val (.int .i64 0), .val (.int .i64 0), .val (.int .u8 0), .val (.int .u8 0), .val (.int .u8 0), .val (.int .u8 0), .val (.int .i64 0), .val (.int .i64 0), .val (.slice none 0 0), .val (.int .u64 0), .val (.int .i64 0), .val (.int .u64 0)]) (by kernel_rfl)) ?_
  refine zak rfl rfl rfl (op_boxam 2 rfl (ev1 rfl) rfl) (by simp only [upd, za, zaa]; exact rfl) ?_
  refine zab rfl rfl rfl (zac (.inr rfl) (ev1 rfl)) ?_
  refine zae ?_
  refine zaf ?_
  refine dwp_reb 2 (reb_wk wkZL) rfl rfl (by simp only [List.cons_append, List.nil_append, za, zaa, List.map]; exact rfl) ?_
  refine zad ?_
  refine zab rfl rfl rfl (zac (.inl rfl) (ev1 rfl)) ?_
  refine zab rfl rfl rfl (zac (.inl rfl) (ev1 rfl)) ?_
  refine zak rfl rfl rfl (zah [2, 1] [] [] rfl (ev1 rfl) (ec (ev1 rfl) en) rfl rfl (tos1_ok zO L hL K r1 e1 hK v r h) rfl rfl rfl rfl rfl rfl) (by simp only [upd, za, zaa]; exact rfl) ?_
  refine zab rfl rfl rfl (zac (.inr rfl) (ev1 rfl)) ?_
  refine zae ?_
  refine zaf ?_
  refine zad ?_
  refine zab rfl rfl rfl (zac (.inl rfl) (ev1 rfl)) ?_
  refine zab rfl rfl rfl (zac (.inl rfl) (ev1 rfl)) ?_
  refine zab rfl rfl rfl (zac (.inl rfl) (ev1 rfl)) ?_
  refine zab rfl rfl rfl (op_nc rfl (ev1 rfl) (fun s v h => by cases h; exact ⟨_, rfl⟩)) ?_
  refine zab rfl rfl rfl (zap rfl fo135_0 (ev1 rfl)) ?_
  refine zab rfl rfl rfl (zaq rfl tb131 (ev1 rfl) rfl rfl) ?_
  refine zab rfl rfl rfl (zah [] [1] [] rfl (ev1 rfl) (ec (ev1 rfl) en) rfl rfl (urleft_v r 0) rfl rfl rfl rfl rfl rfl) ?_
  refine zab rfl rfl rfl (op_sub' rfl (ev1 rfl) (ev1 rfl) (fun _ => IntWalk.i64_in _ (by omega))) ?_
  refine zab rfl rfl rfl (zac (.inr rfl) (ev1 rfl)) ?_
  refine zab rfl rfl rfl (zac (.inr rfl) (ev1 rfl)) ?_
  refine walk_s rfl rfl (op_stwi rfl tb31 (ev1 rfl) (ev1 rfl) rfl) (by simp only [upd, za, zaa]; exact rfl) ?_
  refine zae ?_
  refine zan ?_
  refine kdef (dturn_idle [0] [] rfl rfl (ktosd_idle _) rfl rfl rfl rfl rfl) ?_
  refine kend0 (rs3 rfl (rv_t rfl) (rv_t rfl) (rv_1 tb31 rfl rfl rfl)) rfl ?_
  rfl
set_option maxRecDepth 4000 in
set_option maxHeartbeats 1000000 in
theorem ktos_no (L : List Int) (hL : okL L) (h15 : L.length ≤ 32768) (e : Int) (h : tRow L = .err e) : DFun Tryz.prog 48 [.slf 1 (L).length ((L).flatMap uc8), .fn (.func 49) [] []] [] (.tup [.val (.slice none 0 0), .val (.int .i64 0), .val (.int .i64 e)]) [] := by
  refine dcalls_body (N := 41) 0 (by kernel_rfl) Tryz.func48 rfl rfl rfl (by simp only [fr0, Nat.zero_add, Nat.reduceAdd]; exact rfl) rfl fun s0 hs0 => ?_
  refine dbody_seq rfl hs0 ?_
  refine zaj 1 (by simp only [holes, List.cons_append, List.nil_append]; exact rfl) ?_
  refine zad ?_
  refine zab rfl rfl rfl (zac (.inr rfl) (ev1 rfl)) ?_
  refine zab rfl rfl rfl (zac (.inr rfl) (ev1 rfl)) ?_
  refine zak rfl rfl rfl (zao 0 rfl zr31 rfl) (by simp only [upd, za, zaa]; exact rfl) ?_
  refine zae ?_
  refine dbody_defer (l0 := [_]) rfl rfl rfl rfl rfl hs0 ?_
  refine zab rfl rfl rfl (op_mkf rfl en (ec (ev1 rfl) en)) ?_
  refine zae ⟨_, _, _, 1, ev1 rfl, Nat.le_trans hs0 (by decide), rfl, ?_⟩
  have hs1 : s0.M.length ≤ 1 := Nat.le_trans hs0 (by decide)
  refine dbody_end rfl hs0 ?_
  refine zaf ?_
  refine zad ?_
  refine zab rfl rfl rfl (zac (.inl rfl) (ev1 rfl)) ?_
  refine zab rfl rfl rfl (op_len rfl sl30 (ev1 rfl)) ?_
  refine zab rfl rfl rfl ((op_min rfl (ev1 rfl) (ev1 rfl)).cast (d' := .val (.int .i64 (L.length : Int))) (by congr 2; omega)) ?_
  refine zab rfl rfl rfl (zac (.inr rfl) (ev1 rfl)) ?_
  refine zae ?_
  refine zaf ?_
  refine zaj 1 (by simp only [holes, List.cons_append, List.nil_append]; exact rfl) ?_
  refine zad ?_
  refine zab rfl rfl rfl (zac (.inl rfl) (ev1 rfl)) ?_
  refine zab rfl rfl rfl (zac (.inl rfl) (ev1 rfl)) ?_
  refine zab rfl rfl rfl (zac (.inl rfl) (ev1 rfl)) ?_
  refine zab rfl rfl rfl ((op_sl3f (j := L.length) rfl sl30 (ev1 rfl) (ev1 rfl) (ev1 rfl) (fun hp => by first | omega | (simp at hp; omega)) (fun hp => by first | omega | (simp at hp; omega)) (fun hp => by first | omega | (simp at hp; omega)) (fun _ => rfl)).cast (d' := .slf 1 (L).length ((L).flatMap uc8)) (by rw [List.take_length])) ?_
  refine zak rfl rfl rfl (zah [] [] [1] rfl (ev1 rfl) (ec (ev1 rfl) en) rfl rfl (uopen_d L (by have := hL.2; omega)) rfl rfl rfl rfl rfl rfl) (by simp only [upd, za, zaa]; exact rfl) ?_
  refine zab rfl rfl rfl (zac (.inl rfl) (ev1 rfl)) ?_
  refine zab rfl rfl rfl (zar rfl (ev1 rfl) rfl) ?_
  refine zab rfl rfl rfl (zar rfl (ev1 rfl) rfl) ?_
  refine zab rfl rfl rfl (zac (.inr rfl) (ev1 rfl)) ?_
  refine walk_s rfl rfl (op_stwi rfl tb31 (ev1 rfl) (ev1 rfl) rfl) (by simp only [upd, za, zaa]; exact rfl) ?_
  refine zae ?_
  refine zaf ?_
  refine zad ?_
  refine zab rfl rfl rfl (op_ldo rfl tb31 (ev1 rfl) rfl rfl) ?_
  refine zab rfl rfl rfl (op_eql rfl (ev1 rfl) (ev1 rfl)) ?_
  refine zab rfl rfl rfl (op_ldo rfl tb31 (ev1 rfl) rfl rfl) ?_
  refine zab rfl rfl rfl (zah [] [] [] rfl (ev1 rfl) (ec (ev1 rfl) (ec (ev1 rfl) en)) rfl rfl (cneed_ok _ _ (rfl)) rfl rfl rfl rfl rfl rfl) ?_
  refine zae ?_
  refine zaf ?_
  refine zaj 1 (by simp only [holes, List.cons_append, List.nil_append]; exact rfl) ?_
  refine zad ?_
  refine zab rfl rfl rfl (zac (.inl rfl) (ev1 rfl)) ?_
  refine zab rfl rfl rfl ((op_bldD (ps := [(0, .tmp 27)]) rfl fl135 zr135 (ec (ev1 rfl) en) rfl rfl rfl).cast (d' := .agg [.loc 1 0, .val (.int .u64 0), .val (.int .i64 0), .val (.int .u64 0), .val (.int .i64 0), .val (.int .i64 0), .val (.int .i64 0), .val (.int .i64 0), .val (.int .i64 0), .val (.int .i64 0), .val (.int .u8 0), .val (.int .u8 0), .val (.int .u8 0), .val (.int .u8 0), .val (.int .i64 0), .val (.int .i64 0), .val (.slice none 0 0), .val (.int .u64 0), .val (.int .i64 0), .val (.int .u64 0)]) (by kernel_rfl)) ?_
  refine zak rfl rfl rfl (op_boxam 2 rfl (ev1 rfl) rfl) (by simp only [upd, za, zaa]; exact rfl) ?_
  refine zab rfl rfl rfl (zac (.inr rfl) (ev1 rfl)) ?_
  refine zae ?_
  refine zaf ?_
  refine dwp_reb 2 (reb_wk wkZL) rfl rfl (by simp only [List.cons_append, List.nil_append, za, zaa, List.map]; exact rfl) ?_
  refine zad ?_
  refine zab rfl rfl rfl (zac (.inl rfl) (ev1 rfl)) ?_
  refine zab rfl rfl rfl (zac (.inl rfl) (ev1 rfl)) ?_
  refine walk_p rfl (dop_callP [2, 1] [] [] rfl (ev1 rfl) (ec (ev1 rfl) en) rfl rfl (tos1_no zO L hL e h) rfl rfl rfl rfl rfl rfl) rfl ?_
  refine kdef (dturn_caught [0] [] rfl rfl rfl (ktosd_caught _ _) rfl rfl rfl rfl rfl) ?_
  refine kend0 (rs3 rfl (rv_t rfl) (rv_t rfl) (rv_1 tb31 rfl rfl rfl)) rfl ?_
  rfl
theorem ktos_ok (L : List Int) (hL : okL L) (h15 : L.length ≤ 32768) (v : List OpM) (r : List Int) (h : tRow L = .ok v r) (hr : r.length ≤ L.length) : DFun Tryz.prog 48 [.slf 1 (L).length ((L).flatMap uc8), .fn (.func 49) [] []] [] (.tup [.slm 19 v.length (v.flatMap opD), .val (.int .i64 ((L.length : Int) - (r.length : Int))), .val (.int .i64 0)]) [] := by
  obtain ⟨K, r1, e1, hK, h⟩ := tRow_ok h
  exact ktos_okx L hL h15 v r K r1 e1 hK h hr
set_option maxRecDepth 4000 in
set_option maxHeartbeats 1000000 in
theorem takeOps_ok (L : List Int) (hL : okL L) (h15 : L.length ≤ 32768) (v : List OpM) (r : List Int) (h : tRow L = .ok v r) (hr : r.length ≤ L.length) : DFun Tryz.prog 23 [.slf 1 (L).length ((L).flatMap uc8)] [] (.tup [.slm 19 v.length (v.flatMap opD), .val (.int .i64 ((L.length : Int) - (r.length : Int))), .val (.int .i64 0)]) [] := by
  refine zal (N := 10) 0 (by kernel_rfl) Tryz.func23 rfl rfl rfl (by simp only [fr0, Nat.zero_add, Nat.reduceAdd]; exact rfl) rfl fun s0 hs0 => ?_
  refine dwp_len (t := 0) rfl fun hl0 hL0 => ?_
  refine zaf ?_
  refine zad ?_
  refine zab rfl rfl rfl (zac (.inr rfl) (ev1 rfl)) ?_
  refine zab rfl rfl rfl (zac (.inr rfl) (ev1 rfl)) ?_
  refine zab rfl rfl rfl (zac (.inr rfl) (ev1 rfl)) ?_
  refine zae ?_
  refine zaf ?_
  refine zad ?_
  refine zab rfl rfl rfl (zac (.inl rfl) (ev1 rfl)) ?_
  refine zab rfl rfl rfl (zah [] [] [] rfl (ev1 rfl) (ec (ev1 rfl) (ec (ev1 rfl) en)) rfl rfl (ktos_ok L hL h15 v r h hr) rfl rfl rfl rfl rfl rfl) ?_
  refine zab rfl rfl rfl (zar rfl (ev1 rfl) rfl) ?_
  refine zab rfl rfl rfl (zar rfl (ev1 rfl) rfl) ?_
  refine zab rfl rfl rfl (zar rfl (ev1 rfl) rfl) ?_
  refine zab rfl rfl rfl (zac (.inr rfl) (ev1 rfl)) ?_
  refine zab rfl rfl rfl (zac (.inr rfl) (ev1 rfl)) ?_
  refine zab rfl rfl rfl (zac (.inr rfl) (ev1 rfl)) ?_
  refine zae ?_
  refine zan ?_
  refine kend0 (rs3 rfl (rv_t rfl) (rv_t rfl) (rv_t rfl)) rfl ?_
  rfl
set_option maxRecDepth 4000 in
set_option maxHeartbeats 1000000 in
theorem takeOps_no (L : List Int) (hL : okL L) (h15 : L.length ≤ 32768) (e : Int) (h : tRow L = .err e) : DFun Tryz.prog 23 [.slf 1 (L).length ((L).flatMap uc8)] [] (.tup [.val (.slice none 0 0), .val (.int .i64 0), .val (.int .i64 e)]) [] := by
  refine zal (N := 10) 0 (by kernel_rfl) Tryz.func23 rfl rfl rfl (by simp only [fr0, Nat.zero_add, Nat.reduceAdd]; exact rfl) rfl fun s0 hs0 => ?_
  refine dwp_len (t := 0) rfl fun hl0 hL0 => ?_
  refine zaf ?_
  refine zad ?_
  refine zab rfl rfl rfl (zac (.inr rfl) (ev1 rfl)) ?_
  refine zab rfl rfl rfl (zac (.inr rfl) (ev1 rfl)) ?_
  refine zab rfl rfl rfl (zac (.inr rfl) (ev1 rfl)) ?_
  refine zae ?_
  refine zaf ?_
  refine zad ?_
  refine zab rfl rfl rfl (zac (.inl rfl) (ev1 rfl)) ?_
  refine zab rfl rfl rfl (zah [] [] [] rfl (ev1 rfl) (ec (ev1 rfl) (ec (ev1 rfl) en)) rfl rfl (ktos_no L hL h15 e h) rfl rfl rfl rfl rfl rfl) ?_
  refine zab rfl rfl rfl (zar rfl (ev1 rfl) rfl) ?_
  refine zab rfl rfl rfl (zar rfl (ev1 rfl) rfl) ?_
  refine zab rfl rfl rfl (zar rfl (ev1 rfl) rfl) ?_
  refine zab rfl rfl rfl (zac (.inr rfl) (ev1 rfl)) ?_
  refine zab rfl rfl rfl (zac (.inr rfl) (ev1 rfl)) ?_
  refine zab rfl rfl rfl (zac (.inr rfl) (ev1 rfl)) ?_
  refine zae ?_
  refine zan ?_
  refine kend0 (rs3 rfl (rv_t rfl) (rv_t rfl) (rv_t rfl)) rfl ?_
  rfl
end Go.Proofs.YtmacjicebemgoaaGreat
namespace Go.Proofs.YtmacjicebemgoaaGreat
set_option linter.unusedVariables false
set_option linter.unusedSimpArgs false
open Go.RowKit
def wI : I3 := ⟨1, 2, 3⟩
def wU : OpM := ⟨⟨2, 1, 2⟩, 7, 0, 0, 0, 0, 0, zC4, 0, 0, [], ⟨1, 1, 1⟩⟩
def wR : OpM := ⟨⟨2, 1, 2⟩, 3, 0, 0, 0, 0, 0, zC4, 0, 0, [], zI3⟩
theorem okC_0 : okC zC4 := by
  unfold okC zC4
  decide
theorem wU_ok : okO wU := ⟨by decide, okC_0, fun c h => by cases h⟩
theorem wR_ok : okO wR := ⟨by decide, okC_0, fun c h => by cases h⟩
theorem wU_len : (opL wU).length = 35 := by
  rw [opL_fields (by decide)]
  show (layW 1 7 ++ (idB ⟨2, 1, 2⟩ ++ [7].flatMap fun f => layF f wU)).length = 35
  simp only [List.length_append, layW_len, idB_len, List.flatMap_cons, List.flatMap_nil, List.append_nil]
  show 1 + (17 + (idB ⟨1, 1, 1⟩).length) = 35
  rw [idB_len]
theorem wR_len : (opL wR).length = 26 := by
  rw [opL_fields (by decide)]
  show (layW 1 3 ++ (idB ⟨2, 1, 2⟩ ++ [0, 1, 2, 3, 5].flatMap fun f => layF f wR)).length = 26
  simp only [List.length_append, layW_len, idB_len, List.flatMap_cons, List.flatMap_nil, List.append_nil]
  show 1 + (17 + ((layW 1 _).length + ((layW 1 _).length + ((layW 1 _).length + ((layW 1 _).length + (coB' zC4).length))))) = 26
  rw [layW_len, layW_len, layW_len, layW_len, coB_len]
theorem isB_one {n : Int} (h : 0 ≤ n ∧ n ≤ 255) : isB [n] := fun x hx => by
  rw [List.mem_singleton] at hx
  subst hx
  exact h
theorem okL_one {n : Int} (h : 0 ≤ n ∧ n ≤ 255) : okL [n] := ⟨isB_one h, by simp⟩
theorem t9_err : tOp [9] = .err 290 := by
  rw [tOp_eq]
  rfl
theorem t7_err : tOp [7] = .err 110 := by
  rw [tOp_eq]
  rfl
theorem t65_err : tRow [65] = .err 290 := by
  rw [tRow_eq]
  rfl
theorem tI_ok : tId (idB wI ++ [9]) = .ok wI [9] := (cdId 110 290).fwd wI [9] (by decide)
theorem okI : okL (idB wI ++ [9]) := ⟨isB_app.2 ⟨isB_idB _, isB_one (by decide)⟩, by rw [List.length_append, idB_len]; decide⟩
theorem rowL_nil : rowL [] = [0] := by
  rw [rowL_one (by decide)]
  rfl
theorem wk_wU : Wk (.val (.agg #[.int .u64 2, .int .i64 1, .int .u64 2, .int .i64 7, .int .i64 0, .int .i64 0, .int .i64 0, .int .i64 0, .int .i64 0, .int .u8 0, .int .u8 0, .int .u8 0, .int .u8 0, .int .i64 0, .int .i64 0, .slice none 0 0, .int .u64 1, .int .i64 1, .int .u64 1])) (.agg (opD wU)) :=
  (Wk.vagg _).trans (Wk.agg (WkL.cons (Wk.refl _) (WkL.cons (Wk.refl _) (WkL.cons (Wk.refl _) (WkL.cons (Wk.refl _) (WkL.cons (Wk.refl _) (WkL.cons (Wk.refl _) (WkL.cons (Wk.refl _) (WkL.cons (Wk.refl _) (WkL.cons (Wk.refl _) (WkL.cons (Wk.refl _) (WkL.cons (Wk.refl _) (WkL.cons (Wk.refl _) (WkL.cons (Wk.refl _) (WkL.cons (Wk.refl _) (WkL.cons (Wk.refl _) (WkL.cons (Wk.slf0 4) (WkL.cons (Wk.refl _) (WkL.cons (Wk.refl _) (WkL.cons (Wk.refl _) (WkL.nil)))))))))))))))))))))
theorem wk_wR : Wk (.val (.agg #[.int .u64 2, .int .i64 1, .int .u64 2, .int .i64 3, .int .i64 0, .int .i64 0, .int .i64 0, .int .i64 0, .int .i64 0, .int .u8 0, .int .u8 0, .int .u8 0, .int .u8 0, .int .i64 0, .int .i64 0, .slice none 0 0, .int .u64 0, .int .i64 0, .int .u64 0])) (.agg (opD wR)) :=
  (Wk.vagg _).trans (Wk.agg (WkL.cons (Wk.refl _) (WkL.cons (Wk.refl _) (WkL.cons (Wk.refl _) (WkL.cons (Wk.refl _) (WkL.cons (Wk.refl _) (WkL.cons (Wk.refl _) (WkL.cons (Wk.refl _) (WkL.cons (Wk.refl _) (WkL.cons (Wk.refl _) (WkL.cons (Wk.refl _) (WkL.cons (Wk.refl _) (WkL.cons (Wk.refl _) (WkL.cons (Wk.refl _) (WkL.cons (Wk.refl _) (WkL.cons (Wk.refl _) (WkL.cons (Wk.slf0 4) (WkL.cons (Wk.refl _) (WkL.cons (Wk.refl _) (WkL.cons (Wk.refl _) (WkL.nil)))))))))))))))))))))
set_option maxRecDepth 4000 in
set_option maxHeartbeats 1000000 in
theorem wakes_d : DFun Tryz.prog 6 [] [] (.val (.bool true)) [] := by
  refine zal (N := 133) 0 (by kernel_rfl) Tryz.func6 rfl rfl rfl (by simp only [fr0, Nat.zero_add, Nat.reduceAdd]; exact rfl) rfl fun s0 hs0 => ?_
  refine zaf ?_
  refine zad ?_
  refine zab rfl rfl rfl (zac (.inr rfl) (ev1 rfl)) ?_
  refine zae ?_
  refine zaf ?_
  refine zaj 2 (by simp only [holes, List.cons_append, List.nil_append]; exact rfl) ?_
  refine zad ?_
  refine zab rfl rfl rfl ((op_build (ps := [(0, .const (.int .u64 1)), (1, .const (.int .i64 2)), (2, .const (.int .u64 3))]) rfl fl29 zr29 (vc (ev1 rfl) (vc (ev1 rfl) (vc (ev1 rfl) vn))) rfl rfl).cast (d' := .val (.agg (idc wI).toArray)) (by kernel_rfl)) ?_
  refine zab rfl rfl rfl (op_build (ps := [(0, .const (.int .u64 2)), (1, .const (.int .i64 1)), (2, .const (.int .u64 2))]) rfl fl29 zr29 (vc (ev1 rfl) (vc (ev1 rfl) (vc (ev1 rfl) vn))) rfl rfl) ?_
  refine zak rfl rfl rfl (zao 0 rfl zr29 rfl) (by simp only [upd, za, zaa]; exact rfl) ?_
  refine zak rfl rfl rfl (zao 1 rfl zr29 rfl) (by simp only [upd, za, zaa]; exact rfl) ?_
  refine walk_s rfl rfl (op_stwa rfl tb29 (ev1 rfl) (ev1 rfl) rfl rfl rfl rfl) (by simp only [upd, za, zaa]; exact rfl) ?_
  refine walk_s rfl rfl (op_stwa rfl tb29 (ev1 rfl) (ev1 rfl) rfl rfl rfl rfl) (by simp only [upd, za, zaa]; exact rfl) ?_
  refine zae ?_
  refine zaf ?_
  refine zad ?_
  refine zab rfl rfl rfl (op_ldw rfl tb29 (ev1 rfl) rfl rfl) ?_
  refine zab rfl rfl rfl (zah [] [] [] rfl (ev1 rfl) (ec (ev1 rfl) en) rfl rfl (cid_ok wI (by decide)) rfl rfl rfl rfl rfl rfl) ?_
  refine zab rfl rfl rfl (zac (.inl rfl) (ev1 rfl)) ?_
  refine zab rfl rfl rfl (zar rfl (ev1 rfl) rfl) ?_
  refine zab rfl rfl rfl (zar rfl (ev1 rfl) rfl) ?_
  refine zab rfl rfl rfl (zac (.inr rfl) (ev1 rfl)) ?_
  refine zab rfl rfl rfl (zac (.inr rfl) (ev1 rfl)) ?_
  refine zae ?_
  refine zaf ?_
  refine zaj 3 (by simp only [holes, List.cons_append, List.nil_append]; exact rfl) ?_
  refine zad ?_
  refine zab rfl rfl rfl (zac (.inl rfl) (ev1 rfl)) ?_
  refine zak rfl rfl rfl (zah [] [] [2] rfl (ev1 rfl) (ec (ev1 rfl) en) rfl rfl (cloneB (idB wI) (by rw [idB_len]; decide)) rfl rfl rfl rfl rfl rfl) (by simp only [upd, za, zaa]; exact rfl) ?_
  refine zab rfl rfl rfl (op_bs (ps := [(0, .const (.int .u8 9))]) rfl sl30 zr5 rfl (vc (ev1 rfl) vn) rfl (by decide) (by decide)) ?_
  refine zak rfl rfl rfl ((op_app (j := 3) rfl sl30 zr5 rfl (ev1 rfl) (ev1 rfl) src_slf rfl rfl (fun _ => rfl) (fun _ => ⟨by rw [idB_len]; decide, by rw [idB_len]; decide⟩)).giveA2 rfl rfl) (by simp only [upd, za, zaa]; exact rfl) ?_
  refine zab rfl rfl rfl (zah [] [] [] rfl (ev1 rfl) (ec (ev1 rfl) en) rfl rfl (takeId_ok (idB wI ++ [9]) okI (by rw [List.length_append, idB_len]; decide) wI [9] tI_ok (by rw [List.length_append, idB_len]; decide)) rfl rfl rfl rfl rfl rfl) ?_
  refine zab rfl rfl rfl (zac (.inl rfl) (ev1 rfl)) ?_
  refine zab rfl rfl rfl (zar rfl (ev1 rfl) rfl) ?_
  refine zab rfl rfl rfl ((zar rfl (ev1 rfl) rfl).cast (d' := .val (.int .i64 17)) (by rw [List.length_append, idB_len]; rfl)) ?_
  refine zab rfl rfl rfl (zar rfl (ev1 rfl) rfl) ?_
  refine zak rfl rfl rfl (zao 4 rfl zr29 rfl) (by simp only [upd, za, zaa]; exact rfl) ?_
  refine walk_s rfl rfl (op_stwa rfl tb29 (ev1 rfl) (ev1 rfl) rfl rfl rfl rfl) (by simp only [upd, za, zaa]; exact rfl) ?_
  refine zab rfl rfl rfl (zac (.inr rfl) (ev1 rfl)) ?_
  refine zab rfl rfl rfl (zac (.inr rfl) (ev1 rfl)) ?_
  refine zae ?_
  refine zaf ?_
  refine zad ?_
  refine zab rfl rfl rfl (op_ldw rfl tb29 (ev1 rfl) rfl rfl) ?_
  refine zab rfl rfl rfl (op_build (ps := [(0, .const (.int .u64 1)), (1, .const (.int .i64 1)), (2, .const (.int .u64 1))]) rfl fl29 zr29 (vc (ev1 rfl) (vc (ev1 rfl) (vc (ev1 rfl) vn))) rfl rfl) ?_
  refine zab rfl rfl rfl (op_build (ps := [(0, .tmp 40), (1, .const (.int .i64 7)), (9, .tmp 41)]) rfl fl47 zr47 (vc (ev1 rfl) (vc (ev1 rfl) (vc (ev1 rfl) vn))) rfl rfl) ?_
  refine zab rfl rfl rfl (zah [] [] [] rfl (ev1 rfl) (ec (evwk (ev1 rfl) wk_wU) en) rfl rfl (cop_ok wU wU_ok) rfl rfl rfl rfl rfl rfl) ?_
  refine zab rfl rfl rfl (zac (.inl rfl) (ev1 rfl)) ?_
  refine zab rfl rfl rfl (zar rfl (ev1 rfl) rfl) ?_
  refine zab rfl rfl rfl (zar rfl (ev1 rfl) rfl) ?_
  refine zab rfl rfl rfl (zac (.inr rfl) (ev1 rfl)) ?_
  refine zab rfl rfl rfl (zac (.inr rfl) (ev1 rfl)) ?_
  refine zae ?_
  refine zaf ?_
  refine zad ?_
  refine zab rfl rfl rfl (op_ldw rfl tb29 (ev1 rfl) rfl rfl) ?_
  refine zab rfl rfl rfl (op_build (ps := [(0, .tmp 47), (1, .const (.int .i64 3))]) rfl fl47 zr47 (vc (ev1 rfl) (vc (ev1 rfl) vn)) rfl rfl) ?_
  refine zab rfl rfl rfl (zah [] [] [] rfl (ev1 rfl) (ec (evwk (ev1 rfl) wk_wR) en) rfl rfl (cop_ok wR wR_ok) rfl rfl rfl rfl rfl rfl) ?_
  refine zab rfl rfl rfl (zac (.inl rfl) (ev1 rfl)) ?_
  refine zab rfl rfl rfl (zar rfl (ev1 rfl) rfl) ?_
  refine zab rfl rfl rfl (zar rfl (ev1 rfl) rfl) ?_
  refine zab rfl rfl rfl (zac (.inr rfl) (ev1 rfl)) ?_
  refine zab rfl rfl rfl (zac (.inr rfl) (ev1 rfl)) ?_
  refine zae ?_
  refine zaf ?_
  refine zaj 1 (by simp only [holes, List.cons_append, List.nil_append]; exact rfl) ?_
  refine zad ?_
  refine zab rfl rfl rfl (op_bs (ps := [(0, .const (.int .u8 9))]) rfl sl30 zr5 rfl (vc (ev1 rfl) vn) rfl (by decide) (by decide)) ?_
  refine zab rfl rfl rfl (zah [] [] [] rfl (ev1 rfl) (ec (ev1 rfl) en) rfl rfl (takeOp_no [9] (okL_one (by decide)) (by decide) 290 t9_err) rfl rfl rfl rfl rfl rfl) ?_
  refine zab rfl rfl rfl (zac (.inl rfl) (ev1 rfl)) ?_
  refine zab rfl rfl rfl (zar rfl (ev1 rfl) rfl) ?_
  refine zab rfl rfl rfl (zar rfl (ev1 rfl) rfl) ?_
  refine zab rfl rfl rfl (zar rfl (ev1 rfl) rfl) ?_
  refine zak rfl rfl rfl (zao 5 rfl zr47 rfl) (by simp only [upd, za, zaa]; exact rfl) ?_
  refine walk_s rfl rfl (op_stwa rfl tb47 (ev1 rfl) (ev1 rfl) rfl rfl rfl rfl) (by simp only [upd, za, zaa]; exact rfl) ?_
  refine zab rfl rfl rfl (zac (.inr rfl) (ev1 rfl)) ?_
  refine zab rfl rfl rfl (zac (.inr rfl) (ev1 rfl)) ?_
  refine zae ?_
  refine zaf ?_
  refine zaj 1 (by simp only [holes, List.cons_append, List.nil_append]; exact rfl) ?_
  refine zad ?_
  refine zab rfl rfl rfl (op_bs (ps := [(0, .const (.int .u8 7))]) rfl sl30 zr5 rfl (vc (ev1 rfl) vn) rfl (by decide) (by decide)) ?_
  refine zab rfl rfl rfl (zah [] [] [] rfl (ev1 rfl) (ec (ev1 rfl) en) rfl rfl (takeOp_no [7] (okL_one (by decide)) (by decide) 110 t7_err) rfl rfl rfl rfl rfl rfl) ?_
  refine zab rfl rfl rfl (zac (.inl rfl) (ev1 rfl)) ?_
  refine zab rfl rfl rfl (zar rfl (ev1 rfl) rfl) ?_
  refine zab rfl rfl rfl (zar rfl (ev1 rfl) rfl) ?_
  refine zab rfl rfl rfl (zar rfl (ev1 rfl) rfl) ?_
  refine zak rfl rfl rfl (zao 6 rfl zr47 rfl) (by simp only [upd, za, zaa]; exact rfl) ?_
  refine walk_s rfl rfl (op_stwa rfl tb47 (ev1 rfl) (ev1 rfl) rfl rfl rfl rfl) (by simp only [upd, za, zaa]; exact rfl) ?_
  refine zab rfl rfl rfl (zac (.inr rfl) (ev1 rfl)) ?_
  refine zab rfl rfl rfl (zac (.inr rfl) (ev1 rfl)) ?_
  refine zae ?_
  refine zaf ?_
  refine zad ?_
  refine zab rfl rfl rfl (op_bs (ps := [(0, .const (.int .u8 65))]) rfl sl30 zr5 rfl (vc (ev1 rfl) vn) rfl (by decide) (by decide)) ?_
  refine zab rfl rfl rfl (zah [] [] [] rfl (ev1 rfl) (ec (ev1 rfl) en) rfl rfl (takeOps_no [65] (okL_one (by decide)) (by decide) 290 t65_err) rfl rfl rfl rfl rfl rfl) ?_
  refine zab rfl rfl rfl (zac (.inl rfl) (ev1 rfl)) ?_
  refine zab rfl rfl rfl (zar rfl (ev1 rfl) rfl) ?_
  refine zab rfl rfl rfl (zar rfl (ev1 rfl) rfl) ?_
  refine zab rfl rfl rfl (zar rfl (ev1 rfl) rfl) ?_
  refine zab rfl rfl rfl (zac (.inr rfl) (ev1 rfl)) ?_
  refine zab rfl rfl rfl (zac (.inr rfl) (ev1 rfl)) ?_
  refine zab rfl rfl rfl (zac (.inr rfl) (ev1 rfl)) ?_
  refine zae ?_
  refine zaf ?_
  refine zad ?_
  refine zab rfl rfl rfl (zah [] [] [] rfl (ev1 rfl) (ec (evwk (ev1 rfl) (Wk.slm0 19)) en) rfl rfl (cops_ok [] (by decide) (fun o h => by cases h)) rfl rfl rfl rfl rfl rfl) ?_
  refine zab rfl rfl rfl (zac (.inl rfl) (ev1 rfl)) ?_
  refine zab rfl rfl rfl (zar rfl (ev1 rfl) rfl) ?_
  refine zab rfl rfl rfl (zar rfl (ev1 rfl) rfl) ?_
  refine zab rfl rfl rfl (zac (.inr rfl) (ev1 rfl)) ?_
  refine zab rfl rfl rfl (zac (.inr rfl) (ev1 rfl)) ?_
  refine zae ?_
  refine zaf ?_
  refine zad ?_
  refine zab rfl rfl rfl (zac (.inl rfl) (ev1 rfl)) ?_
  refine zab rfl rfl rfl ((op_eql rfl (ev1 rfl) (ev1 rfl)).cast (d' := .val (.bool true)) (by kernel_rfl)) ?_
  refine zab rfl rfl rfl (zac (.inl rfl) (ev1 rfl)) ?_
  refine zai (gd_t (b := true) rfl rfl rfl) rfl rfl rfl (zac (.inl rfl) (ev1 rfl)) (by simp only [upd, za, zaa]; exact rfl) ?_
  refine zai (gd_t (b := true) rfl rfl rfl) rfl rfl rfl ((op_eql rfl (ev2 rfl) (ev1 rfl)).cast (d' := .val (.bool true)) (by kernel_rfl)) (by simp only [upd, za, zaa]; exact rfl) ?_
  refine zab rfl rfl rfl ((op_and rfl (ev1 rfl) (ev3 rfl (fun _ => rfl))).cast (d' := .val (.bool true)) (by rfl)) ?_
  refine zab rfl rfl rfl (zac (.inl rfl) (ev1 rfl)) ?_
  refine zai (gd_t (b := true) rfl rfl rfl) rfl rfl rfl (zac (.inl rfl) (ev1 rfl)) (by simp only [upd, za, zaa]; exact rfl) ?_
  refine zai (gd_t (b := true) rfl rfl rfl) rfl rfl rfl ((op_eql rfl (ev2 rfl) (ev1 rfl)).cast (d' := .val (.bool true)) (by kernel_rfl)) (by simp only [upd, za, zaa]; exact rfl) ?_
  refine zab rfl rfl rfl ((op_and rfl (ev1 rfl) (ev3 rfl (fun _ => rfl))).cast (d' := .val (.bool true)) (by rfl)) ?_
  refine zab rfl rfl rfl (zac (.inl rfl) (ev1 rfl)) ?_
  refine zai (gd_t (b := true) rfl rfl rfl) rfl rfl rfl (zac (.inl rfl) (ev1 rfl)) (by simp only [upd, za, zaa]; exact rfl) ?_
  refine zai (gd_t (b := true) rfl rfl rfl) rfl rfl rfl ((op_eql rfl (ev2 rfl) (ev1 rfl)).cast (d' := .val (.bool true)) (by kernel_rfl)) (by simp only [upd, za, zaa]; exact rfl) ?_
  refine zab rfl rfl rfl ((op_and rfl (ev1 rfl) (ev3 rfl (fun _ => rfl))).cast (d' := .val (.bool true)) (by rfl)) ?_
  refine zab rfl rfl rfl (zac (.inl rfl) (ev1 rfl)) ?_
  refine zai (gd_t (b := true) rfl rfl rfl) rfl rfl rfl (zac (.inl rfl) (ev1 rfl)) (by simp only [upd, za, zaa]; exact rfl) ?_
  refine zai (gd_t (b := true) rfl rfl rfl) rfl rfl rfl ((op_eql rfl (ev2 rfl) (ev1 rfl)).cast (d' := .val (.bool true)) (by kernel_rfl)) (by simp only [upd, za, zaa]; exact rfl) ?_
  refine zab rfl rfl rfl ((op_and rfl (ev1 rfl) (ev3 rfl (fun _ => rfl))).cast (d' := .val (.bool true)) (by rfl)) ?_
  refine zab rfl rfl rfl (zac (.inl rfl) (ev1 rfl)) ?_
  refine zai (gd_t (b := true) rfl rfl rfl) rfl rfl rfl (zac (.inl rfl) (ev1 rfl)) (by simp only [upd, za, zaa]; exact rfl) ?_
  refine zai (gd_t (b := true) rfl rfl rfl) rfl rfl rfl ((op_len rfl sl30 (ev2 rfl)).cast (d' := .val (.int .i64 17)) (by rw [idB_len]; rfl)) (by simp only [upd, za, zaa]; exact rfl) ?_
  refine zai (gd_t (b := true) rfl rfl rfl) rfl rfl rfl ((op_eql rfl (ev2 rfl) (ev1 rfl)).cast (d' := .val (.bool true)) (by kernel_rfl)) (by simp only [upd, za, zaa]; exact rfl) ?_
  refine zab rfl rfl rfl ((op_and rfl (ev1 rfl) (ev3 rfl (fun _ => rfl))).cast (d' := .val (.bool true)) (by rfl)) ?_
  refine zab rfl rfl rfl (zac (.inl rfl) (ev1 rfl)) ?_
  refine zai (gd_t (b := true) rfl rfl rfl) rfl rfl rfl (op_ldw rfl tb29 (ev1 rfl) rfl rfl) (by simp only [upd, za, zaa]; exact rfl) ?_
  refine zai (gd_t (b := true) rfl rfl rfl) rfl rfl rfl (op_ldw rfl tb29 (ev1 rfl) rfl rfl) (by simp only [upd, za, zaa]; exact rfl) ?_
  refine zai (gd_t (b := true) rfl rfl rfl) rfl rfl rfl ((op_eqr eq29 rfl gd29 tb29 (ev2 rfl) (ev2 rfl)).cast (d' := .val (.bool true)) (by kernel_rfl)) (by simp only [upd, za, zaa]; exact rfl) ?_
  refine zab rfl rfl rfl ((op_and rfl (ev1 rfl) (ev3 rfl (fun _ => rfl))).cast (d' := .val (.bool true)) (by rfl)) ?_
  refine zab rfl rfl rfl (zac (.inl rfl) (ev1 rfl)) ?_
  refine zai (gd_t (b := true) rfl rfl rfl) rfl rfl rfl (zac (.inl rfl) (ev1 rfl)) (by simp only [upd, za, zaa]; exact rfl) ?_
  refine zai (gd_t (b := true) rfl rfl rfl) rfl rfl rfl ((op_eql rfl (ev2 rfl) (ev1 rfl)).cast (d' := .val (.bool true)) (by kernel_rfl)) (by simp only [upd, za, zaa]; exact rfl) ?_
  refine zab rfl rfl rfl ((op_and rfl (ev1 rfl) (ev3 rfl (fun _ => rfl))).cast (d' := .val (.bool true)) (by rfl)) ?_
  refine zab rfl rfl rfl (zac (.inl rfl) (ev1 rfl)) ?_
  refine zai (gd_t (b := true) rfl rfl rfl) rfl rfl rfl (zac (.inl rfl) (ev1 rfl)) (by simp only [upd, za, zaa]; exact rfl) ?_
  refine zai (gd_t (b := true) rfl rfl rfl) rfl rfl rfl ((op_len rfl sl30 (ev2 rfl)).cast (d' := .val (.int .i64 35)) (by rw [wU_len]; rfl)) (by simp only [upd, za, zaa]; exact rfl) ?_
  refine zai (gd_t (b := true) rfl rfl rfl) rfl rfl rfl ((op_eql rfl (ev2 rfl) (ev1 rfl)).cast (d' := .val (.bool true)) (by kernel_rfl)) (by simp only [upd, za, zaa]; exact rfl) ?_
  refine zab rfl rfl rfl ((op_and rfl (ev1 rfl) (ev3 rfl (fun _ => rfl))).cast (d' := .val (.bool true)) (by rfl)) ?_
  refine zab rfl rfl rfl (zac (.inl rfl) (ev1 rfl)) ?_
  refine zai (gd_t (b := true) rfl rfl rfl) rfl rfl rfl (zac (.inl rfl) (ev1 rfl)) (by simp only [upd, za, zaa]; exact rfl) ?_
  refine zai (gd_t (b := true) rfl rfl rfl) rfl rfl rfl ((op_len rfl sl30 (ev2 rfl)).cast (d' := .val (.int .i64 26)) (by rw [wR_len]; rfl)) (by simp only [upd, za, zaa]; exact rfl) ?_
  refine zai (gd_t (b := true) rfl rfl rfl) rfl rfl rfl ((op_eql rfl (ev2 rfl) (ev1 rfl)).cast (d' := .val (.bool true)) (by kernel_rfl)) (by simp only [upd, za, zaa]; exact rfl) ?_
  refine zab rfl rfl rfl ((op_and rfl (ev1 rfl) (ev3 rfl (fun _ => rfl))).cast (d' := .val (.bool true)) (by rfl)) ?_
  refine zab rfl rfl rfl (zac (.inl rfl) (ev1 rfl)) ?_
  refine zai (gd_t (b := true) rfl rfl rfl) rfl rfl rfl (zac (.inl rfl) (ev1 rfl)) (by simp only [upd, za, zaa]; exact rfl) ?_
  refine zai (gd_t (b := true) rfl rfl rfl) rfl rfl rfl ((op_eql rfl (ev2 rfl) (ev1 rfl)).cast (d' := .val (.bool true)) (by kernel_rfl)) (by simp only [upd, za, zaa]; exact rfl) ?_
  refine zab rfl rfl rfl ((op_and rfl (ev1 rfl) (ev3 rfl (fun _ => rfl))).cast (d' := .val (.bool true)) (by rfl)) ?_
  refine zab rfl rfl rfl (zac (.inl rfl) (ev1 rfl)) ?_
  refine zai (gd_t (b := true) rfl rfl rfl) rfl rfl rfl (zac (.inl rfl) (ev1 rfl)) (by simp only [upd, za, zaa]; exact rfl) ?_
  refine zai (gd_t (b := true) rfl rfl rfl) rfl rfl rfl ((op_eql rfl (ev2 rfl) (ev1 rfl)).cast (d' := .val (.bool true)) (by kernel_rfl)) (by simp only [upd, za, zaa]; exact rfl) ?_
  refine zab rfl rfl rfl ((op_and rfl (ev1 rfl) (ev3 rfl (fun _ => rfl))).cast (d' := .val (.bool true)) (by rfl)) ?_
  refine zab rfl rfl rfl (zac (.inl rfl) (ev1 rfl)) ?_
  refine zai (gd_t (b := true) rfl rfl rfl) rfl rfl rfl (zac (.inl rfl) (ev1 rfl)) (by simp only [upd, za, zaa]; exact rfl) ?_
  refine zai (gd_t (b := true) rfl rfl rfl) rfl rfl rfl ((op_eql rfl (ev2 rfl) (ev1 rfl)).cast (d' := .val (.bool true)) (by kernel_rfl)) (by simp only [upd, za, zaa]; exact rfl) ?_
  refine zab rfl rfl rfl ((op_and rfl (ev1 rfl) (ev3 rfl (fun _ => rfl))).cast (d' := .val (.bool true)) (by rfl)) ?_
  refine zab rfl rfl rfl (zac (.inl rfl) (ev1 rfl)) ?_
  refine zai (gd_t (b := true) rfl rfl rfl) rfl rfl rfl (zac (.inl rfl) (ev1 rfl)) (by simp only [upd, za, zaa]; exact rfl) ?_
  refine zai (gd_t (b := true) rfl rfl rfl) rfl rfl rfl (op_bs (ps := [(0, .const (.int .u8 0))]) rfl sl30 zr5 rfl (vc (ev1 rfl) vn) rfl (by decide) (by decide)) (by simp only [upd, za, zaa]; exact rfl) ?_
  refine zai (gd_t (b := true) rfl rfl rfl) rfl rfl rfl ((zah [] [] [] rfl (ev1 rfl) (ec (ev2 rfl) (ec (ev2 rfl) en)) rfl rfl (equalB (rowL []) [0]) rfl rfl rfl rfl rfl rfl).cast (d' := .val (.bool true)) (by rw [rowL_nil]; rfl)) (by simp only [upd, za, zaa]; exact rfl) ?_
  refine zab rfl rfl rfl ((op_and rfl (ev1 rfl) (ev3 rfl (fun _ => rfl))).cast (d' := .val (.bool true)) (by rfl)) ?_
  refine zab rfl rfl rfl (zac (.inr rfl) (ev1 rfl)) ?_
  refine zae ?_
  refine zan ?_
  refine kend0 (rs1 rfl (rv_t rfl)) rfl ?_
  rfl
end Go.Proofs.YtmacjicebemgoaaGreat
namespace Go.Proofs.YtmacjicebemgoaaGreat
set_option linter.unusedVariables false
set_option linter.unusedSimpArgs false
open Go.RowKit
open Go.ChangeShapes Go.WideShapes Go.ChangeAt Go.Joins Go.Deep
theorem fits_b {v : Value} (h : (Prim.int .u8).is v) : ∃ a : Int, (0 ≤ a ∧ a ≤ 255) ∧ v = .int .u8 a := by
  obtain ⟨x, rfl, w⟩ := h
  exact ⟨x, by simpa [Lit.wf, IntKind.min, IntKind.max, IntKind.signed, IntKind.bits] using w, rfl⟩
theorem fits_u8 : ∀ cs, fitsP [.int .u8] cs → ∃ p : Int, (0 ≤ p ∧ p ≤ 255) ∧ cs = uc8 p
  | [c0], h => by
    obtain ⟨h0, _⟩ := h
    obtain ⟨x0, w0, rfl⟩ := fits_b h0
    exact ⟨x0, w0, rfl⟩
  | [], h => by cases h
  | _ :: _ :: _, h => by obtain ⟨_, h⟩ := h; cases h
end Go.Proofs.YtmacjicebemgoaaGreat
