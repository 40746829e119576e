/- what the laws begin with, walked; what holds ahead of each law; what holds ahead of each law, walked; arguments that are opened. No condition. -/
import Derived.Test.YtmpodnadoebclaaQ4
import Derived.Test.YtmpodnadoebclaaRows
namespace Go.Proofs.Ytmpodnadoebclaa
set_option maxRecDepth 4000
set_option linter.unusedVariables false
set_option linter.unusedSimpArgs false
open Go.RowKit
theorem fl35 : fdL Try.prog 35 = some [(0, 1), (1, 1), (2, 1)] := by kernel_rfl
theorem fl93 : fdL Try.prog 93 = some [(0, 1), (1, 1), (2, 4)] := by kernel_rfl
theorem kn5 : knd Try.prog 5 = some .u8 := by kernel_rfl
set_option maxRecDepth 4000 in
set_option maxHeartbeats 1000000 in
theorem id_d (t : Int) : DFun Try.prog 20 [.val (.int .u64 t)] [] (.val (.agg (idc ⟨t, 1, 1⟩).toArray)) [] := by
  refine zao (N := 5) 0 (by kernel_rfl) Try.func20 rfl rfl rfl (by simp only [fr0, Nat.zero_add, Nat.reduceAdd]; exact rfl) rfl fun s0 hs0 => ?_
  refine zae ?_
  refine zak 1 (by simp only [holes, List.cons_append, List.nil_append]; exact rfl) ?_
  refine zad ?_
  refine zan rfl rfl rfl (op_alloc 0 rfl zr35 rfl) (by simp only [upd, za, zaa]; exact rfl) ?_
  refine zaf ?_
  refine zae ?_
  refine zad ?_
  refine zab rfl rfl rfl (zac (.inl rfl) (ev1 rfl)) ?_
  refine zab rfl rfl rfl (op_build (ps := [(0, .tmp 3), (1, .const (.int .i64 1)), (2, .const (.int .u64 1))]) rfl fl35 zr35 (vc (ev1 rfl) (vc (ev1 rfl) (vc (ev1 rfl) vn))) rfl rfl) ?_
  refine walk_s rfl rfl (op_stwa rfl tb35 (ev1 rfl) (ev1 rfl) rfl rfl rfl rfl) (by simp only [upd, za, zaa]; exact rfl) ?_
  refine zaf ?_
  refine dwp_ret ?_
  refine kend0 (rs1 rfl (rv_w tb35 rfl rfl rfl)) rfl ?_
  rfl
set_option maxRecDepth 4000 in
set_option maxHeartbeats 1000000 in
theorem painted_d (n : Int) : DFun Try.prog 19 [.val (.int .i64 n)] [] (cvD 2 1 (pipR (pnT n))) [] := by
  refine zao (N := 23) 0 (by kernel_rfl) Try.func19 rfl rfl rfl (by simp only [fr0, Nat.zero_add, Nat.reduceAdd]; exact rfl) rfl fun s0 hs0 => ?_
  refine zae ?_
  refine zad ?_
  refine zab rfl rfl rfl (zac (.inr rfl) (ev1 rfl)) ?_
  refine zaf ?_
  refine zae ?_
  refine zad ?_
  refine zab rfl rfl rfl (zah [] [] [] rfl (ev1 rfl) (ec (ev1 rfl) (ec (ev1 rfl) en)) rfl rfl (cnew_p) rfl rfl rfl rfl rfl rfl) ?_
  refine zab rfl rfl rfl (zac (.inl rfl) (ev1 rfl)) ?_
  refine zab rfl rfl rfl (op_ext rfl (ev1 rfl) rfl) ?_
  refine zab rfl rfl rfl (op_ext rfl (ev1 rfl) rfl) ?_
  refine zab rfl rfl rfl (zac (.inr rfl) (ev1 rfl)) ?_
  refine zab rfl rfl rfl (zac (.inr rfl) (ev1 rfl)) ?_
  refine zaf ?_
  refine zae ?_
  refine zae ?_
  refine zad ?_
  refine zab rfl rfl rfl (zac (.inl rfl) (ev1 rfl)) ?_
  refine zab rfl rfl rfl ((op_neq rfl (ev1 rfl) (ev1 rfl)).cast (d' := .val (.bool false)) (by kernel_rfl)) ?_
  refine zaf ?_
  refine dwp_if_f rfl (by rfl) ?_
  refine zal ?_
  refine zae ?_
  refine zad ?_
  refine zab rfl rfl rfl (zac (.inl rfl) (ev1 rfl)) ?_
  refine zab rfl rfl rfl (zac (.inl rfl) (ev1 rfl)) ?_
  refine zab rfl rfl rfl (op_iand rfl (ev1 rfl) (ev1 rfl)) ?_
  refine zab rfl rfl rfl (zac (.inl rfl) (ev1 rfl)) ?_
  refine zab rfl rfl rfl (op_shr (4) rfl (ev1 rfl) (ev1 rfl) (fun _ => ⟨rfl, by decide⟩)) ?_
  refine zab rfl rfl rfl (op_iand rfl (ev1 rfl) (ev1 rfl)) ?_
  refine zab rfl rfl rfl (zac (.inl rfl) (ev1 rfl)) ?_
  refine zab rfl rfl rfl (op_conv ty3 kn5 rfl (ev1 rfl)) ?_
  refine zab rfl rfl rfl (op_build (ps := [(0, .tmp 18), (3, .const (.int .u8 255))]) rfl fl87 zr87 (vc (ev1 rfl) (vc (ev1 rfl) vn)) rfl rfl) ?_
  refine zab rfl rfl rfl (op_build (ps := [(0, .tmp 13), (1, .tmp 16), (2, .tmp 19)]) rfl fl93 zr93 (vc (ev1 rfl) (vc (ev1 rfl) (vc (ev1 rfl) vn))) rfl rfl) ?_
  refine zab rfl rfl rfl (op_bs (ps := [(0, .tmp 20)]) rfl sl118 zr93 rfl (vc (ev1 rfl) vn) rfl (by decide) (by decide)) ?_
  refine zab rfl rfl rfl (zah [] [] [] rfl (ev1 rfl) (ec (ev1 rfl) (ec (ev1 rfl) en)) rfl rfl (with_p 2 1 _ two_ok [dotN n]) rfl rfl rfl rfl rfl rfl) ?_
  refine zab rfl rfl rfl (zac (.inr rfl) (ev1 rfl)) ?_
  refine zaf ?_
  refine dwp_ret ?_
  refine kend0 (rs1 rfl (rv_t rfl)) rfl ?_
  rfl
set_option maxRecDepth 4000 in
set_option maxHeartbeats 1000000 in
theorem row_o (l : List I3) (b : Int) (h : l.length ≤ 1000) (hb : 0 ≤ b ∧ b ≤ 1000) : DFun Try.prog 10 [.slf 3 l.length (l.flatMap idc), .val (.int .i64 b)] [] (.arr 0) [.arx 44 4 ((rowM l b)).length (((rowM l b)).flatMap mkC)] := by
  refine zao (N := 26) 0 (by kernel_rfl) Try.func10 rfl rfl rfl (by simp only [fr0, Nat.zero_add, Nat.reduceAdd]; exact rfl) rfl fun s0 hs0 => ?_
  refine dwp_len (t := 0) rfl fun hl0 hL0 => ?_
  refine zae ?_
  refine zad ?_
  refine zab rfl rfl rfl (zac (.inr rfl) (ev1 rfl)) ?_
  refine zaf ?_
  refine zae ?_
  refine zad ?_
  refine zab rfl rfl rfl (zac (.inr rfl) (ev1 rfl)) ?_
  refine zaf ?_
  refine zae ?_
  refine zae ?_
  refine zad ?_
  refine zab rfl rfl rfl (zac (.inl rfl) (ev1 rfl)) ?_
  refine zab rfl rfl rfl (op_len rfl sl22 (ev1 rfl)) ?_
  refine zab rfl rfl rfl (zac (.inl rfl) (ev1 rfl)) ?_
  refine zaf ?_
  refine zam ?_
  refine dwp_adoptx 5 44 4 rfl rfl rfl ?_
  refine dwp_loopS ⟨hs0, rfl⟩ (α := Nat) (fun k => [(10, .val (.int .i64 (k : Int)))]) [(1, _), (5, _), (8, _), (9, _)] (fun k => [(0, .arx 44 4 ((rowT l b k)).length (((rowT l b k)).flatMap mkC))]) [.hole] (fun k => k ≤ l.length) (fun k => l.length - k) 0 [0] (Nat.zero_le _) rfl ⟨rfl, rfl, rfl, rfl, trivial⟩ ⟨rfl, trivial⟩ ⟨rfl, trivial⟩ ?_
  intro k hx
  simp only [upd, za, zaa, List.cons_append, List.nil_append]
  have hk := hx
  have hrl := rowT_len l b k
  refine zae ?_
  refine zad ?_
  refine zab rfl rfl rfl (op_lss rfl (ev1 rfl) (ev1 rfl)) ?_
  refine zaf ?_
  refine zae ?_
  refine dwp_cond rfl (fun c1 => ?_) (fun c1 => ?_)
  · try simp only [decide_eq_true_eq, decide_eq_false_iff_not, beq_iff_eq, bne_iff_ne, beq_eq_false_iff_ne, bne_eq_false_iff_eq, Bool.not_eq_true', Bool.not_eq_false', Bool.and_eq_true, Bool.or_eq_true, Bool.or_eq_false_iff, ne_eq, Decidable.not_not, Int.not_lt, Int.not_le] at c1
    refine zal ?_
    refine zae ?_
    refine zam ?_
    refine zae ?_
    refine zak 1 (by simp only [holes, List.cons_append, List.nil_append]; exact rfl) ?_
    refine zad ?_
    refine zab rfl rfl rfl (zac (.inl rfl) (ev1 rfl)) ?_
    refine zab rfl rfl rfl (op_ixsr (j := k) rfl sl22 (ev1 rfl) (ev1 rfl) (fun _ => rfl) (by decide) (by omega) (by omega)) ?_
    refine zab rfl rfl rfl (op_ldwd rfl tb35 (ev1 rfl) rfl) ?_
    refine zan rfl rfl rfl (op_alloc 1 rfl zr35 rfl) (by simp only [upd, za, zaa]; exact rfl) ?_
    refine zab rfl rfl rfl (zac (.inr rfl) (ev1 rfl)) ?_
    refine walk_s rfl rfl (op_stwa rfl tb35 (ev1 rfl) (ev1 rfl) rfl rfl rfl rfl) (by simp only [upd, za, zaa]; exact rfl) ?_
    refine zaf ?_
    refine zak 1 (by simp only [holes, List.cons_append, List.nil_append]; exact rfl) ?_
    refine dwp_draw [([], []), ([1], []), ([], []), ([], []), ([], []), ([], []), ([], []), ([], []), ([0, 2], [0, 2]), ([], [])] mixed (by kernel_rfl) ?_
    refine zag rfl rfl (zac (.inl rfl) (ev1 rfl)) ?_
    refine zag rfl rfl (op_ldw rfl tb35 (ev1 rfl) rfl rfl) ?_
    refine zag rfl rfl (zac (.inl rfl) (ev1 rfl)) ?_
    refine zag rfl rfl (zac (.inl rfl) (ev1 rfl)) ?_
    refine zag rfl rfl (op_add' rfl (ev1 rfl) (ev1 rfl) (fun _ => IntWalk.i64_in _ (by omega))) ?_
    refine zag rfl rfl (zah [] [] [] rfl (ev1 rfl) (ec (ev1 rfl) en) rfl rfl (painted_d (b + (k : Int))) rfl rfl rfl rfl rfl rfl) ?_
    refine zag rfl rfl (op_bldD (ps := [(0, .tmp 16), (1, .tmp 20)]) rfl fl44 zr44 (ec (ev1 rfl) (ec (ev1 rfl) en)) rfl rfl rfl) ?_
    refine zag rfl rfl (op_bsr (ps := [(0, .tmp 21)]) rfl sl26 zr44 rfl (ec (ev1 rfl) en) rfl rfl rfl (by rfl) rfl (by decide) (by decide)) ?_
    refine lex_w rfl rfl (op_appr (j := 2) rfl sl26 zr44 rfl (ev1 rfl) (ev1 rfl) rfl rfl (rfl) (fun _ => ⟨by omega, by omega⟩)) rfl (by simp only [upd, za, zaa]; exact rfl) ?_
    refine zag rfl rfl (zac (.inr rfl) (ev1 rfl)) ?_
    refine lex_nil ?_
    refine zad ?_
    refine zab rfl rfl rfl (op_add' rfl (ev1 rfl) (ev1 rfl) (fun _ => IntWalk.i64_in _ (by omega))) ?_
    refine zab rfl rfl rfl (zac (.inl rfl) (ev1 rfl)) ?_
    refine zaf ?_
    refine ⟨k + 1, [2], by omega, by simp only []; omega, rfl, ⟨rfl, rfl, rfl, rfl, rfl, trivial⟩, ⟨arxr_fits (by rw [rowT_add (by omega), List.length_append]; rfl) (by rw [rowT_add (by omega), List.flatMap_append]; rfl) (mk_nl _), trivial⟩⟩
  · try simp only [decide_eq_true_eq, decide_eq_false_iff_not, beq_iff_eq, bne_iff_ne, beq_eq_false_iff_ne, bne_eq_false_iff_eq, Bool.not_eq_true', Bool.not_eq_false', Bool.and_eq_true, Bool.or_eq_true, Bool.or_eq_false_iff, ne_eq, Decidable.not_not, Int.not_lt, Int.not_le] at c1
    refine dwp_exit ?_
    refine zae ?_
    refine zad ?_
    refine zab rfl rfl rfl (zac (.inl rfl) (ev1 rfl)) ?_
    refine zab rfl rfl rfl (zac (.inr rfl) (ev1 rfl)) ?_
    refine zaf ?_
    refine dwp_ret ?_
    have e1 : k = l.length := by omega
    subst e1
    refine kend [0] (rs1 rfl (rv_t rfl)) rfl rfl ?_ ⟨?_, trivial⟩
    rfl
    exact arxr_fits (by rw [rowM_len, rowT_len]) rfl (mk_nl _)
theorem row_d (l : List I3) (b : Int) (h : l.length ≤ 1000) (hb : 0 ≤ b ∧ b ≤ 1000) : DFun Try.prog 10 [.slf 3 l.length (l.flatMap idc), .val (.int .i64 b)] [] (.slm 4 (rowM l b).length ((rowM l b).flatMap mkC)) [] := freeze (row_o l b h hb) (vw_arrV rfl rfl rfl (mk_nl _))
end Go.Proofs.Ytmpodnadoebclaa
namespace Go.Proofs.Ytmpodnadoebclaa
set_option maxRecDepth 4000
set_option linter.unusedVariables false
set_option linter.unusedSimpArgs false
open Go.RowKit
def wI6 : List I3 := [⟨1, 1, 1⟩, ⟨2, 1, 1⟩, ⟨3, 1, 1⟩, ⟨4, 1, 1⟩, ⟨5, 1, 1⟩, ⟨6, 1, 1⟩]
def wI7 : List I3 := [⟨10, 1, 1⟩, ⟨20, 1, 1⟩, ⟨21, 1, 1⟩, ⟨30, 1, 1⟩, ⟨40, 1, 1⟩, ⟨50, 1, 1⟩, ⟨60, 1, 1⟩]
def wM6 : List Mk := ptL [] (rowM wI6 0)
def wN7 : List Mk := ptL wM6 (rowM [⟨7, 1, 1⟩] 9)
def wO7 : List Mk := ptL [] (rowM wI7 0)
theorem wc0 : chkM [] = true := by kernel_rfl
theorem wa6 : (rowM wI6 0).all isMk = true := by kernel_rfl
theorem wa7 : (rowM wI7 0).all isMk = true := by kernel_rfl
theorem wa1 : (rowM [⟨7, 1, 1⟩] 9).all isMk = true := by kernel_rfl
theorem wc6 : chkM wM6 = true := by kernel_rfl
theorem wl6 : wM6.length = 6 := by kernel_rfl
theorem wl7 : wN7.length = 6 := by kernel_rfl
theorem wlo : wO7.length = 6 := by kernel_rfl
theorem wb4 : bN wM6 ⟨4, 1, 1⟩ = 3 := by kernel_rfl
theorem wb1 : bN wM6 ⟨1, 1, 1⟩ = 0 := by kernel_rfl
def wMk : Mk := wM6.getD 2 zMk
theorem wput6 : DFun Try.prog 16 [.slm 4 ([] : List Mk).length (([] : List Mk).flatMap mkC), .slm 4 (rowM wI6 0).length ((rowM wI6 0).flatMap mkC)] [] (.tup [.slm 4 (wM6).length ((wM6).flatMap mkC), .val (.int .i64 0)]) [] := mput_d [] (rowM wI6 0) (by decide) (by rw [rowM_len]; decide) wc0 wa6
theorem wput7 : DFun Try.prog 16 [.slm 4 ([] : List Mk).length (([] : List Mk).flatMap mkC), .slm 4 (rowM wI7 0).length ((rowM wI7 0).flatMap mkC)] [] (.tup [.slm 4 (wO7).length ((wO7).flatMap mkC), .val (.int .i64 0)]) [] := mput_d [] (rowM wI7 0) (by decide) (by rw [rowM_len]; decide) wc0 wa7
theorem wput1 : DFun Try.prog 16 [.slm 4 (wM6).length ((wM6).flatMap mkC), .slm 4 (rowM [⟨7, 1, 1⟩] 9).length ((rowM [⟨7, 1, 1⟩] 9).flatMap mkC)] [] (.tup [.slm 4 (wN7).length ((wN7).flatMap mkC), .val (.int .i64 0)]) [] := mput_d wM6 _ (by rw [wl6]; decide) (by rw [rowM_len]; decide) wc6 wa1
theorem wbel4 : DFun Try.prog 21 [.slm 4 (wM6).length ((wM6).flatMap mkC), .val (.agg (idc ⟨4, 1, 1⟩).toArray)] [] (.tup [.agg (mkC wMk), .val (.bool true)]) [] := by
  have h := below_p wM6 (by rw [wl6]; decide) ⟨4, 1, 1⟩ wc6 (by rw [wb4]; decide)
  rw [wb4] at h
  exact h
theorem wbel1 : DFun Try.prog 21 [.slm 4 (wM6).length ((wM6).flatMap mkC), .val (.agg (idc ⟨1, 1, 1⟩).toArray)] [] (.tup [.agg [.val (.int .u64 0), .val (.int .i64 0), .val (.int .u64 0), .val (.pointer none)], .val (.bool false)]) [] := below_0 wM6 (by rw [wl6]; decide) ⟨1, 1, 1⟩ wc6 wb1
end Go.Proofs.Ytmpodnadoebclaa
namespace Go.Proofs.Ytmpodnadoebclaa
set_option maxRecDepth 4000
set_option linter.unusedVariables false
set_option linter.unusedSimpArgs false
open Go.RowKit
attribute [local irreducible] wM6 wN7 wO7 wMk rowM
set_option maxRecDepth 4000 in
set_option maxHeartbeats 1000000 in
theorem wakes_d : DFun Try.prog 8 [] [] (.val (.bool true)) [] := by
  refine zao (N := 139) 0 (by kernel_rfl) Try.func8 rfl rfl rfl (by simp only [fr0, Nat.zero_add, Nat.reduceAdd]; exact rfl) rfl fun s0 hs0 => ?_
  refine zae ?_
  refine zad ?_
  refine zab rfl rfl rfl (zac (.inr rfl) (ev1 rfl)) ?_
  refine zaf ?_
  refine zae ?_
  refine zad ?_
  refine zab rfl rfl rfl (zah [] [] [] rfl (ev1 rfl) (ec (ev1 rfl) en) rfl rfl (id_d _) rfl rfl rfl rfl rfl rfl) ?_
  refine zab rfl rfl rfl (zah [] [] [] rfl (ev1 rfl) (ec (ev1 rfl) en) rfl rfl (id_d _) rfl rfl rfl rfl rfl rfl) ?_
  refine zab rfl rfl rfl (zah [] [] [] rfl (ev1 rfl) (ec (ev1 rfl) en) rfl rfl (id_d _) rfl rfl rfl rfl rfl rfl) ?_
  refine zab rfl rfl rfl (zah [] [] [] rfl (ev1 rfl) (ec (ev1 rfl) en) rfl rfl (id_d _) rfl rfl rfl rfl rfl rfl) ?_
  refine zab rfl rfl rfl (zah [] [] [] rfl (ev1 rfl) (ec (ev1 rfl) en) rfl rfl (id_d _) rfl rfl rfl rfl rfl rfl) ?_
  refine zab rfl rfl rfl (zah [] [] [] rfl (ev1 rfl) (ec (ev1 rfl) en) rfl rfl (id_d _) rfl rfl rfl rfl rfl rfl) ?_
  refine zab rfl rfl rfl (op_bs (ps := [(0, .tmp 13), (1, .tmp 14), (2, .tmp 15), (3, .tmp 16), (4, .tmp 17), (5, .tmp 18)]) rfl sl22 zr35 rfl (vc (ev1 rfl) (vc (ev1 rfl) (vc (ev1 rfl) (vc (ev1 rfl) (vc (ev1 rfl) (vc (ev1 rfl) vn)))))) rfl (by decide) (by decide)) ?_
  refine zab rfl rfl rfl (zah [] [] [] rfl (ev1 rfl) (ec (ev1 rfl) (ec (ev1 rfl) en)) rfl rfl (row_d wI6 0 (by decide) (by decide)) rfl rfl rfl rfl rfl rfl) ?_
  refine zab rfl rfl rfl (zah [] [] [] rfl (ev1 rfl) (ec (evwk (ev1 rfl) (Wk.slm0 4)) (ec (ev1 rfl) en)) rfl rfl (wput6) rfl rfl rfl rfl rfl rfl) ?_
  refine zab rfl rfl rfl (zac (.inl rfl) (ev1 rfl)) ?_
  refine zab rfl rfl rfl (op_ext rfl (ev1 rfl) rfl) ?_
  refine zab rfl rfl rfl (op_ext rfl (ev1 rfl) rfl) ?_
  refine zab rfl rfl rfl (zac (.inr rfl) (ev1 rfl)) ?_
  refine zab rfl rfl rfl (zac (.inr rfl) (ev1 rfl)) ?_
  refine zaf ?_
  refine zae ?_
  refine zad ?_
  refine zab rfl rfl rfl (zac (.inl rfl) (ev1 rfl)) ?_
  refine zab rfl rfl rfl (zah [] [] [] rfl (ev1 rfl) (ec (ev1 rfl) en) rfl rfl (id_d _) rfl rfl rfl rfl rfl rfl) ?_
  refine zab rfl rfl rfl (op_bs (ps := [(0, .tmp 26)]) rfl sl22 zr35 rfl (vc (ev1 rfl) vn) rfl (by decide) (by decide)) ?_
  refine zab rfl rfl rfl (zah [] [] [] rfl (ev1 rfl) (ec (ev1 rfl) (ec (ev1 rfl) en)) rfl rfl (row_d [⟨7, 1, 1⟩] 9 (by decide) (by decide)) rfl rfl rfl rfl rfl rfl) ?_
  refine zab rfl rfl rfl (zah [] [] [] rfl (ev1 rfl) (ec (ev1 rfl) (ec (ev1 rfl) en)) rfl rfl (wput1) rfl rfl rfl rfl rfl rfl) ?_
  refine zab rfl rfl rfl (zac (.inl rfl) (ev1 rfl)) ?_
  refine zab rfl rfl rfl (op_ext rfl (ev1 rfl) rfl) ?_
  refine zab rfl rfl rfl (op_ext rfl (ev1 rfl) rfl) ?_
  refine zab rfl rfl rfl (zac (.inr rfl) (ev1 rfl)) ?_
  refine zab rfl rfl rfl (zac (.inr rfl) (ev1 rfl)) ?_
  refine zaf ?_
  refine zae ?_
  refine zad ?_
  refine zab rfl rfl rfl (zah [] [] [] rfl (ev1 rfl) (ec (ev1 rfl) en) rfl rfl (id_d _) rfl rfl rfl rfl rfl rfl) ?_
  refine zab rfl rfl rfl (zah [] [] [] rfl (ev1 rfl) (ec (ev1 rfl) en) rfl rfl (id_d _) rfl rfl rfl rfl rfl rfl) ?_
  refine zab rfl rfl rfl (zah [] [] [] rfl (ev1 rfl) (ec (ev1 rfl) en) rfl rfl (id_d _) rfl rfl rfl rfl rfl rfl) ?_
  refine zab rfl rfl rfl (zah [] [] [] rfl (ev1 rfl) (ec (ev1 rfl) en) rfl rfl (id_d _) rfl rfl rfl rfl rfl rfl) ?_
  refine zab rfl rfl rfl (zah [] [] [] rfl (ev1 rfl) (ec (ev1 rfl) en) rfl rfl (id_d _) rfl rfl rfl rfl rfl rfl) ?_
  refine zab rfl rfl rfl (zah [] [] [] rfl (ev1 rfl) (ec (ev1 rfl) en) rfl rfl (id_d _) rfl rfl rfl rfl rfl rfl) ?_
  refine zab rfl rfl rfl (zah [] [] [] rfl (ev1 rfl) (ec (ev1 rfl) en) rfl rfl (id_d _) rfl rfl rfl rfl rfl rfl) ?_
  refine zab rfl rfl rfl (op_bs (ps := [(0, .tmp 33), (1, .tmp 34), (2, .tmp 35), (3, .tmp 36), (4, .tmp 37), (5, .tmp 38), (6, .tmp 39)]) rfl sl22 zr35 rfl (vc (ev1 rfl) (vc (ev1 rfl) (vc (ev1 rfl) (vc (ev1 rfl) (vc (ev1 rfl) (vc (ev1 rfl) (vc (ev1 rfl) vn))))))) rfl (by decide) (by decide)) ?_
  refine zab rfl rfl rfl (zah [] [] [] rfl (ev1 rfl) (ec (ev1 rfl) (ec (ev1 rfl) en)) rfl rfl (row_d wI7 0 (by decide) (by decide)) rfl rfl rfl rfl rfl rfl) ?_
  refine zab rfl rfl rfl (zah [] [] [] rfl (ev1 rfl) (ec (evwk (ev1 rfl) (Wk.slm0 4)) (ec (ev1 rfl) en)) rfl rfl (wput7) rfl rfl rfl rfl rfl rfl) ?_
  refine zab rfl rfl rfl (zac (.inl rfl) (ev1 rfl)) ?_
  refine zab rfl rfl rfl (op_ext rfl (ev1 rfl) rfl) ?_
  refine zab rfl rfl rfl (op_ext rfl (ev1 rfl) rfl) ?_
  refine zab rfl rfl rfl (zac (.inr rfl) (ev1 rfl)) ?_
  refine zab rfl rfl rfl (zac (.inr rfl) (ev1 rfl)) ?_
  refine zaf ?_
  refine zae ?_
  refine zak 1 (by simp only [holes, List.cons_append, List.nil_append]; exact rfl) ?_
  refine zad ?_
  refine zab rfl rfl rfl (zac (.inl rfl) (ev1 rfl)) ?_
  refine zab rfl rfl rfl (zah [] [] [] rfl (ev1 rfl) (ec (ev1 rfl) en) rfl rfl (id_d _) rfl rfl rfl rfl rfl rfl) ?_
  refine zab rfl rfl rfl (zah [] [] [] rfl (ev1 rfl) (ec (ev1 rfl) (ec (ev1 rfl) en)) rfl rfl (wbel4) rfl rfl rfl rfl rfl rfl) ?_
  refine zab rfl rfl rfl (zac (.inl rfl) (ev1 rfl)) ?_
  refine zab rfl rfl rfl (op_ext rfl (ev1 rfl) rfl) ?_
  refine zab rfl rfl rfl (op_ext rfl (ev1 rfl) rfl) ?_
  refine zan rfl rfl rfl (op_alloc 0 rfl zr44 rfl) (by simp only [upd, za, zaa]; exact rfl) ?_
  refine walk_s rfl rfl (op_stam2 rfl tb44 (ev1 rfl) (ev1 rfl) rfl rfl rfl rfl) (by simp only [upd, za, zaa]; exact rfl) ?_
  refine zab rfl rfl rfl (zac (.inr rfl) (ev1 rfl)) ?_
  refine zaf ?_
  refine zae ?_
  refine zak 1 (by simp only [holes, List.cons_append, List.nil_append]; exact rfl) ?_
  refine zad ?_
  refine zab rfl rfl rfl (zac (.inl rfl) (ev1 rfl)) ?_
  refine zab rfl rfl rfl (zah [] [] [] rfl (ev1 rfl) (ec (ev1 rfl) en) rfl rfl (id_d _) rfl rfl rfl rfl rfl rfl) ?_
  refine zab rfl rfl rfl (zah [] [] [] rfl (ev1 rfl) (ec (ev1 rfl) (ec (ev1 rfl) en)) rfl rfl (wbel1) rfl rfl rfl rfl rfl rfl) ?_
  refine zab rfl rfl rfl (zac (.inl rfl) (ev1 rfl)) ?_
  refine zab rfl rfl rfl (op_ext rfl (ev1 rfl) rfl) ?_
  refine zab rfl rfl rfl (op_ext rfl (ev1 rfl) rfl) ?_
  refine zan rfl rfl rfl (op_alloc 1 rfl zr44 rfl) (by simp only [upd, za, zaa]; exact rfl) ?_
  refine walk_s rfl rfl (op_stam rfl tb44 (ev1 rfl) (ev1 rfl) rfl rfl rfl rfl) (by simp only [upd, za, zaa]; exact rfl) ?_
  refine zab rfl rfl rfl (zac (.inr rfl) (ev1 rfl)) ?_
  refine zaf ?_
  refine zae ?_
  refine dwp_draw [([], []), ([], []), ([], []), ([], []), ([], []), ([], []), ([], []), ([], []), ([], []), ([], []), ([], []), ([], []), ([], []), ([], []), ([], [])] mixed (by kernel_rfl) ?_
  refine zag rfl rfl (zac (.inl rfl) (ev1 rfl)) ?_
  refine zag rfl rfl (zac (.inl rfl) (ev1 rfl)) ?_
  refine zag rfl rfl (op_lenm rfl sl26 (ev1 rfl)) ?_
  refine zag rfl rfl (op_min rfl (ev1 rfl) (ev1 rfl)) ?_
  refine zag rfl rfl (op_slmtk (j := 3) rfl sl26 (ev1 rfl) (bd_some (ev1 rfl)) (fun _ => by rw [wl6]; rfl) (fun _ => by rw [wl6]; decide) (fun _ => rfl)) ?_
  refine zag rfl rfl (zah [] [] [] rfl (ev1 rfl) (ec (ev1 rfl) en) rfl rfl (id_d _) rfl rfl rfl rfl rfl rfl) ?_
  refine zag rfl rfl (zah [] [] [] rfl (ev1 rfl) (ec (ev1 rfl) en) rfl rfl (id_d _) rfl rfl rfl rfl rfl rfl) ?_
  refine zag rfl rfl (zah [] [] [] rfl (ev1 rfl) (ec (ev1 rfl) en) rfl rfl (id_d _) rfl rfl rfl rfl rfl rfl) ?_
  refine zag rfl rfl (zah [] [] [] rfl (ev1 rfl) (ec (ev1 rfl) en) rfl rfl (id_d _) rfl rfl rfl rfl rfl rfl) ?_
  refine zag rfl rfl (zah [] [] [] rfl (ev1 rfl) (ec (ev1 rfl) en) rfl rfl (id_d _) rfl rfl rfl rfl rfl rfl) ?_
  refine zag rfl rfl (zah [] [] [] rfl (ev1 rfl) (ec (ev1 rfl) en) rfl rfl (id_d _) rfl rfl rfl rfl rfl rfl) ?_
  refine zag rfl rfl (zah [] [] [] rfl (ev1 rfl) (ec (ev1 rfl) en) rfl rfl (id_d _) rfl rfl rfl rfl rfl rfl) ?_
  refine zag rfl rfl (op_bs (ps := [(0, .tmp 62), (1, .tmp 63), (2, .tmp 64), (3, .tmp 65), (4, .tmp 66), (5, .tmp 67), (6, .tmp 68)]) rfl sl22 zr35 rfl (vc (ev1 rfl) (vc (ev1 rfl) (vc (ev1 rfl) (vc (ev1 rfl) (vc (ev1 rfl) (vc (ev1 rfl) (vc (ev1 rfl) vn))))))) rfl (by decide) (by decide)) ?_
  refine zag rfl rfl (zah [] [] [] rfl (ev1 rfl) (ec (ev1 rfl) (ec (ev1 rfl) (ec (ev1 rfl) en))) rfl rfl (due_d (wM6.take 3) [⟨3, 1, 1⟩, ⟨4, 1, 1⟩, ⟨5, 1, 1⟩, ⟨6, 1, 1⟩, ⟨7, 1, 1⟩, ⟨8, 1, 1⟩, ⟨9, 1, 1⟩] 2 (by rw [List.length_take]; omega) (by decide)) rfl rfl rfl rfl rfl rfl) ?_
  refine zag rfl rfl (zac (.inr rfl) (ev1 rfl)) ?_
  refine lex_nil ?_
  refine zae ?_
  refine dwp_draw [([], []), ([], []), ([], []), ([], []), ([], []), ([], []), ([], []), ([], []), ([], []), ([], []), ([], []), ([], []), ([], []), ([], []), ([], []), ([], []), ([], []), ([], []), ([], []), ([0], []), ([], []), ([], []), ([], []), ([], []), ([], []), ([], []), ([], []), ([], []), ([], []), ([], []), ([], []), ([], []), ([], []), ([], []), ([], []), ([], []), ([], []), ([], []), ([], []), ([], []), ([], []), ([], []), ([], []), ([], []), ([], []), ([], []), ([], []), ([], []), ([], []), ([], []), ([], []), ([], []), ([], []), ([], []), ([], []), ([], []), ([], []), ([], []), ([], []), ([], []), ([], []), ([], []), ([], []), ([], []), ([], []), ([], []), ([], []), ([], []), ([], [])] mixed (by kernel_rfl) ?_
  refine zag rfl rfl (zac (.inl rfl) (ev1 rfl)) ?_
  refine zag rfl rfl ((op_eql rfl (ev1 rfl) (ev1 rfl)).cast (d' := .val (.bool true)) (by kernel_rfl)) ?_
  refine zag rfl rfl (zac (.inl rfl) (ev1 rfl)) ?_
  refine lex_k (gd_t (b := true) rfl rfl rfl) rfl rfl (zac (.inl rfl) (ev1 rfl)) rfl (by simp only [upd, za, zaa]; exact rfl) ?_
  refine lex_k (gd_t (b := true) rfl rfl rfl) rfl rfl ((op_eql rfl (ev2 rfl) (ev1 rfl)).cast (d' := .val (.bool true)) (by kernel_rfl)) rfl (by simp only [upd, za, zaa]; exact rfl) ?_
  refine zag rfl rfl ((op_and rfl (ev1 rfl) (ev3 rfl (fun _ => rfl))).cast (d' := .val (.bool true)) (by rfl)) ?_
  refine zag rfl rfl (zac (.inl rfl) (ev1 rfl)) ?_
  refine lex_k (gd_t (b := true) rfl rfl rfl) rfl rfl (zac (.inl rfl) (ev1 rfl)) rfl (by simp only [upd, za, zaa]; exact rfl) ?_
  refine lex_k (gd_t (b := true) rfl rfl rfl) rfl rfl ((op_eql rfl (ev2 rfl) (ev1 rfl)).cast (d' := .val (.bool true)) (by kernel_rfl)) rfl (by simp only [upd, za, zaa]; exact rfl) ?_
  refine zag rfl rfl ((op_and rfl (ev1 rfl) (ev3 rfl (fun _ => rfl))).cast (d' := .val (.bool true)) (by rfl)) ?_
  refine zag rfl rfl (zac (.inl rfl) (ev1 rfl)) ?_
  refine lex_k (gd_t (b := true) rfl rfl rfl) rfl rfl (zac (.inl rfl) (ev1 rfl)) rfl (by simp only [upd, za, zaa]; exact rfl) ?_
  refine zag rfl rfl ((op_and rfl (ev1 rfl) (ev3 rfl (fun _ => rfl))).cast (d' := .val (.bool true)) (by rfl)) ?_
  refine zag rfl rfl (zac (.inl rfl) (ev1 rfl)) ?_
  refine lex_k (gd_t (b := true) rfl rfl rfl) rfl rfl (zac (.inl rfl) (ev1 rfl)) rfl (by simp only [upd, za, zaa]; exact rfl) ?_
  refine lex_k (gd_t (b := true) rfl rfl rfl) rfl rfl ((op_not rfl (ev2 rfl)).cast (d' := .val (.bool true)) (by kernel_rfl)) rfl (by simp only [upd, za, zaa]; exact rfl) ?_
  refine zag rfl rfl ((op_and rfl (ev1 rfl) (ev3 rfl (fun _ => rfl))).cast (d' := .val (.bool true)) (by rfl)) ?_
  refine zag rfl rfl (zac (.inl rfl) (ev1 rfl)) ?_
  refine lex_k (gd_t (b := true) rfl rfl rfl) rfl rfl (op_fa rfl fo44_0 (ev1 rfl)) rfl (by simp only [upd, za, zaa]; exact rfl) ?_
  refine lex_k (gd_t (b := true) rfl rfl rfl) rfl rfl (op_ldmv (R := [_, _, _]) rfl tb35 (ev2 rfl) rfl rfl rfl) rfl (by simp only [upd, za, zaa]; exact rfl) ?_
  refine lex_k (gd_t (b := true) rfl rfl rfl) rfl rfl (zah [] [] [] rfl (ev1 rfl) (ec (ev1 rfl) en) rfl rfl (id_d _) rfl rfl rfl rfl rfl rfl) rfl (by simp only [upd, za, zaa]; exact rfl) ?_
  refine lex_k (gd_t (b := true) rfl rfl rfl) rfl rfl ((op_eqr eq35 rfl gd35 tb35 (ev2 rfl) (ev2 rfl)).cast (d' := .val (.bool true)) (by kernel_rfl)) rfl (by simp only [upd, za, zaa]; exact rfl) ?_
  refine zag rfl rfl ((op_and rfl (ev1 rfl) (ev3 rfl (fun _ => rfl))).cast (d' := .val (.bool true)) (by rfl)) ?_
  refine zag rfl rfl (zac (.inl rfl) (ev1 rfl)) ?_
  refine lex_k (gd_t (b := true) rfl rfl rfl) rfl rfl (zac (.inl rfl) (ev1 rfl)) rfl (by simp only [upd, za, zaa]; exact rfl) ?_
  refine lex_k (gd_t (b := true) rfl rfl rfl) rfl rfl (zah [] [] [] rfl (ev1 rfl) (ec (ev2 rfl) en) rfl rfl (Ids_d wN7 (by rw [wl7]; decide)) rfl rfl rfl rfl rfl rfl) rfl (by simp only [upd, za, zaa]; exact rfl) ?_
  refine lex_k (gd_t (b := true) rfl rfl rfl) rfl rfl (zah [] [] [] rfl (ev1 rfl) (ec (ev1 rfl) en) rfl rfl (id_d _) rfl rfl rfl rfl rfl rfl) rfl (by simp only [upd, za, zaa]; exact rfl) ?_
  refine lex_k (gd_t (b := true) rfl rfl rfl) rfl rfl (zah [] [] [] rfl (ev1 rfl) (ec (ev1 rfl) en) rfl rfl (id_d _) rfl rfl rfl rfl rfl rfl) rfl (by simp only [upd, za, zaa]; exact rfl) ?_
  refine lex_k (gd_t (b := true) rfl rfl rfl) rfl rfl (zah [] [] [] rfl (ev1 rfl) (ec (ev1 rfl) en) rfl rfl (id_d _) rfl rfl rfl rfl rfl rfl) rfl (by simp only [upd, za, zaa]; exact rfl) ?_
  refine lex_k (gd_t (b := true) rfl rfl rfl) rfl rfl (zah [] [] [] rfl (ev1 rfl) (ec (ev1 rfl) en) rfl rfl (id_d _) rfl rfl rfl rfl rfl rfl) rfl (by simp only [upd, za, zaa]; exact rfl) ?_
  refine lex_k (gd_t (b := true) rfl rfl rfl) rfl rfl (zah [] [] [] rfl (ev1 rfl) (ec (ev1 rfl) en) rfl rfl (id_d _) rfl rfl rfl rfl rfl rfl) rfl (by simp only [upd, za, zaa]; exact rfl) ?_
  refine lex_k (gd_t (b := true) rfl rfl rfl) rfl rfl (zah [] [] [] rfl (ev1 rfl) (ec (ev1 rfl) en) rfl rfl (id_d _) rfl rfl rfl rfl rfl rfl) rfl (by simp only [upd, za, zaa]; exact rfl) ?_
  refine lex_k (gd_t (b := true) rfl rfl rfl) rfl rfl (op_bs (ps := [(0, .tmp 97), (1, .tmp 98), (2, .tmp 99), (3, .tmp 100), (4, .tmp 101), (5, .tmp 102)]) rfl sl22 zr35 rfl (vc (ev2 rfl) (vc (ev2 rfl) (vc (ev2 rfl) (vc (ev2 rfl) (vc (ev2 rfl) (vc (ev2 rfl) vn)))))) rfl (by decide) (by decide)) rfl (by simp only [upd, za, zaa]; exact rfl) ?_
  refine lex_k (gd_t (b := true) rfl rfl rfl) rfl rfl ((zah [] [] [] rfl (ev1 rfl) (ec (ev2 rfl) (ec (ev2 rfl) en)) rfl rfl (equalI (idsC wN7) [⟨1, 1, 1⟩, ⟨3, 1, 1⟩, ⟨4, 1, 1⟩, ⟨5, 1, 1⟩, ⟨6, 1, 1⟩, ⟨7, 1, 1⟩]) rfl rfl rfl rfl rfl rfl).cast (d' := .val (.bool true)) (by kernel_rfl)) rfl (by simp only [upd, za, zaa]; exact rfl) ?_
  refine zag rfl rfl ((op_and rfl (ev1 rfl) (ev3 rfl (fun _ => rfl))).cast (d' := .val (.bool true)) (by rfl)) ?_
  refine zag rfl rfl (zac (.inl rfl) (ev1 rfl)) ?_
  refine lex_k (gd_t (b := true) rfl rfl rfl) rfl rfl (zac (.inl rfl) (ev1 rfl)) rfl (by simp only [upd, za, zaa]; exact rfl) ?_
  refine lex_k (gd_t (b := true) rfl rfl rfl) rfl rfl (zah [] [] [] rfl (ev1 rfl) (ec (ev2 rfl) en) rfl rfl (Ids_d wO7 (by rw [wlo]; decide)) rfl rfl rfl rfl rfl rfl) rfl (by simp only [upd, za, zaa]; exact rfl) ?_
  refine lex_k (gd_t (b := true) rfl rfl rfl) rfl rfl (zah [] [] [] rfl (ev1 rfl) (ec (ev1 rfl) en) rfl rfl (id_d _) rfl rfl rfl rfl rfl rfl) rfl (by simp only [upd, za, zaa]; exact rfl) ?_
  refine lex_k (gd_t (b := true) rfl rfl rfl) rfl rfl (zah [] [] [] rfl (ev1 rfl) (ec (ev1 rfl) en) rfl rfl (id_d _) rfl rfl rfl rfl rfl rfl) rfl (by simp only [upd, za, zaa]; exact rfl) ?_
  refine lex_k (gd_t (b := true) rfl rfl rfl) rfl rfl (zah [] [] [] rfl (ev1 rfl) (ec (ev1 rfl) en) rfl rfl (id_d _) rfl rfl rfl rfl rfl rfl) rfl (by simp only [upd, za, zaa]; exact rfl) ?_
  refine lex_k (gd_t (b := true) rfl rfl rfl) rfl rfl (zah [] [] [] rfl (ev1 rfl) (ec (ev1 rfl) en) rfl rfl (id_d _) rfl rfl rfl rfl rfl rfl) rfl (by simp only [upd, za, zaa]; exact rfl) ?_
  refine lex_k (gd_t (b := true) rfl rfl rfl) rfl rfl (zah [] [] [] rfl (ev1 rfl) (ec (ev1 rfl) en) rfl rfl (id_d _) rfl rfl rfl rfl rfl rfl) rfl (by simp only [upd, za, zaa]; exact rfl) ?_
  refine lex_k (gd_t (b := true) rfl rfl rfl) rfl rfl (zah [] [] [] rfl (ev1 rfl) (ec (ev1 rfl) en) rfl rfl (id_d _) rfl rfl rfl rfl rfl rfl) rfl (by simp only [upd, za, zaa]; exact rfl) ?_
  refine lex_k (gd_t (b := true) rfl rfl rfl) rfl rfl (op_bs (ps := [(0, .tmp 109), (1, .tmp 110), (2, .tmp 111), (3, .tmp 112), (4, .tmp 113), (5, .tmp 114)]) rfl sl22 zr35 rfl (vc (ev2 rfl) (vc (ev2 rfl) (vc (ev2 rfl) (vc (ev2 rfl) (vc (ev2 rfl) (vc (ev2 rfl) vn)))))) rfl (by decide) (by decide)) rfl (by simp only [upd, za, zaa]; exact rfl) ?_
  refine lex_k (gd_t (b := true) rfl rfl rfl) rfl rfl ((zah [] [] [] rfl (ev1 rfl) (ec (ev2 rfl) (ec (ev2 rfl) en)) rfl rfl (equalI (idsC wO7) [⟨10, 1, 1⟩, ⟨20, 1, 1⟩, ⟨30, 1, 1⟩, ⟨40, 1, 1⟩, ⟨50, 1, 1⟩, ⟨60, 1, 1⟩]) rfl rfl rfl rfl rfl rfl).cast (d' := .val (.bool true)) (by kernel_rfl)) rfl (by simp only [upd, za, zaa]; exact rfl) ?_
  refine zag rfl rfl ((op_and rfl (ev1 rfl) (ev3 rfl (fun _ => rfl))).cast (d' := .val (.bool true)) (by rfl)) ?_
  refine zag rfl rfl (zac (.inl rfl) (ev1 rfl)) ?_
  refine lex_k (gd_t (b := true) rfl rfl rfl) rfl rfl (zac (.inl rfl) (ev1 rfl)) rfl (by simp only [upd, za, zaa]; exact rfl) ?_
  refine lex_k (gd_t (b := true) rfl rfl rfl) rfl rfl (zah [] [] [] rfl (ev1 rfl) (ec (ev1 rfl) en) rfl rfl (id_d _) rfl rfl rfl rfl rfl rfl) rfl (by simp only [upd, za, zaa]; exact rfl) ?_
  refine lex_k (gd_t (b := true) rfl rfl rfl) rfl rfl (zah [] [] [] rfl (ev1 rfl) (ec (ev2 rfl) (ec (ev2 rfl) en)) rfl rfl (drop_d wM6 (by rw [wl6]; decide) ⟨4, 1, 1⟩) rfl rfl rfl rfl rfl rfl) rfl (by simp only [upd, za, zaa]; exact rfl) ?_
  refine lex_k (gd_t (b := true) rfl rfl rfl) rfl rfl (op_lenm rfl sl26 (ev2 rfl)) rfl (by simp only [upd, za, zaa]; exact rfl) ?_
  refine lex_k (gd_t (b := true) rfl rfl rfl) rfl rfl ((op_eql rfl (ev2 rfl) (ev1 rfl)).cast (d' := .val (.bool true)) (by kernel_rfl)) rfl (by simp only [upd, za, zaa]; exact rfl) ?_
  refine zag rfl rfl ((op_and rfl (ev1 rfl) (ev3 rfl (fun _ => rfl))).cast (d' := .val (.bool true)) (by rfl)) ?_
  refine zag rfl rfl (zac (.inl rfl) (ev1 rfl)) ?_
  refine lex_k (gd_t (b := true) rfl rfl rfl) rfl rfl (zac (.inl rfl) (ev1 rfl)) rfl (by simp only [upd, za, zaa]; exact rfl) ?_
  refine lex_k (gd_t (b := true) rfl rfl rfl) rfl rfl (zah [] [] [] rfl (ev1 rfl) (ec (ev2 rfl) (ec (ev1 rfl) en)) rfl rfl (fold_d wM6 (by rw [wl6]; decide) 4) rfl rfl rfl rfl rfl rfl) rfl (by simp only [upd, za, zaa]; exact rfl) ?_
  refine lex_k (gd_t (b := true) rfl rfl rfl) rfl rfl (op_lenm rfl sl26 (ev2 rfl)) rfl (by simp only [upd, za, zaa]; exact rfl) ?_
  refine lex_k (gd_t (b := true) rfl rfl rfl) rfl rfl ((op_eql rfl (ev2 rfl) (ev1 rfl)).cast (d' := .val (.bool true)) (by kernel_rfl)) rfl (by simp only [upd, za, zaa]; exact rfl) ?_
  refine zag rfl rfl ((op_and rfl (ev1 rfl) (ev3 rfl (fun _ => rfl))).cast (d' := .val (.bool true)) (by rfl)) ?_
  refine zag rfl rfl (zac (.inl rfl) (ev1 rfl)) ?_
  refine lex_k (gd_t (b := true) rfl rfl rfl) rfl rfl (zac (.inl rfl) (ev1 rfl)) rfl (by simp only [upd, za, zaa]; exact rfl) ?_
  refine lex_k (gd_t (b := true) rfl rfl rfl) rfl rfl (zah [] [] [] rfl (ev1 rfl) (ec (ev1 rfl) en) rfl rfl (id_d _) rfl rfl rfl rfl rfl rfl) rfl (by simp only [upd, za, zaa]; exact rfl) ?_
  refine lex_k (gd_t (b := true) rfl rfl rfl) rfl rfl (zah [] [] [] rfl (ev1 rfl) (ec (ev1 rfl) en) rfl rfl (id_d _) rfl rfl rfl rfl rfl rfl) rfl (by simp only [upd, za, zaa]; exact rfl) ?_
  refine lex_k (gd_t (b := true) rfl rfl rfl) rfl rfl (zah [] [] [] rfl (ev1 rfl) (ec (ev1 rfl) en) rfl rfl (id_d _) rfl rfl rfl rfl rfl rfl) rfl (by simp only [upd, za, zaa]; exact rfl) ?_
  refine lex_k (gd_t (b := true) rfl rfl rfl) rfl rfl (op_bs (ps := [(0, .tmp 133), (1, .tmp 134), (2, .tmp 135)]) rfl sl22 zr35 rfl (vc (ev2 rfl) (vc (ev2 rfl) (vc (ev2 rfl) vn))) rfl (by decide) (by decide)) rfl (by simp only [upd, za, zaa]; exact rfl) ?_
  refine lex_k (gd_t (b := true) rfl rfl rfl) rfl rfl ((zah [] [] [] rfl (ev1 rfl) (ec (ev2 rfl) (ec (ev2 rfl) en)) rfl rfl (equalI (dueM (wM6.take 3) [⟨3, 1, 1⟩, ⟨4, 1, 1⟩, ⟨5, 1, 1⟩, ⟨6, 1, 1⟩, ⟨7, 1, 1⟩, ⟨8, 1, 1⟩, ⟨9, 1, 1⟩] 2) [⟨5, 1, 1⟩, ⟨7, 1, 1⟩, ⟨9, 1, 1⟩]) rfl rfl rfl rfl rfl rfl).cast (d' := .val (.bool true)) (by kernel_rfl)) rfl (by simp only [upd, za, zaa]; exact rfl) ?_
  refine zag rfl rfl ((op_and rfl (ev1 rfl) (ev3 rfl (fun _ => rfl))).cast (d' := .val (.bool true)) (by rfl)) ?_
  refine zag rfl rfl (zac (.inr rfl) (ev1 rfl)) ?_
  refine lex_nil ?_
  refine dwp_ret ?_
  refine kend0 (rs1 rfl (rv_t rfl)) rfl ?_
  rfl
end Go.Proofs.Ytmpodnadoebclaa
namespace Go.Proofs.Ytmpodnadoebclaa
set_option maxRecDepth 4000
set_option linter.unusedVariables false
set_option linter.unusedSimpArgs false
open Go.RowKit
open Go.ChangeShapes Go.WideShapes Go.ChangeAt Go.Joins Go.Deep
theorem fits_prim_i64 {v : Value} (h : (Prim.int .i64).is v) : ∃ a : Int, (-9223372036854775808 ≤ a ∧ a ≤ 9223372036854775807) ∧ v = .int .i64 a := by
  obtain ⟨x, rfl, w⟩ := h
  exact ⟨x, by simpa [Lit.wf, IntKind.min, IntKind.max, IntKind.signed, IntKind.bits] using w, rfl⟩
theorem fits_prim_u64 {v : Value} (h : (Prim.int .u64).is v) : ∃ a : Int, (0 ≤ a ∧ a ≤ 18446744073709551615) ∧ v = .int .u64 a := by
  obtain ⟨x, rfl, w⟩ := h
  exact ⟨x, by simpa [Lit.wf, IntKind.min, IntKind.max, IntKind.signed, IntKind.bits] using w, rfl⟩
theorem fitsP_cons {p : Prim} {ps : List Prim} {cs : List Value} (h : fitsP (p :: ps) cs) : ∃ v r, cs = v :: r ∧ p.is v ∧ fitsP ps r := by
  cases cs with
  | nil => cases h
  | cons v r => exact ⟨v, r, rfl, h.1, h.2⟩
theorem fitsP_nil {cs : List Value} (h : fitsP [] cs) : cs = [] := by
  cases cs with
  | nil => rfl
  | cons v r => cases h
theorem fits_id (cs : List Value) (h : fitsP [.int .u64, .int .i64, .int .u64] cs) : ∃ i : I3, True ∧ cs = idc i := by
  obtain ⟨x0, r, rfl, h0, h⟩ := fitsP_cons h
  obtain ⟨x1, r, rfl, h1, h⟩ := fitsP_cons h
  obtain ⟨x2, r, rfl, h2, h⟩ := fitsP_cons h
  obtain rfl := fitsP_nil h
  obtain ⟨a0, _, rfl⟩ := fits_prim_u64 h0
  obtain ⟨a1, _, rfl⟩ := fits_prim_i64 h1
  obtain ⟨a2, _, rfl⟩ := fits_prim_u64 h2
  exact ⟨⟨a0, a1, a2⟩, trivial, rfl⟩
end Go.Proofs.Ytmpodnadoebclaa
