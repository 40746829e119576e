/- laying: fields; laying: ids, vectors, operations; laying: operations, and rows of them; laying: rows of operations; taking: numbers; taking: colours and ids; taking: vectors, operations; taking: rows of operations; what each function takes; taking from the front of bytes; operations that are the same; what the laws go through; does the layer do anything?; arguments that are opened. No condition. -/
import Derived.Test.YtmacjicebemgoaaGreatR4
import Derived.Test.YtmacjicebemgoaaGreatRows
namespace Go.Proofs.YtmacjicebemgoaaGreat
set_option linter.unusedVariables false
set_option linter.unusedSimpArgs false
open Go.RowKit
theorem fo42_0 : fdO Tryz.prog 42 0 = some 0 := by kernel_rfl
theorem fo42_1 : fdO Tryz.prog 42 1 = some 1 := by kernel_rfl
theorem fo42_2 : fdO Tryz.prog 42 2 = some 2 := by kernel_rfl
theorem fo42_3 : fdO Tryz.prog 42 3 = some 3 := by kernel_rfl
theorem fm_col {k : Nat} {x : Mem} {l : List Int} {c : C4} (h : okC c) : some (Blk.fam ((List.replicate k Mem.gone ++ [x]).set k .gone ++ [.arr 5 1 (l.length + 4) (l.flatMap uc8 ++ [.int .u8 c.r, .int .u8 c.g, .int .u8 c.b, .int .u8 c.a])])) = some (fmB (k + 1) (l ++ coB' c)) := by
  refine fm_eq ?_ ?_
  · rw [List.length_append, coB_len]
  · rw [List.flatMap_append, coB_eq h]
    rfl
theorem cols_take {l : List C4} {j : Nat} (h : j < l.length) : (l.take (j + 1)).flatMap coB' = (l.take j).flatMap coB' ++ coB' l[j] := by
  rw [List.take_succ_eq_append_getElem h, List.flatMap_append]
  simp
set_option maxRecDepth 4000 in
set_option maxHeartbeats 1000000 in
theorem lcols_d (o : OpM) (k : Nat) (l : List Int) (cs : List C4) (hc : ∀ c ∈ cs, okC c) (hn : cs.length ≤ 64) (hl : l.length ≤ 40000) : DFun Tryz.prog 124 [.loc 0 0, .slf 4 cs.length (cs.flatMap c4)] [.mix 72 (opD o ++ [.farr 1 k]), fmB k (l)] (.tup []) [.mix 72 (opD o ++ [.farr 1 (k + cs.length)]), fmB (k + cs.length) (l ++ cs.flatMap coB')] := by
  refine zaj (N := 30) 2 (by kernel_rfl) Tryz.func124 rfl rfl rfl (by simp only [fr0, Nat.zero_add, Nat.reduceAdd]; exact rfl) rfl fun s0 hs0 => ?_
  refine dwp_len (t := 1) rfl fun hl1 hL1 => ?_
  refine zaf ?_
  refine zac ?_
  refine za rfl rfl rfl (zad (.inl rfl) (ev1 rfl)) ?_
  refine za rfl rfl rfl (op_len rfl sl43 (ev1 rfl)) ?_
  refine za rfl rfl rfl (zad (.inl rfl) (ev1 rfl)) ?_
  refine zae ?_
  refine dwp_block ?_
  refine dwp_loopS ⟨hs0, rfl⟩ (α := Nat) (fun j => [(8, .val (.int .i64 (j : Int)))]) [(0, _), (6, _), (7, _)] (fun j => [(0, .mix 72 (opD o ++ [.farr 1 (k + j)])), (1, fmB (k + j) (l ++ (cs.take j).flatMap coB'))]) [.hole, .hole] (fun j => j ≤ cs.length) (fun j => cs.length - j) 0 [0, 1] (by omega) rfl ⟨rfl, rfl, rfl, trivial⟩ ⟨rfl, trivial⟩ ⟨rfl, fm_cat rfl (by simp), trivial⟩ ?_
  intro j hx
  simp only [upd, zaa, zab, List.cons_append, List.nil_append]
  have hj := hx
  have hlj : ((cs.take j).flatMap coB').length = 4 * j := by rw [cols_len, List.length_take]; omega
  refine zaf ?_
  refine zac ?_
  refine za rfl rfl rfl (op_lss rfl (ev1 rfl) (ev1 rfl)) ?_
  refine zae ?_
  refine zaf ?_
  refine dwp_cond rfl (fun c1 => ?_) (fun c1 => ?_)
  · try simp only [decide_eq_true_eq, decide_eq_false_iff_not, beq_iff_eq, bne_iff_ne, beq_eq_false_iff_ne, bne_eq_false_iff_eq, Bool.not_eq_true', Bool.not_eq_false', Bool.and_eq_true, Bool.or_eq_true, Bool.or_eq_false_iff, ne_eq, Decidable.not_not, Int.not_lt, Int.not_le] at c1
    refine zam ?_
    refine zaf ?_
    refine dwp_block ?_
    refine zaf ?_
    refine zai 1 (by simp only [holes, List.cons_append, List.nil_append]; exact rfl) ?_
    refine zac ?_
    refine za rfl rfl rfl (op_ixsr (j := j) rfl sl43 (ev1 rfl) (ev1 rfl) (fun _ => rfl) (by decide) (by omega) (by omega)) ?_
    refine za rfl rfl rfl (op_ldwd rfl tb42 (ev1 rfl) rfl) ?_
    refine zak rfl rfl rfl (op_alloc 2 rfl zr42 rfl) (by simp only [upd, zaa, zab]; exact rfl) ?_
    refine walk_s rfl rfl (op_stwa rfl tb42 (ev1 rfl) (ev1 rfl) rfl rfl rfl rfl) (by simp only [upd, zaa, zab]; exact rfl) ?_
    refine zae ?_
    refine zai 2 (by simp only [holes, List.cons_append, List.nil_append]; exact rfl) ?_
    refine dwp_draw [([], []), ([], []), ([], []), ([], []), ([0], []), ([], []), ([2], []), ([], []), ([2], []), ([], []), ([2], []), ([], []), ([2], []), ([], []), ([1, 3, 4], [1, 3, 4]), ([], []), ([], []), ([0], [0])] mixed (by kernel_rfl) ?_
    refine lex_r rfl rfl (zad (.inl rfl) (ev1 rfl)) ?_
    refine lex_r rfl rfl (zad (.inl rfl) (ev1 rfl)) ?_
    refine lex_r rfl rfl (op_nc rfl (ev1 rfl) (fun s v h => by cases h; exact ⟨_, rfl⟩)) ?_
    refine lex_r rfl rfl (zal rfl fo72_1 (ev1 rfl)) ?_
    refine lex_r rfl rfl (op_ldm rfl tb30 (ev1 rfl) rfl rfl) ?_
    refine lex_r rfl rfl (zal rfl fo42_0 (ev1 rfl)) ?_
    refine lex_r rfl rfl (op_ldo rfl tb5 (ev1 rfl) rfl rfl) ?_
    refine lex_r rfl rfl (zal rfl fo42_1 (ev1 rfl)) ?_
    refine lex_r rfl rfl (op_ldo rfl tb5 (ev1 rfl) rfl rfl) ?_
    refine lex_r rfl rfl (zal rfl fo42_2 (ev1 rfl)) ?_
    refine lex_r rfl rfl (op_ldo rfl tb5 (ev1 rfl) rfl rfl) ?_
    refine lex_r rfl rfl (zal rfl fo42_3 (ev1 rfl)) ?_
    refine lex_r rfl rfl (op_ldo rfl tb5 (ev1 rfl) rfl rfl) ?_
    refine lex_r rfl rfl (op_bs (ps := [(0, .tmp 18), (1, .tmp 20), (2, .tmp 22), (3, .tmp 24)]) rfl sl30 zr5 rfl (vc (ev1 rfl) (vc (ev1 rfl) (vc (ev1 rfl) (vc (ev1 rfl) vn)))) rfl (by decide) (by decide)) ?_
    refine lex_w rfl rfl ((op_appF (j1 := 3) (j2 := 4) rfl rfl sl30 zr5 rfl (ev1 rfl) (ev1 rfl) rfl (fm_at) rfl rfl rfl (fun _ => rfl) (fun _ => ⟨by simp only [List.length_append]; omega, by simp only [List.length_append]; omega⟩)).cast (d' := .farr 1 (k + j + 1)) (by rw [fm_len])) rfl (by simp only [upd, zaa, zab]; exact rfl) ?_
    refine lex_r rfl rfl (op_nc rfl (ev1 rfl) (fun s v h => by cases h; exact ⟨_, rfl⟩)) ?_
    refine lex_r rfl rfl (zal rfl fo72_1 (ev1 rfl)) ?_
    refine lex_s rfl rfl (op_stm rfl tb30 (ev1 rfl) (ev1 rfl) (fun s v h => by cases h <;> exact ⟨rfl, rfl⟩) rfl (by first | decide | exact Nat.le_of_ble_eq_true rfl | simp)) rfl (by simp only [upd, zaa, zab]; exact rfl) ?_
    refine lex_nil ?_
    refine zac ?_
    refine za rfl rfl rfl (op_add' rfl (ev1 rfl) (ev1 rfl) (fun _ => IntWalk.i64_in _ (by omega))) ?_
    refine za rfl rfl rfl (zad (.inl rfl) (ev1 rfl)) ?_
    refine zae ?_
    refine ⟨j + 1, [0, 1], by omega, by simp only []; omega, rfl, ⟨rfl, rfl, rfl, rfl, trivial⟩, ⟨rfl, ((fm_col (hc cs[j] (List.getElem_mem _))).trans (fm_cat rfl (by rw [cols_take (by omega), List.append_assoc]))), trivial⟩⟩
  · try simp only [decide_eq_true_eq, decide_eq_false_iff_not, beq_iff_eq, bne_iff_ne, beq_eq_false_iff_ne, bne_eq_false_iff_eq, Bool.not_eq_true', Bool.not_eq_false', Bool.and_eq_true, Bool.or_eq_true, Bool.or_eq_false_iff, ne_eq, Decidable.not_not, Int.not_lt, Int.not_le] at c1
    refine dwp_exit ?_
    obtain rfl : j = cs.length := by omega
    refine kend [0, 1] (res_none rfl) rfl rfl ?_ ⟨?_, ?_, trivial⟩
    rfl
    rfl
    exact fm_cat rfl (by rw [List.take_length])
set_option maxRecDepth 4000 in
set_option maxHeartbeats 1000000 in
theorem lcolor_d (o : OpM) (k : Nat) (l : List Int) (hn : okC o.co) (hl : l.length ≤ 40000) : DFun Tryz.prog 73 [.loc 0 0] [.mix 72 (opD o ++ [.farr 1 k]), fmB k (l)] (.tup []) [.mix 72 (opD o ++ [.farr 1 (k + 1)]), fmB (k + 1) (l ++ coB' o.co)] := by
  refine zaj (N := 10) 2 (by kernel_rfl) Tryz.func73 rfl rfl rfl (by simp only [fr0, Nat.zero_add, Nat.reduceAdd]; exact rfl) rfl fun s0 hs0 => ?_
  refine zac ?_
  refine za rfl rfl rfl (zad (.inl rfl) (ev1 rfl)) ?_
  refine za rfl rfl rfl (zad (.inl rfl) (ev1 rfl)) ?_
  refine za rfl rfl rfl (op_nc rfl (ev1 rfl) (fun s v h => by cases h; exact ⟨_, rfl⟩)) ?_
  refine za rfl rfl rfl (zal rfl fo72_0 (ev1 rfl)) ?_
  refine za rfl rfl rfl (zal rfl fo47_7 (ev1 rfl)) ?_
  refine za rfl rfl rfl (op_ldmv (R := [_, _, _, _]) rfl tb42 (ev1 rfl) rfl rfl rfl) ?_
  refine za rfl rfl rfl (op_bs (ps := [(0, .tmp 7)]) rfl sl43 zr42 rfl (vc (ev1 rfl) vn) rfl (by decide) (by decide)) ?_
  refine zak rfl rfl rfl (zag [0, 1] [] [] rfl (ev1 rfl) (ec (ev1 rfl) (ec (ev1 rfl) en)) rfl rfl (lcols_d o k l [o.co] (by simpa using hn) (by simp) hl) rfl rfl rfl rfl rfl rfl) (by simp only [upd, zaa, zab]; exact rfl) ?_
  refine zae ?_
  refine kend [0, 1] (res_none rfl) rfl rfl ?_ ⟨?_, ?_, trivial⟩
  rfl
  rfl
  exact fm_cat rfl (by simp)
set_option maxRecDepth 4000 in
set_option maxHeartbeats 1000000 in
theorem lstamp_d (o : OpM) (k : Nat) (l : List Int) (hn : okF 6 o) (hl : l.length ≤ 39000) : DFun Tryz.prog 74 [.loc 0 0] [.mix 72 (opD o ++ [.farr 1 k]), fmB k (l)] (.tup []) [.mix 72 (opD o ++ [.farr 1 (k + (2 + o.px.length))]), fmB (k + (2 + o.px.length)) (l ++ stBy ((o.sw, o.sh), o.px))] := by
  refine zaj (N := 28) 2 (by kernel_rfl) Tryz.func74 rfl rfl rfl (by simp only [fr0, Nat.zero_add, Nat.reduceAdd]; exact rfl) rfl fun s0 hs0 => ?_
  refine zaf ?_
  have hpx := px_le hn
  obtain ⟨hw, hh, hp, hcs⟩ := hn
  have hw8 := siD_rng hw
  have hh8 := siD_rng hh
  have e1 : ((256 ^ 1 : Nat) : Int) = 256 := by decide
  refine zac ?_
  refine za rfl rfl rfl (zad (.inl rfl) (ev1 rfl)) ?_
  refine za rfl rfl rfl (zad (.inl rfl) (ev1 rfl)) ?_
  refine za rfl rfl rfl (op_nc rfl (ev1 rfl) (fun s v h => by cases h; exact ⟨_, rfl⟩)) ?_
  refine za rfl rfl rfl (zal rfl fo72_0 (ev1 rfl)) ?_
  refine za rfl rfl rfl (zal rfl fo47_8 (ev1 rfl)) ?_
  refine za rfl rfl rfl (zal rfl fo45_0 (ev1 rfl)) ?_
  refine za rfl rfl rfl (op_ldm rfl tb3 (ev1 rfl) rfl rfl) ?_
  refine za rfl rfl rfl (op_conv' ty3 kn23 rfl (ev1 rfl) (fun _ => IntWalk.u64_in _ (by omega))) ?_
  refine zak rfl rfl rfl (zag [0, 1] [] [] rfl (ev1 rfl) (ec (ev1 rfl) (ec (ev1 rfl) (ec (ev1 rfl) en))) rfl rfl (lnum_d o k (l) 1 (o.sw) (by decide) (by rw [e1]; omega) (by omega)) rfl rfl rfl rfl rfl rfl) (by simp only [upd, zaa, zab]; exact rfl) ?_
  refine zae ?_
  refine zaf ?_
  refine zac ?_
  refine za rfl rfl rfl (zad (.inl rfl) (ev1 rfl)) ?_
  refine za rfl rfl rfl (zad (.inl rfl) (ev1 rfl)) ?_
  refine za rfl rfl rfl (op_nc rfl (ev1 rfl) (fun s v h => by cases h; exact ⟨_, rfl⟩)) ?_
  refine za rfl rfl rfl (zal rfl fo72_0 (ev1 rfl)) ?_
  refine za rfl rfl rfl (zal rfl fo47_8 (ev1 rfl)) ?_
  refine za rfl rfl rfl (zal rfl fo45_1 (ev1 rfl)) ?_
  refine za rfl rfl rfl (op_ldm rfl tb3 (ev1 rfl) rfl rfl) ?_
  refine za rfl rfl rfl (op_conv' ty3 kn23 rfl (ev1 rfl) (fun _ => IntWalk.u64_in _ (by omega))) ?_
  refine zak rfl rfl rfl (zag [0, 1] [] [] rfl (ev1 rfl) (ec (ev1 rfl) (ec (ev1 rfl) (ec (ev1 rfl) en))) rfl rfl (lnum_d o (k + 1) (l ++ layW 1 o.sw) 1 (o.sh) (by decide) (by rw [e1]; omega) (by simp only [List.length_append, layW_len]; omega)) rfl rfl rfl rfl rfl rfl) (by simp only [upd, zaa, zab]; exact rfl) ?_
  refine zae ?_
  refine zac ?_
  refine za rfl rfl rfl (zad (.inl rfl) (ev1 rfl)) ?_
  refine za rfl rfl rfl (zad (.inl rfl) (ev1 rfl)) ?_
  refine za rfl rfl rfl (op_nc rfl (ev1 rfl) (fun s v h => by cases h; exact ⟨_, rfl⟩)) ?_
  refine za rfl rfl rfl (zal rfl fo72_0 (ev1 rfl)) ?_
  refine za rfl rfl rfl (zal rfl fo47_8 (ev1 rfl)) ?_
  refine za rfl rfl rfl (zal rfl fo45_2 (ev1 rfl)) ?_
  refine za rfl rfl rfl (op_ldm rfl tb43 (ev1 rfl) rfl rfl) ?_
  refine zak rfl rfl rfl (zag [0, 1] [] [] rfl (ev1 rfl) (ec (ev1 rfl) (ec (ev1 rfl) en)) rfl rfl (lcols_d o (k + 1 + 1) ((l ++ layW 1 o.sw) ++ layW 1 o.sh) o.px hcs hpx (by simp only [List.length_append, layW_len]; omega)) rfl rfl rfl rfl rfl rfl) (by simp only [upd, zaa, zab]; exact rfl) ?_
  refine zae ?_
  refine kend [0, 1] (res_none rfl) rfl rfl ?_ ⟨?_, ?_, trivial⟩
  rfl
  exact congrArg (fun z => some (Blk.mix _ (opD o ++ [D.farr 1 z]))) (by omega)
  exact fm_cat (by omega) (by unfold stBy; simp only [List.append_assoc])
set_option maxRecDepth 4000 in
set_option maxHeartbeats 1000000 in
theorem ltarget_d (o : OpM) (k : Nat) (l : List Int) (hn : mayR o.tg = true) (hl : l.length ≤ 40000) : DFun Tryz.prog 75 [.loc 0 0] [.mix 72 (opD o ++ [.farr 1 k]), fmB k (l)] (.tup []) [.mix 72 (opD o ++ [.farr 1 (k + 3)]), fmB (k + 3) (l ++ idB o.tg)] := by
  refine zaj (N := 9) 2 (by kernel_rfl) Tryz.func75 rfl rfl rfl (by simp only [fr0, Nat.zero_add, Nat.reduceAdd]; exact rfl) rfl fun s0 hs0 => ?_
  refine zac ?_
  refine za rfl rfl rfl (zad (.inl rfl) (ev1 rfl)) ?_
  refine za rfl rfl rfl (zad (.inl rfl) (ev1 rfl)) ?_
  refine za rfl rfl rfl (op_nc rfl (ev1 rfl) (fun s v h => by cases h; exact ⟨_, rfl⟩)) ?_
  refine za rfl rfl rfl (zal rfl fo72_0 (ev1 rfl)) ?_
  refine za rfl rfl rfl (zal rfl fo47_9 (ev1 rfl)) ?_
  refine za rfl rfl rfl (op_ldmv (R := [_, _, _]) rfl tb29 (ev1 rfl) rfl rfl rfl) ?_
  refine zak rfl rfl rfl (zag [0, 1] [] [] rfl (ev1 rfl) (ec (ev1 rfl) (ec (ev1 rfl) en)) rfl rfl (lid_d o k l o.tg hn hl) rfl rfl rfl rfl rfl rfl) (by simp only [upd, zaa, zab]; exact rfl) ?_
  refine zae ?_
  refine kend [0, 1] (res_none rfl) rfl rfl ?_ ⟨rfl, rfl, trivial⟩
  rfl
def fnL (f : Nat) : FuncId := match f with
  | 0 => 68
  | 1 => 69
  | 2 => 70
  | 3 => 71
  | 4 => 72
  | 5 => 73
  | 6 => 74
  | _ => 75
theorem lF_d (f : Nat) (hf : f < 8) (o : OpM) (k : Nat) (l : List Int) (h : okF f o) (hl : l.length ≤ 39000) : DFun Tryz.prog (fnL f) [.loc 0 0] [.mix 72 (opD o ++ [.farr 1 k]), fmB k (l)] (.tup []) [.mix 72 (opD o ++ [.farr 1 (k + nF f o)]), fmB (k + nF f o) (l ++ layF f o)] := by
  match f, hf, h with
  | 0, _, h => exact lx_d o k l h (by omega)
  | 1, _, h => exact ly_d o k l h (by omega)
  | 2, _, h => exact lx2_d o k l h (by omega)
  | 3, _, h => exact ly2_d o k l h (by omega)
  | 4, _, h => exact lsize_d o k l h (by omega)
  | 5, _, h => exact lcolor_d o k l h (by omega)
  | 6, _, h => exact lstamp_d o k l h hl
  | 7, _, h => exact ltarget_d o k l h (by omega)
  | n + 8, hf, _ => omega
end Go.Proofs.YtmacjicebemgoaaGreat
namespace Go.Proofs.YtmacjicebemgoaaGreat
set_option linter.unusedVariables false
set_option linter.unusedSimpArgs false
open Go.RowKit
theorem vw_farrS {σ : List Nat} {V : Nat → Bool} {M : List Blk} {Bs : List Mem} {e : TypeId} {j k sz m : Nat} {L : List Value} (hpj : pos σ j = none) (hVj : V j = true) (hMj : M[j]? = some (.fam Bs)) (hB : Bs[k]? = some (.arr e sz m L)) : vw σ V M (.farr j k) = some (.slf sz m L) := by
  unfold vw
  rw [hpj]
  show vwFarr V M j k = _
  unfold vwFarr
  rw [hVj, hMj]
  show (match Bs[k]? with | some (.arr _ sz n L) => some (D.slf sz n L) | _ => none) = _
  rw [hB]
theorem ar83 : arE Tryz.prog 83 = some (9, 1) := by kernel_rfl
theorem sl80 : slE Tryz.prog 80 = some (23, 1, 8) := by kernel_rfl
theorem sl82 : slE Tryz.prog 82 = some (85, 1, 8) := by kernel_rfl
theorem tb83 : tyB Tryz.prog 83 = some (true, 9) := by kernel_rfl
theorem zr72 : zrC Tryz.prog 72 = some [.int .u64 0, .int .i64 0, .int .u64 0, .int .i64 0, .int .i64 0, .int .i64 0, .int .i64 0, .int .i64 0, .int .i64 0, .int .u8 0, .int .u8 0, .int .u8 0, .int .u8 0, .int .i64 0, .int .i64 0, .slice none 0 0, .int .u64 0, .int .i64 0, .int .u64 0, .slice none 0 0] := by kernel_rfl
theorem zr83 : zrC Tryz.prog 83 = some [.slice none 0 0, .slice none 0 0, .slice none 0 0, .slice none 0 0, .slice none 0 0, .slice none 0 0, .slice none 0 0, .slice none 0 0, .slice none 0 0] := by kernel_rfl
theorem zr85 : zrC Tryz.prog 85 = some [.nilFunc] := by kernel_rfl
def rowL' (fn : Nat → FuncId) (k : Nat) : D := .slm 1 (fieldsK k).length ((fieldsK k).flatMap fun f => [.fn (.func (fn f)) [] []])
def rowsF (fn : Nat → FuncId) : List D := [.val (.slice none 0 0), rowL' fn 1, rowL' fn 2, rowL' fn 3, rowL' fn 4, rowL' fn 5, rowL' fn 6, rowL' fn 7, rowL' fn 8]
theorem rowsF_at (fn : Nat → FuncId) {k : Nat} (h : 1 ≤ k ∧ k ≤ 8) : (rowsF fn)[k]? = some (rowL' fn k) := by
  have : k = 1 ∨ k = 2 ∨ k = 3 ∨ k = 4 ∨ k = 5 ∨ k = 6 ∨ k = 7 ∨ k = 8 := by omega
  rcases this with rfl | rfl | rfl | rfl | rfl | rfl | rfl | rfl <;> rfl
set_option maxRecDepth 4000 in
set_option maxHeartbeats 1000000 in
theorem lays_d : DFun Tryz.prog 39 [] [] (.agg (rowsF fnL)) [] := by
  refine zaj (N := 44) 0 (by kernel_rfl) Tryz.func39 rfl rfl rfl (by simp only [fr0, Nat.zero_add, Nat.reduceAdd]; exact rfl) rfl fun s0 hs0 => ?_
  refine zaf ?_
  refine zai 1 (by simp only [holes, List.cons_append, List.nil_append]; exact rfl) ?_
  refine zac ?_
  refine zak rfl rfl rfl (op_alloc 0 rfl zr83 rfl) (by simp only [upd, zaa, zab]; exact rfl) ?_
  refine zae ?_
  refine zaf ?_
  refine zac ?_
  refine za rfl rfl rfl (zad (.inr rfl) (ev1 rfl)) ?_
  refine za rfl rfl rfl (zad (.inr rfl) (ev1 rfl)) ?_
  refine za rfl rfl rfl (zad (.inr rfl) (ev1 rfl)) ?_
  refine za rfl rfl rfl (zad (.inr rfl) (ev1 rfl)) ?_
  refine za rfl rfl rfl (zad (.inr rfl) (ev1 rfl)) ?_
  refine za rfl rfl rfl (zad (.inr rfl) (ev1 rfl)) ?_
  refine zae ?_
  refine zaf ?_
  refine zac ?_
  refine za rfl rfl rfl (zad (.inl rfl) (ev1 rfl)) ?_
  refine za rfl rfl rfl (zad (.inl rfl) (ev1 rfl)) ?_
  refine za rfl rfl rfl (zad (.inl rfl) (ev1 rfl)) ?_
  refine za rfl rfl rfl (zad (.inl rfl) (ev1 rfl)) ?_
  refine za rfl rfl rfl (zad (.inl rfl) (ev1 rfl)) ?_
  refine za rfl rfl rfl (zad (.inl rfl) (ev1 rfl)) ?_
  refine za rfl rfl rfl (op_bsr (ps := [(0, .tmp 7), (1, .tmp 8), (2, .tmp 9), (3, .tmp 10), (4, .tmp 11), (5, .tmp 12)]) rfl sl82 zr85 rfl (ec (ev1 rfl) (ec (ev1 rfl) (ec (ev1 rfl) (ec (ev1 rfl) (ec (ev1 rfl) (ec (ev1 rfl) en)))))) rfl rfl rfl (by rfl) rfl (by decide) (by decide)) ?_
  refine za rfl rfl rfl (zad (.inl rfl) (ev1 rfl)) ?_
  refine za rfl rfl rfl (zad (.inl rfl) (ev1 rfl)) ?_
  refine za rfl rfl rfl (zad (.inl rfl) (ev1 rfl)) ?_
  refine za rfl rfl rfl (zad (.inl rfl) (ev1 rfl)) ?_
  refine za rfl rfl rfl (zad (.inl rfl) (ev1 rfl)) ?_
  refine za rfl rfl rfl (zad (.inl rfl) (ev1 rfl)) ?_
  refine za rfl rfl rfl (op_bsr (ps := [(0, .tmp 14), (1, .tmp 15), (2, .tmp 16), (3, .tmp 17), (4, .tmp 18), (5, .tmp 19)]) rfl sl82 zr85 rfl (ec (ev1 rfl) (ec (ev1 rfl) (ec (ev1 rfl) (ec (ev1 rfl) (ec (ev1 rfl) (ec (ev1 rfl) en)))))) rfl rfl rfl (by rfl) rfl (by decide) (by decide)) ?_
  refine za rfl rfl rfl (zad (.inl rfl) (ev1 rfl)) ?_
  refine za rfl rfl rfl (zad (.inl rfl) (ev1 rfl)) ?_
  refine za rfl rfl rfl (zad (.inl rfl) (ev1 rfl)) ?_
  refine za rfl rfl rfl (zad (.inl rfl) (ev1 rfl)) ?_
  refine za rfl rfl rfl (zad (.inl rfl) (ev1 rfl)) ?_
  refine za rfl rfl rfl (op_bsr (ps := [(0, .tmp 21), (1, .tmp 22), (2, .tmp 23), (3, .tmp 24), (4, .tmp 25)]) rfl sl82 zr85 rfl (ec (ev1 rfl) (ec (ev1 rfl) (ec (ev1 rfl) (ec (ev1 rfl) (ec (ev1 rfl) en))))) rfl rfl rfl (by rfl) rfl (by decide) (by decide)) ?_
  refine za rfl rfl rfl (zad (.inl rfl) (ev1 rfl)) ?_
  refine za rfl rfl rfl (zad (.inl rfl) (ev1 rfl)) ?_
  refine za rfl rfl rfl (zad (.inl rfl) (ev1 rfl)) ?_
  refine za rfl rfl rfl (zad (.inl rfl) (ev1 rfl)) ?_
  refine za rfl rfl rfl (zad (.inl rfl) (ev1 rfl)) ?_
  refine za rfl rfl rfl (op_bsr (ps := [(0, .tmp 27), (1, .tmp 28), (2, .tmp 29), (3, .tmp 30), (4, .tmp 31)]) rfl sl82 zr85 rfl (ec (ev1 rfl) (ec (ev1 rfl) (ec (ev1 rfl) (ec (ev1 rfl) (ec (ev1 rfl) en))))) rfl rfl rfl (by rfl) rfl (by decide) (by decide)) ?_
  refine za rfl rfl rfl (zad (.inl rfl) (ev1 rfl)) ?_
  refine za rfl rfl rfl (zad (.inl rfl) (ev1 rfl)) ?_
  refine za rfl rfl rfl (zad (.inl rfl) (ev1 rfl)) ?_
  refine za rfl rfl rfl (zad (.inl rfl) (ev1 rfl)) ?_
  refine za rfl rfl rfl (op_bsr (ps := [(0, .tmp 33), (1, .tmp 34), (2, .tmp 35), (3, .tmp 36)]) rfl sl82 zr85 rfl (ec (ev1 rfl) (ec (ev1 rfl) (ec (ev1 rfl) (ec (ev1 rfl) en)))) rfl rfl rfl (by rfl) rfl (by decide) (by decide)) ?_
  refine za rfl rfl rfl (zad (.inl rfl) (ev1 rfl)) ?_
  refine za rfl rfl rfl (zad (.inl rfl) (ev1 rfl)) ?_
  refine za rfl rfl rfl (op_bsr (ps := [(0, .tmp 38), (1, .tmp 39), (2, .func 74)]) rfl sl82 zr85 rfl (ec (ev1 rfl) (ec (ev1 rfl) (ec (ev1 rfl) en))) rfl rfl rfl (by rfl) rfl (by decide) (by decide)) ?_
  refine za rfl rfl rfl (op_bsr (ps := [(0, .func 75)]) rfl sl82 zr85 rfl (ec (ev1 rfl) en) rfl rfl rfl (by rfl) rfl (by decide) (by decide)) ?_
  refine za rfl rfl rfl (op_bsr (ps := [(0, .func 75)]) rfl sl82 zr85 rfl (ec (ev1 rfl) en) rfl rfl rfl (by rfl) rfl (by decide) (by decide)) ?_
  refine za rfl rfl rfl (op_bldaD (ps := [(1, .tmp 13), (2, .tmp 20), (3, .tmp 26), (4, .tmp 32), (5, .tmp 37), (6, .tmp 40), (7, .tmp 41), (8, .tmp 42)]) rfl ar83 zr83 (ec (ev1 rfl) (ec (ev1 rfl) (ec (ev1 rfl) (ec (ev1 rfl) (ec (ev1 rfl) (ec (ev1 rfl) (ec (ev1 rfl) (ec (ev1 rfl) en)))))))) rfl rfl rfl rfl) ?_
  refine walk_s rfl rfl (op_stam rfl tb83 (ev1 rfl) (ev1 rfl) rfl rfl rfl rfl) (by simp only [upd, zaa, zab]; exact rfl) ?_
  refine zae ?_
  refine zan ?_
  refine kend0 (rs1 rfl (rv_mw tb83 rfl rfl rfl)) rfl ?_
  rfl
set_option maxRecDepth 4000 in
set_option maxHeartbeats 1000000 in
theorem llaid_d (o : OpM) (k : Nat) (l : List Int) (hl : l.length ≤ 50000) : DFun Tryz.prog 32 [.loc 0 0] [.mix 72 (opD o ++ [.farr 1 k]), fmB k (l)] (.arr 2) [.mix 72 (opD o ++ [.farr 1 k]), fmB k (l), .arr 5 1 (l).length ((l).flatMap uc8)] := by
  refine zaj (N := 8) 2 (by kernel_rfl) Tryz.func32 rfl rfl rfl (by simp only [fr0, Nat.zero_add, Nat.reduceAdd]; exact rfl) rfl fun s0 hs0 => ?_
  refine zaf ?_
  refine zac ?_
  refine za rfl rfl rfl (zad (.inr rfl) (ev1 rfl)) ?_
  refine zae ?_
  refine zaf ?_
  refine zai 1 (by simp only [holes, List.cons_append, List.nil_append]; exact rfl) ?_
  refine zac ?_
  refine za rfl rfl rfl (zad (.inl rfl) (ev1 rfl)) ?_
  refine za rfl rfl rfl (op_nc rfl (ev1 rfl) (fun s v h => by cases h; exact ⟨_, rfl⟩)) ?_
  refine za rfl rfl rfl (zal rfl fo72_1 (ev1 rfl)) ?_
  refine za rfl rfl rfl (op_ldm rfl tb30 (ev1 rfl) rfl rfl) ?_
  refine zak rfl rfl rfl (zag [] [1] [2] rfl (ev1 rfl) (ec (ev1 rfl) en) (vwL_cons' (vw_farrS rfl rfl rfl fm_at) rfl) rfl (cloneB l (by omega)) rfl rfl rfl rfl rfl rfl) (by simp only [upd, zaa, zab]; exact rfl) ?_
  refine za rfl rfl rfl (zad (.inr rfl) (ev1 rfl)) ?_
  refine zae ?_
  refine zan ?_
  refine kend [0, 1, 2] (rs1 rfl (rv_t rfl)) rfl rfl ?_ ⟨rfl, rfl, rfl, trivial⟩
  rfl
def zO : OpM := ⟨zI3, 0, 0, 0, 0, 0, 0, zC4, 0, 0, [], zI3⟩
theorem wkZ : WkL ([.int .u64 0, .int .i64 0, .int .u64 0, .int .i64 0, .int .i64 0, .int .i64 0, .int .i64 0, .int .i64 0, .int .i64 0, .int .u8 0, .int .u8 0, .int .u8 0, .int .u8 0, .int .i64 0, .int .i64 0, .slice none 0 0, .int .u64 0, .int .i64 0, .int .u64 0, .slice none 0 0].map D.val) (opD zO ++ [.val (.slice none 0 0)]) :=
  WkL.cons (Wk.refl _) (WkL.cons (Wk.refl _) (WkL.cons (Wk.refl _) (WkL.cons (Wk.refl _) (WkL.cons (Wk.refl _) (WkL.cons (Wk.refl _) (WkL.cons (Wk.refl _) (WkL.cons (Wk.refl _) (WkL.cons (Wk.refl _) (WkL.cons (Wk.refl _) (WkL.cons (Wk.refl _) (WkL.cons (Wk.refl _) (WkL.cons (Wk.refl _) (WkL.cons (Wk.refl _) (WkL.cons (Wk.refl _) (WkL.cons (Wk.slf0 4) (WkL.cons (Wk.refl _) (WkL.cons (Wk.refl _) (WkL.cons (Wk.refl _) (WkL.cons (Wk.refl _) (WkL.nil))))))))))))))))))))
set_option maxRecDepth 4000 in
set_option maxHeartbeats 1000000 in
theorem cid_o (i : I3) (hi : mayR i = true) : DFun Tryz.prog 7 [.val (.agg (idc i).toArray)] [] (.tup [.arr 0, .val (.int .i64 0)]) [.arr 5 1 (idB i).length ((idB i).flatMap uc8)] := by
  refine zaj (N := 14) 0 (by kernel_rfl) Tryz.func7 rfl rfl rfl (by simp only [fr0, Nat.zero_add, Nat.reduceAdd]; exact rfl) rfl fun s0 hs0 => ?_
  refine zaf ?_
  refine zai 1 (by simp only [holes, List.cons_append, List.nil_append]; exact rfl) ?_
  refine zac ?_
  refine zak rfl rfl rfl (op_boxa 0 rfl (ev1 rfl) rfl) (by simp only [upd, zaa, zab]; exact rfl) ?_
  refine za rfl rfl rfl (zad (.inr rfl) (ev1 rfl)) ?_
  refine za rfl rfl rfl (zad (.inr rfl) (ev1 rfl)) ?_
  refine zae ?_
  refine zaf ?_
  refine zaf ?_
  refine zac ?_
  refine za rfl rfl rfl (op_ldw rfl tb29 (ev1 rfl) rfl rfl) ?_
  refine za rfl rfl rfl (zag [] [] [] rfl (ev1 rfl) (ec (ev1 rfl) en) rfl rfl (idCheck_d i) rfl rfl rfl rfl rfl rfl) ?_
  refine za rfl rfl rfl (zad (.inr rfl) (ev1 rfl)) ?_
  refine zae ?_
  refine zaf ?_
  refine zac ?_
  refine za rfl rfl rfl (zad (.inl rfl) (ev1 rfl)) ?_
  refine za rfl rfl rfl (op_neq rfl (ev1 rfl) (ev1 rfl)) ?_
  refine zae ?_
  refine dwp_if_f rfl (by rw [hi]; rfl) ?_
  refine zam ?_
  refine zaf ?_
  refine zai 1 (by simp only [holes, List.cons_append, List.nil_append]; exact rfl) ?_
  refine zac ?_
  refine zak rfl rfl rfl (op_alloc 1 rfl zr72 rfl) (by simp only [upd, zaa, zab]; exact rfl) ?_
  refine zae ?_
  refine zaf ?_
  refine dwp_reb 1 reb_mix rfl rfl (by simp only [List.cons_append, List.nil_append, zaa, zab, List.map]; exact rfl) ?_
  refine dwp_reb 1 (reb_wk wkZ) rfl rfl (by simp only [List.cons_append, List.nil_append, zaa, zab, List.map]; exact rfl) ?_
  refine dwp_adoptc (l' := opD zO ++ [.arr 2]) 1 19 5 1 rfl rfl rfl rfl (by simp only [List.cons_append, List.nil_append, zaa, zab, List.length_cons, List.length_nil, Nat.zero_add, Nat.reduceAdd]; exact rfl) ?_
  refine dwp_reb 2 reb_arr rfl rfl (by simp only [List.cons_append, List.nil_append, zaa, zab, List.length_cons, List.length_nil, Nat.zero_add, Nat.reduceAdd]; exact rfl) ?_
  refine dwp_hole ?_
  refine dwp_fam 3 rfl (by simp only [List.cons_append, List.nil_append, zaa, zab, List.length_cons, List.length_nil, Nat.zero_add, Nat.reduceAdd]; exact rfl) ?_
  refine dwp_absc 1 19 3 rfl rfl rfl rfl (by simp only [List.cons_append, List.nil_append, zaa, zab, List.length_cons, List.length_nil, Nat.zero_add, Nat.reduceAdd]; exact rfl) ?_
  refine zac ?_
  refine za rfl rfl rfl (op_ldw rfl tb29 (ev1 rfl) rfl rfl) ?_
  refine zak rfl rfl rfl (zag [1, 3] [] [] rfl (ev1 rfl) (ec (ev1 rfl) (ec (ev1 rfl) en)) rfl rfl (lid_d zO 0 [] i hi (by decide)) rfl rfl rfl rfl rfl rfl) (by simp only [upd, zaa, zab]; exact rfl) ?_
  refine zae ?_
  refine zaf ?_
  refine zai 1 (by simp only [holes, List.cons_append, List.nil_append]; exact rfl) ?_
  refine zac ?_
  refine zak rfl rfl rfl (zag [1, 3] [] [4] rfl (ev1 rfl) (ec (ev1 rfl) en) rfl rfl (llaid_d zO (0 + 3) (idB i) (by rw [idB_len]; omega)) rfl rfl rfl rfl rfl rfl) (by simp only [upd, zaa, zab]; exact rfl) ?_
  refine za rfl rfl rfl (zad (.inr rfl) (ev1 rfl)) ?_
  refine za rfl rfl rfl (zad (.inr rfl) (ev1 rfl)) ?_
  refine zae ?_
  refine zan ?_
  refine kend [4] (rs2 rfl (rv_t rfl) (rv_t rfl)) rfl rfl ?_ ⟨rfl, trivial⟩
  rfl
set_option maxRecDepth 4000 in
set_option maxHeartbeats 1000000 in
theorem cid_no (i : I3) (hi : mayR i = false) : DFun Tryz.prog 7 [.val (.agg (idc i).toArray)] [] (.tup [.val (.slice none 0 0), .val (.int .i64 210)]) [] := by
  refine zaj (N := 14) 0 (by kernel_rfl) Tryz.func7 rfl rfl rfl (by simp only [fr0, Nat.zero_add, Nat.reduceAdd]; exact rfl) rfl fun s0 hs0 => ?_
  refine zaf ?_
  refine zai 1 (by simp only [holes, List.cons_append, List.nil_append]; exact rfl) ?_
  refine zac ?_
  refine zak rfl rfl rfl (op_boxa 0 rfl (ev1 rfl) rfl) (by simp only [upd, zaa, zab]; exact rfl) ?_
  refine za rfl rfl rfl (zad (.inr rfl) (ev1 rfl)) ?_
  refine za rfl rfl rfl (zad (.inr rfl) (ev1 rfl)) ?_
  refine zae ?_
  refine zaf ?_
  refine zaf ?_
  refine zac ?_
  refine za rfl rfl rfl (op_ldw rfl tb29 (ev1 rfl) rfl rfl) ?_
  refine za rfl rfl rfl (zag [] [] [] rfl (ev1 rfl) (ec (ev1 rfl) en) rfl rfl (idCheck_d i) rfl rfl rfl rfl rfl rfl) ?_
  refine za rfl rfl rfl (zad (.inr rfl) (ev1 rfl)) ?_
  refine zae ?_
  refine zaf ?_
  refine zac ?_
  refine za rfl rfl rfl (zad (.inl rfl) (ev1 rfl)) ?_
  refine za rfl rfl rfl (op_neq rfl (ev1 rfl) (ev1 rfl)) ?_
  refine zae ?_
  refine dwp_if_t rfl (by rw [hi]; rfl) ?_
  refine zaf ?_
  refine zac ?_
  refine za rfl rfl rfl (zad (.inl rfl) (ev1 rfl)) ?_
  refine za rfl rfl rfl (zad (.inr rfl) (ev1 rfl)) ?_
  refine za rfl rfl rfl (zad (.inr rfl) (ev1 rfl)) ?_
  refine zae ?_
  refine zan ?_
  refine kend0 (rs2 rfl (rv_t rfl) (rv_t rfl)) rfl ?_
  rw [hi]
  rfl
theorem cid_ok (i : I3) (hi : mayR i = true) : DFun Tryz.prog 7 [.val (.agg (idc i).toArray)] [] (.tup [.slf 1 (idB i).length ((idB i).flatMap uc8), .val (.int .i64 0)]) [] := freeze (cid_o i hi) rfl
set_option maxRecDepth 4000 in
set_option maxHeartbeats 1000000 in
theorem cvec_no (v : Vec) (hv : vB v = false) : DFun Tryz.prog 11 [.val (.agg (c9 v).toArray)] [] (.tup [.val (.slice none 0 0), .val (.int .i64 230)]) [] := by
  refine zaj (N := 26) 0 (by kernel_rfl) Tryz.func11 rfl rfl rfl (by simp only [fr0, Nat.zero_add, Nat.reduceAdd]; exact rfl) rfl fun s0 hs0 => ?_
  refine zaf ?_
  refine zai 1 (by simp only [holes, List.cons_append, List.nil_append]; exact rfl) ?_
  refine zac ?_
  refine zak rfl rfl rfl (op_boxa 0 rfl (ev1 rfl) rfl) (by simp only [upd, zaa, zab]; exact rfl) ?_
  refine za rfl rfl rfl (zad (.inr rfl) (ev1 rfl)) ?_
  refine za rfl rfl rfl (zad (.inr rfl) (ev1 rfl)) ?_
  refine zae ?_
  refine zaf ?_
  refine zaf ?_
  refine zac ?_
  refine za rfl rfl rfl (op_ldw rfl tb25 (ev1 rfl) rfl rfl) ?_
  refine za rfl rfl rfl (zag [] [] [] rfl (ev1 rfl) (ec (ev1 rfl) en) rfl rfl (vCheck_d v) rfl rfl rfl rfl rfl rfl) ?_
  refine za rfl rfl rfl (zad (.inr rfl) (ev1 rfl)) ?_
  refine zae ?_
  refine zaf ?_
  refine zac ?_
  refine za rfl rfl rfl (zad (.inl rfl) (ev1 rfl)) ?_
  refine za rfl rfl rfl (op_neq rfl (ev1 rfl) (ev1 rfl)) ?_
  refine zae ?_
  refine dwp_if_t rfl (by rw [hv]; rfl) ?_
  refine zaf ?_
  refine zac ?_
  refine za rfl rfl rfl (zad (.inl rfl) (ev1 rfl)) ?_
  refine za rfl rfl rfl (zad (.inr rfl) (ev1 rfl)) ?_
  refine za rfl rfl rfl (zad (.inr rfl) (ev1 rfl)) ?_
  refine zae ?_
  refine zan ?_
  refine kend0 (rs2 rfl (rv_t rfl) (rv_t rfl)) rfl ?_
  rw [hv]
  rfl
theorem nums_at {v : Vec} (hv : vB v = true) {n : Int} (h : n ∈ numsV v) : 0 ≤ n ∧ n < (256 ^ 8 : Nat) := by
  have e8 : ((256 ^ 8 : Nat) : Int) = 18446744073709551616 := by decide
  rw [e8]
  have h9 := (vB_iff.1 hv).2
  unfold numsV at h
  simp only [List.mem_cons, List.not_mem_nil, or_false] at h
  have a1 := h9 1 (by decide)
  have a2 := h9 2 (by decide)
  have a3 := h9 3 (by decide)
  have a4 := h9 4 (by decide)
  have a5 := h9 5 (by decide)
  have a6 := h9 6 (by decide)
  have a7 := h9 7 (by decide)
  have a8 := h9 8 (by decide)
  unfold LAST at a1 a2 a3 a4 a5 a6 a7 a8
  rcases h with h | h | h | h | h | h | h | h <;> subst h <;> omega
theorem numsL_len (l : List Int) : (numsL l).length = 8 * l.length := by
  unfold numsL
  induction l with
  | nil => rfl
  | cons a l ih => rw [List.flatMap_cons, List.length_append, ih, layW_len, List.length_cons]; omega
theorem numsL_take {l : List Int} {j : Nat} (h : j < l.length) : numsL (l.take (j + 1)) = numsL (l.take j) ++ layW 8 l[j] := by
  unfold numsL
  rw [List.take_succ_eq_append_getElem h, List.flatMap_append]
  simp
set_option maxRecDepth 4000 in
set_option maxHeartbeats 1000000 in
theorem cvec_o (v : Vec) (hv : vB v = true) : DFun Tryz.prog 11 [.val (.agg (c9 v).toArray)] [] (.tup [.arr 0, .val (.int .i64 0)]) [.arr 5 1 (vecL v).length ((vecL v).flatMap uc8)] := by
  refine zaj (N := 26) 0 (by kernel_rfl) Tryz.func11 rfl rfl rfl (by simp only [fr0, Nat.zero_add, Nat.reduceAdd]; exact rfl) rfl fun s0 hs0 => ?_
  refine zaf ?_
  refine zai 1 (by simp only [holes, List.cons_append, List.nil_append]; exact rfl) ?_
  refine zac ?_
  refine zak rfl rfl rfl (op_boxa 0 rfl (ev1 rfl) rfl) (by simp only [upd, zaa, zab]; exact rfl) ?_
  refine za rfl rfl rfl (zad (.inr rfl) (ev1 rfl)) ?_
  refine za rfl rfl rfl (zad (.inr rfl) (ev1 rfl)) ?_
  refine zae ?_
  refine zaf ?_
  refine zaf ?_
  refine zac ?_
  refine za rfl rfl rfl (op_ldw rfl tb25 (ev1 rfl) rfl rfl) ?_
  refine za rfl rfl rfl (zag [] [] [] rfl (ev1 rfl) (ec (ev1 rfl) en) rfl rfl (vCheck_d v) rfl rfl rfl rfl rfl rfl) ?_
  refine za rfl rfl rfl (zad (.inr rfl) (ev1 rfl)) ?_
  refine zae ?_
  refine zaf ?_
  refine zac ?_
  refine za rfl rfl rfl (zad (.inl rfl) (ev1 rfl)) ?_
  refine za rfl rfl rfl (op_neq rfl (ev1 rfl) (ev1 rfl)) ?_
  refine zae ?_
  refine dwp_if_f rfl (by rw [hv]; rfl) ?_
  refine zam ?_
  refine zaf ?_
  refine zai 1 (by simp only [holes, List.cons_append, List.nil_append]; exact rfl) ?_
  refine zac ?_
  refine zak rfl rfl rfl (op_alloc 1 rfl zr72 rfl) (by simp only [upd, zaa, zab]; exact rfl) ?_
  refine zae ?_
  refine zaf ?_
  refine dwp_reb 1 reb_mix rfl rfl (by simp only [List.cons_append, List.nil_append, zaa, zab, List.map]; exact rfl) ?_
  refine dwp_reb 1 (reb_wk wkZ) rfl rfl (by simp only [List.cons_append, List.nil_append, zaa, zab, List.map]; exact rfl) ?_
  refine dwp_adoptc (l' := opD zO ++ [.arr 2]) 1 19 5 1 rfl rfl rfl rfl (by simp only [List.cons_append, List.nil_append, zaa, zab, List.length_cons, List.length_nil, Nat.zero_add, Nat.reduceAdd]; exact rfl) ?_
  refine dwp_reb 2 reb_arr rfl rfl (by simp only [List.cons_append, List.nil_append, zaa, zab, List.length_cons, List.length_nil, Nat.zero_add, Nat.reduceAdd]; exact rfl) ?_
  refine dwp_hole ?_
  refine dwp_fam 3 rfl (by simp only [List.cons_append, List.nil_append, zaa, zab, List.length_cons, List.length_nil, Nat.zero_add, Nat.reduceAdd]; exact rfl) ?_
  refine dwp_absc 1 19 3 rfl rfl rfl rfl (by simp only [List.cons_append, List.nil_append, zaa, zab, List.length_cons, List.length_nil, Nat.zero_add, Nat.reduceAdd]; exact rfl) ?_
  refine zac ?_
  refine za rfl rfl rfl (op_mkf rfl (ec (ev1 rfl) en) en) ?_
  refine za rfl rfl rfl (zad (.inr rfl) (ev1 rfl)) ?_
  refine zae ?_
  refine zaf ?_
  refine zaf ?_
  refine dwp_view ⟨hs0, rfl⟩ [1, 3] [0] [(1, _), (2, _), (3, _), (5, _), (6, _)] [_, _] rfl ⟨rfl, rfl, rfl, rfl, rfl, trivial⟩ ⟨rfl, rfl, trivial⟩ ?_
  refine zac ?_
  refine za rfl rfl rfl (op_slad (p := 1) (q := 9) rfl ar25 (evwk (ev1 rfl) (Wk.of_eq (show D.dpf (c9 v) = D.dpf ((((v 0 : Nat) : Int) :: numsV v).flatMap uc) from rfl))) (bd_some (ev1 rfl)) bd_none (fun _ => rfl) (fun _ => rfl) (fun _ => by decide) (rfl) (by decide) (fun _ => rfl)) ?_
  refine za rfl rfl rfl ((op_len rfl sl80 (ev1 rfl)).cast (d' := .val (.int .i64 8)) (by rfl)) ?_
  refine za rfl rfl rfl (zad (.inl rfl) (ev1 rfl)) ?_
  refine zae ?_
  refine dwp_block ?_
  refine dwp_wk 15 rfl (Wk.of_eq (show _ = .slf 1 (numsV v).length ((numsV v).flatMap uc) from rfl)) ?_
  refine dwp_loopS ⟨hs0, rfl⟩ (α := Nat) (fun j => [(17, .val (.int .i64 (j : Int)))]) [(5, _), (6, _), (15, _), (16, _)] (fun j => [(0, .mix 72 (opD zO ++ [.farr 1 j])), (1, fmB j (numsL ((numsV v).take j)))]) [.hole, .hole] (fun j => j ≤ 8) (fun j => 8 - j) 0 [0, 1] (by omega) rfl ⟨rfl, rfl, rfl, rfl, trivial⟩ ⟨rfl, trivial⟩ ⟨rfl, rfl, trivial⟩ ?_
  intro j hx
  simp only [upd, zaa, zab, List.cons_append, List.nil_append]
  have hj := hx
  have hn8 : (numsV v).length = 8 := rfl
  have hlj := numsL_len ((numsV v).take j)
  rw [List.length_take] at hlj
  refine zaf ?_
  refine zac ?_
  refine za rfl rfl rfl (op_lss rfl (ev1 rfl) (ev1 rfl)) ?_
  refine zae ?_
  refine zaf ?_
  refine dwp_cond rfl (fun c2 => ?_) (fun c2 => ?_)
  · try simp only [decide_eq_true_eq, decide_eq_false_iff_not, beq_iff_eq, bne_iff_ne, beq_eq_false_iff_ne, bne_eq_false_iff_eq, Bool.not_eq_true', Bool.not_eq_false', Bool.and_eq_true, Bool.or_eq_true, Bool.or_eq_false_iff, ne_eq, Decidable.not_not, Int.not_lt, Int.not_le] at c2
    refine zam ?_
    refine zaf ?_
    refine dwp_block ?_
    refine zaf ?_
    refine zac ?_
    refine za rfl rfl rfl (op_ixsr (l := numsV v) (en := uc) (j := j) rfl sl80 (ev1 rfl) (ev1 rfl) (fun _ => rfl) (by decide) (by omega) (by rw [hn8]; omega)) ?_
    refine za rfl rfl rfl (op_ldod rfl tb23 (ev1 rfl) rfl) ?_
    refine za rfl rfl rfl (zad (.inr rfl) (ev1 rfl)) ?_
    refine zae ?_
    refine zac ?_
    refine za rfl rfl rfl (zad (.inl rfl) (ev1 rfl)) ?_
    refine za rfl rfl rfl (zad (.inl rfl) (ev1 rfl)) ?_
    refine zak rfl rfl rfl (zag [0, 1] [] [] rfl (ev1 rfl) (ec (ev1 rfl) (ec (ev1 rfl) en)) rfl rfl (lnum_d zO j (numsL ((numsV v).take j)) 8 (numsV v)[j] (by decide) (nums_at hv (List.getElem_mem _)) (by omega)) rfl rfl rfl rfl rfl rfl) (by simp only [upd, zaa, zab]; exact rfl) ?_
    refine zae ?_
    refine zac ?_
    refine za rfl rfl rfl (op_add' rfl (ev1 rfl) (ev1 rfl) (fun _ => IntWalk.i64_in _ (by omega))) ?_
    refine za rfl rfl rfl (zad (.inl rfl) (ev1 rfl)) ?_
    refine zae ?_
    refine ⟨j + 1, [0, 1], by omega, by simp only []; omega, rfl, ⟨rfl, rfl, rfl, rfl, rfl, trivial⟩, ⟨rfl, fm_cat rfl (by rw [numsL_take (by rw [hn8]; omega)]), trivial⟩⟩
  · try simp only [decide_eq_true_eq, decide_eq_false_iff_not, beq_iff_eq, bne_iff_ne, beq_eq_false_iff_ne, bne_eq_false_iff_eq, Bool.not_eq_true', Bool.not_eq_false', Bool.and_eq_true, Bool.or_eq_true, Bool.or_eq_false_iff, ne_eq, Decidable.not_not, Int.not_lt, Int.not_le] at c2
    refine dwp_exit ?_
    refine zaf ?_
    obtain rfl : j = 8 := by omega
    refine zai 1 (by simp only [holes, List.cons_append, List.nil_append]; exact rfl) ?_
    refine zac ?_
    refine zak rfl rfl rfl (zag [0, 1] [] [2] rfl (ev1 rfl) (ec (ev1 rfl) en) rfl rfl (llaid_d zO (8) (numsL ((numsV v).take 8)) (by omega)) rfl rfl rfl rfl rfl rfl) (by simp only [upd, zaa, zab]; exact rfl) ?_
    refine za rfl rfl rfl (zad (.inr rfl) (ev1 rfl)) ?_
    refine za rfl rfl rfl (zad (.inr rfl) (ev1 rfl)) ?_
    refine zae ?_
    refine zan ?_
    refine kend [2] (rs2 rfl (rv_t rfl) (rv_t rfl)) rfl rfl ?_ ⟨rfl, trivial⟩
    rfl
end Go.Proofs.YtmacjicebemgoaaGreat
namespace Go.Proofs.YtmacjicebemgoaaGreat
set_option linter.unusedVariables false
set_option linter.unusedSimpArgs false
open Go.RowKit
attribute [local irreducible] opL layW idB layF fieldsK kdN
theorem aw83 : arW Tryz.prog 83 = some 9 := by kernel_rfl
theorem fl72 : fdL Tryz.prog 72 = some [(0, 19), (19, 1)] := by kernel_rfl
theorem tb47 : tyB Tryz.prog 47 = some (true, 19) := by kernel_rfl
theorem tb72 : tyB Tryz.prog 72 = some (true, 20) := by kernel_rfl
theorem tb85 : tyB Tryz.prog 85 = some (false, 1) := by kernel_rfl
set_option maxRecDepth 4000 in
set_option maxHeartbeats 1000000 in
theorem cop_no (o : OpM) (h : opB o = false) : DFun Tryz.prog 15 [.agg (opD o)] [] (.tup [.val (.slice none 0 0), .val (.int .i64 220)]) [] := by
  refine zaj (N := 35) 0 (by kernel_rfl) Tryz.func15 rfl rfl rfl (by simp only [fr0, Nat.zero_add, Nat.reduceAdd]; exact rfl) rfl fun s0 hs0 => ?_
  refine zaf ?_
  refine zai 1 (by simp only [holes, List.cons_append, List.nil_append]; exact rfl) ?_
  refine zac ?_
  refine zak rfl rfl rfl (op_boxam 0 rfl (ev1 rfl) rfl) (by simp only [upd, zaa, zab]; exact rfl) ?_
  refine za rfl rfl rfl (zad (.inr rfl) (ev1 rfl)) ?_
  refine za rfl rfl rfl (zad (.inr rfl) (ev1 rfl)) ?_
  refine zae ?_
  refine zaf ?_
  refine zaf ?_
  refine zac ?_
  refine za rfl rfl rfl (op_ldmw rfl tb47 (ev1 rfl) rfl rfl) ?_
  refine za rfl rfl rfl (zag [] [] [] rfl (ev1 rfl) (ec (ev1 rfl) en) rfl rfl (opCheck_d o) rfl rfl rfl rfl rfl rfl) ?_
  refine za rfl rfl rfl (zad (.inr rfl) (ev1 rfl)) ?_
  refine zae ?_
  refine zaf ?_
  refine zac ?_
  refine za rfl rfl rfl (zad (.inl rfl) (ev1 rfl)) ?_
  refine za rfl rfl rfl (op_neq rfl (ev1 rfl) (ev1 rfl)) ?_
  refine zae ?_
  refine dwp_if_t rfl (by rw [h]; rfl) ?_
  refine zaf ?_
  refine zac ?_
  refine za rfl rfl rfl (zad (.inl rfl) (ev1 rfl)) ?_
  refine za rfl rfl rfl (zad (.inr rfl) (ev1 rfl)) ?_
  refine za rfl rfl rfl (zad (.inr rfl) (ev1 rfl)) ?_
  refine zae ?_
  refine zan ?_
  refine kend0 (rs2 rfl (rv_t rfl) (rv_t rfl)) rfl ?_
  rw [h]
  rfl
set_option maxRecDepth 4000 in
set_option maxHeartbeats 1000000 in
theorem cop_o (o : OpM) (h : okO o) : DFun Tryz.prog 15 [.agg (opD o)] [] (.tup [.arr 0, .val (.int .i64 0)]) [.arr 5 1 (opL o).length ((opL o).flatMap uc8)] := by
  refine zaj (N := 35) 0 (by kernel_rfl) Tryz.func15 rfl rfl rfl (by simp only [fr0, Nat.zero_add, Nat.reduceAdd]; exact rfl) rfl fun s0 hs0 => ?_
  refine zaf ?_
  obtain ⟨hkN, hk⟩ := kdN_eq h.1
  have hid : mayR o.id = true := opB_idm h.1
  have hok := okF_of h
  have e1 : ((256 ^ 1 : Nat) : Int) = 256 := by decide
  refine zai 1 (by simp only [holes, List.cons_append, List.nil_append]; exact rfl) ?_
  refine zac ?_
  refine zak rfl rfl rfl (op_boxam 0 rfl (ev1 rfl) rfl) (by simp only [upd, zaa, zab]; exact rfl) ?_
  refine za rfl rfl rfl (zad (.inr rfl) (ev1 rfl)) ?_
  refine za rfl rfl rfl (zad (.inr rfl) (ev1 rfl)) ?_
  refine zae ?_
  refine zaf ?_
  refine zaf ?_
  refine zac ?_
  refine za rfl rfl rfl (op_ldmw rfl tb47 (ev1 rfl) rfl rfl) ?_
  refine za rfl rfl rfl (zag [] [] [] rfl (ev1 rfl) (ec (ev1 rfl) en) rfl rfl (opCheck_d o) rfl rfl rfl rfl rfl rfl) ?_
  refine za rfl rfl rfl (zad (.inr rfl) (ev1 rfl)) ?_
  refine zae ?_
  refine zaf ?_
  refine zac ?_
  refine za rfl rfl rfl (zad (.inl rfl) (ev1 rfl)) ?_
  refine za rfl rfl rfl (op_neq rfl (ev1 rfl) (ev1 rfl)) ?_
  refine zae ?_
  refine dwp_if_f rfl (by rw [h.1]; rfl) ?_
  refine zam ?_
  refine zaf ?_
  refine zai 1 (by simp only [holes, List.cons_append, List.nil_append]; exact rfl) ?_
  refine zac ?_
  refine za rfl rfl rfl (op_ldmw rfl tb47 (ev1 rfl) rfl rfl) ?_
  refine za rfl rfl rfl ((op_bldD (ps := [(0, .tmp 13)]) rfl fl72 zr72 (ec (ev1 rfl) en) rfl rfl rfl).cast (d' := .agg (opD o ++ [.val (.slice none 0 0)])) (by kernel_rfl)) ?_
  refine zak rfl rfl rfl (op_alloc 1 rfl zr72 rfl) (by simp only [upd, zaa, zab]; exact rfl) ?_
  refine walk_s rfl rfl (op_stam rfl tb72 (ev1 rfl) (ev1 rfl) rfl rfl rfl rfl) (by simp only [upd, zaa, zab]; exact rfl) ?_
  refine zae ?_
  refine zaf ?_
  refine dwp_adoptc (l' := opD o ++ [.arr 2]) 1 19 5 1 rfl rfl rfl rfl (by simp only [List.cons_append, List.nil_append, zaa, zab, List.length_cons, List.length_nil, Nat.zero_add, Nat.reduceAdd]; exact rfl) ?_
  refine dwp_reb 2 reb_arr rfl rfl (by simp only [List.cons_append, List.nil_append, zaa, zab, List.length_cons, List.length_nil, Nat.zero_add, Nat.reduceAdd]; exact rfl) ?_
  refine dwp_hole ?_
  refine dwp_fam 3 rfl (by simp only [List.cons_append, List.nil_append, zaa, zab, List.length_cons, List.length_nil, Nat.zero_add, Nat.reduceAdd]; exact rfl) ?_
  refine dwp_absc 1 19 3 rfl rfl rfl rfl (by simp only [List.cons_append, List.nil_append, zaa, zab, List.length_cons, List.length_nil, Nat.zero_add, Nat.reduceAdd]; exact rfl) ?_
  refine zac ?_
  refine za rfl rfl rfl (zal rfl fo47_1 (ev1 rfl)) ?_
  refine za rfl rfl rfl (op_ldm rfl tb3 (ev1 rfl) rfl rfl) ?_
  refine za rfl rfl rfl (op_conv' ty3 kn23 rfl (ev1 rfl) (fun _ => IntWalk.u64_in _ (by omega))) ?_
  refine zak rfl rfl rfl (zag [1, 3] [] [] rfl (ev1 rfl) (ec (ev1 rfl) (ec (ev1 rfl) (ec (ev1 rfl) en))) rfl rfl (lnum_d o 0 [] 1 o.kd (by decide) (by rw [e1]; omega) (by decide)) rfl rfl rfl rfl rfl rfl) (by simp only [upd, zaa, zab]; exact rfl) ?_
  refine zae ?_
  refine zaf ?_
  refine zac ?_
  refine za rfl rfl rfl (zal rfl fo47_0 (ev1 rfl)) ?_
  refine za rfl rfl rfl (op_ldmv (R := [_, _, _]) rfl tb29 (ev1 rfl) rfl rfl rfl) ?_
  refine zak rfl rfl rfl (zag [1, 3] [] [] rfl (ev1 rfl) (ec (ev1 rfl) (ec (ev1 rfl) en)) rfl rfl (lid_d o (0 + 1) (layW 1 o.kd) o.id hid (by rw [layW_len]; omega)) rfl rfl rfl rfl rfl rfl) (by simp only [upd, zaa, zab]; exact rfl) ?_
  refine zae ?_
  refine zaf ?_
  refine zaf ?_
  refine dwp_draw [([], []), ([], []), ([0], []), ([], []), ([], []), ([], [])] mixed (by kernel_rfl) ?_
  refine lex_r rfl rfl (zag [] [] [] rfl (ev1 rfl) en rfl rfl (lays_d) rfl rfl rfl rfl rfl rfl) ?_
  refine lex_r rfl rfl (zal rfl fo47_1 (ev1 rfl)) ?_
  refine lex_r rfl rfl ((op_ldm rfl tb3 (ev1 rfl) rfl rfl).cast (d' := .val (.int .i64 (kdN o : Int))) (by rw [hkN])) ?_
  refine lex_r rfl rfl (op_ixw (kdN o) rfl aw83 (ev1 rfl) (ev1 rfl) (fun _ => rfl) (by omega) (rowsF_at fnL hk)) ?_
  refine lex_r rfl rfl (op_lenm rfl sl82 (ev1 rfl)) ?_
  refine lex_r rfl rfl (zad (.inl rfl) (ev1 rfl)) ?_
  refine lex_nil ?_
  refine dwp_block ?_
  refine dwp_loopS ⟨hs0, rfl⟩ (α := Nat × Nat) (fun x => [(27, .val (.int .i64 (x.1 : Int)))]) [(5, _), (25, _), (26, _)] (fun x => [(1, .mix 72 (opD o ++ [.farr 3 x.2])), (3, fmB x.2 (layW 1 o.kd ++ (idB o.id ++ ((fieldsK (kdN o)).take x.1).flatMap fun f => layF f o)))]) [_, .hole, _, .hole] (fun x => x.1 ≤ (fieldsK (kdN o)).length) (fun x => (fieldsK (kdN o)).length - x.1) (0, 0 + 1 + 3) [0, 1, 2, 3] (by simp) rfl ⟨rfl, rfl, rfl, trivial⟩ ⟨rfl, trivial⟩ ⟨rfl, rfl, rfl, fm_cat rfl (by simp), trivial⟩ ?_
  intro x hx
  simp only [upd, zaa, zab, List.cons_append, List.nil_append]
  have hj := hx
  have h6 := fieldsK_len (kdN o)
  have hbl := fs_len (o := o) (fs := (fieldsK (kdN o)).take x.1) fun f hf => hok f (List.mem_of_mem_take hf)
  rw [List.length_take] at hbl
  refine zaf ?_
  refine zac ?_
  refine za rfl rfl rfl (op_lss rfl (ev1 rfl) (ev1 rfl)) ?_
  refine zae ?_
  refine zaf ?_
  refine dwp_cond rfl (fun c2 => ?_) (fun c2 => ?_)
  · try simp only [decide_eq_true_eq, decide_eq_false_iff_not, beq_iff_eq, bne_iff_ne, beq_eq_false_iff_ne, bne_eq_false_iff_eq, Bool.not_eq_true', Bool.not_eq_false', Bool.and_eq_true, Bool.or_eq_true, Bool.or_eq_false_iff, ne_eq, Decidable.not_not, Int.not_lt, Int.not_le] at c2
    refine zam ?_
    refine zaf ?_
    refine dwp_block ?_
    refine zaf ?_
    refine zac ?_
    refine za rfl rfl rfl (op_ixm (x.1) rfl sl82 (ev1 rfl) (ev1 rfl) (fun _ => rfl) (flat1_at (by omega))) ?_
    refine za rfl rfl rfl (op_lddm rfl tb85 (ev1 rfl) rfl) ?_
    refine za rfl rfl rfl (zad (.inr rfl) (ev1 rfl)) ?_
    refine zae ?_
    refine zac ?_
    refine za rfl rfl rfl (zad (.inl rfl) (ev1 rfl)) ?_
    refine zak rfl rfl rfl (zag [1, 3] [] [] rfl (ev1 rfl) (ec (ev1 rfl) en) rfl rfl (lF_d (fieldsK (kdN o))[x.1] (fieldsK_lt _ _ (List.getElem_mem _)) o x.2 (layW 1 o.kd ++ (idB o.id ++ ((fieldsK (kdN o)).take x.1).flatMap fun f => layF f o)) (hok _ (List.getElem_mem _)) (by simp only [List.length_append, layW_len, idB_len]; omega)) rfl rfl rfl rfl rfl rfl) (by simp only [upd, zaa, zab]; exact rfl) ?_
    refine zae ?_
    refine zac ?_
    refine za rfl rfl rfl (op_add' rfl (ev1 rfl) (ev1 rfl) (fun _ => IntWalk.i64_in _ (by omega))) ?_
    refine za rfl rfl rfl (zad (.inl rfl) (ev1 rfl)) ?_
    refine zae ?_
    refine ⟨(x.1 + 1, x.2 + nF (fieldsK (kdN o))[x.1] o), [0, 1, 2, 3], by show x.1 + 1 ≤ _; omega, by show (fieldsK (kdN o)).length - (x.1 + 1) < (fieldsK (kdN o)).length - x.1; omega, rfl, ⟨rfl, rfl, rfl, rfl, trivial⟩, ⟨rfl, rfl, rfl, fm_cat rfl (by rw [fs_take (by omega)]; simp only [List.append_assoc]), trivial⟩⟩
  · try simp only [decide_eq_true_eq, decide_eq_false_iff_not, beq_iff_eq, bne_iff_ne, beq_eq_false_iff_ne, bne_eq_false_iff_eq, Bool.not_eq_true', Bool.not_eq_false', Bool.and_eq_true, Bool.or_eq_true, Bool.or_eq_false_iff, ne_eq, Decidable.not_not, Int.not_lt, Int.not_le] at c2
    refine dwp_exit ?_
    refine zaf ?_
    have hfin : layW 1 o.kd ++ (idB o.id ++ ((fieldsK (kdN o)).take x.1).flatMap fun f => layF f o) = opL o := by rw [show x.1 = (fieldsK (kdN o)).length by omega, List.take_length, opL_fields (opB_kd h.1)]
    have hol := opL_len h
    rw [hfin]
    refine zai 1 (by simp only [holes, List.cons_append, List.nil_append]; exact rfl) ?_
    refine zac ?_
    refine zak rfl rfl rfl (zag [1, 3] [] [4] rfl (ev1 rfl) (ec (ev1 rfl) en) rfl rfl (llaid_d o (x.2) (opL o) (by omega)) rfl rfl rfl rfl rfl rfl) (by simp only [upd, zaa, zab]; exact rfl) ?_
    refine za rfl rfl rfl (zad (.inr rfl) (ev1 rfl)) ?_
    refine za rfl rfl rfl (zad (.inr rfl) (ev1 rfl)) ?_
    refine zae ?_
    refine zan ?_
    refine kend [4] (rs2 rfl (rv_t rfl) (rv_t rfl)) rfl rfl ?_ ⟨rfl, trivial⟩
    rfl
theorem cop_ok (o : OpM) (h : okO o) : DFun Tryz.prog 15 [.agg (opD o)] [] (.tup [.slf 1 (opL o).length ((opL o).flatMap uc8), .val (.int .i64 0)]) [] := freeze (cop_o o h) rfl
theorem cvec_ok (v : Vec) (hv : vB v = true) : DFun Tryz.prog 11 [.val (.agg (c9 v).toArray)] [] (.tup [.slf 1 (vecL v).length ((vecL v).flatMap uc8), .val (.int .i64 0)]) [] := freeze (cvec_o v hv) rfl
set_option maxRecDepth 4000 in
set_option maxHeartbeats 1000000 in
theorem csize_ok (o : OpM) (h : okO o) : DFun Tryz.prog 18 [.agg (opD o)] [] (.val (.int .i64 ((opL o).length : Int))) [] := by
  refine zaj (N := 12) 0 (by kernel_rfl) Tryz.func18 rfl rfl rfl (by simp only [fr0, Nat.zero_add, Nat.reduceAdd]; exact rfl) rfl fun s0 hs0 => ?_
  refine zaf ?_
  refine zai 1 (by simp only [holes, List.cons_append, List.nil_append]; exact rfl) ?_
  refine zac ?_
  refine zak rfl rfl rfl (op_boxam 0 rfl (ev1 rfl) rfl) (by simp only [upd, zaa, zab]; exact rfl) ?_
  refine za rfl rfl rfl (zad (.inr rfl) (ev1 rfl)) ?_
  refine zae ?_
  refine zaf ?_
  refine zac ?_
  refine za rfl rfl rfl (op_ldmw rfl tb47 (ev1 rfl) rfl rfl) ?_
  refine za rfl rfl rfl (zag [] [] [] rfl (ev1 rfl) (ec (ev1 rfl) en) rfl rfl (cop_ok o h) rfl rfl rfl rfl rfl rfl) ?_
  refine za rfl rfl rfl (zad (.inl rfl) (ev1 rfl)) ?_
  refine za rfl rfl rfl (op_ext rfl (ev1 rfl) rfl) ?_
  refine za rfl rfl rfl (op_ext rfl (ev1 rfl) rfl) ?_
  refine za rfl rfl rfl (zad (.inr rfl) (ev1 rfl)) ?_
  refine za rfl rfl rfl (zad (.inr rfl) (ev1 rfl)) ?_
  refine zae ?_
  refine zaf ?_
  refine zac ?_
  refine za rfl rfl rfl (zad (.inl rfl) (ev1 rfl)) ?_
  refine za rfl rfl rfl (op_len rfl sl30 (ev1 rfl)) ?_
  refine za rfl rfl rfl (zad (.inr rfl) (ev1 rfl)) ?_
  refine zae ?_
  refine zan ?_
  refine kend0 (rs1 rfl (rv_t rfl)) rfl ?_
  rfl
set_option maxRecDepth 4000 in
set_option maxHeartbeats 1000000 in
theorem csize_no (o : OpM) (h : opB o = false) : DFun Tryz.prog 18 [.agg (opD o)] [] (.val (.int .i64 0)) [] := by
  refine zaj (N := 12) 0 (by kernel_rfl) Tryz.func18 rfl rfl rfl (by simp only [fr0, Nat.zero_add, Nat.reduceAdd]; exact rfl) rfl fun s0 hs0 => ?_
  refine zaf ?_
  refine zai 1 (by simp only [holes, List.cons_append, List.nil_append]; exact rfl) ?_
  refine zac ?_
  refine zak rfl rfl rfl (op_boxam 0 rfl (ev1 rfl) rfl) (by simp only [upd, zaa, zab]; exact rfl) ?_
  refine za rfl rfl rfl (zad (.inr rfl) (ev1 rfl)) ?_
  refine zae ?_
  refine zaf ?_
  refine zac ?_
  refine za rfl rfl rfl (op_ldmw rfl tb47 (ev1 rfl) rfl rfl) ?_
  refine za rfl rfl rfl (zag [] [] [] rfl (ev1 rfl) (ec (ev1 rfl) en) rfl rfl (cop_no o h) rfl rfl rfl rfl rfl rfl) ?_
  refine za rfl rfl rfl (zad (.inl rfl) (ev1 rfl)) ?_
  refine za rfl rfl rfl (op_ext rfl (ev1 rfl) rfl) ?_
  refine za rfl rfl rfl (op_ext rfl (ev1 rfl) rfl) ?_
  refine za rfl rfl rfl (zad (.inr rfl) (ev1 rfl)) ?_
  refine za rfl rfl rfl (zad (.inr rfl) (ev1 rfl)) ?_
  refine zae ?_
  refine zaf ?_
  refine zac ?_
  refine za rfl rfl rfl (zad (.inl rfl) (ev1 rfl)) ?_
  refine za rfl rfl rfl (op_len rfl sl30 (evwk (ev1 rfl) (Wk.slf0 1))) ?_
  refine za rfl rfl rfl (zad (.inr rfl) (ev1 rfl)) ?_
  refine zae ?_
  refine zan ?_
  refine kend0 (rs1 rfl (rv_t rfl)) rfl ?_
  rfl
end Go.Proofs.YtmacjicebemgoaaGreat
namespace Go.Proofs.YtmacjicebemgoaaGreat
set_option linter.unusedVariables false
set_option linter.unusedSimpArgs false
open Go.RowKit
attribute [local irreducible] opL layW idB layF fieldsK kdN
theorem sl26 : slE Tryz.prog 26 = some (47, 19, 144) := by kernel_rfl
theorem tb26 : tyB Tryz.prog 26 = some (false, 1) := by kernel_rfl
theorem zr47 : zrC Tryz.prog 47 = some [.int .u64 0, .int .i64 0, .int .u64 0, .int .i64 0, .int .i64 0, .int .i64 0, .int .i64 0, .int .i64 0, .int .i64 0, .int .u8 0, .int .u8 0, .int .u8 0, .int .u8 0, .int .i64 0, .int .i64 0, .slice none 0 0, .int .u64 0, .int .i64 0, .int .u64 0] := by kernel_rfl
set_option maxRecDepth 4000 in
set_option maxHeartbeats 1000000 in
theorem call_d (l : List OpM) : DFun Tryz.prog 46 [.slm 19 l.length (l.flatMap opD)] [] (.fn (.func 77) [] [.loc 0 0]) [.mix 26 [.slm 19 l.length (l.flatMap opD)]] := by
  refine zaj (N := 4) 0 (by kernel_rfl) Tryz.func46 rfl rfl rfl (by simp only [fr0, Nat.zero_add, Nat.reduceAdd]; exact rfl) rfl fun s0 hs0 => ?_
  refine dwp_lenm (t := 0) rfl fun hl0 hL0 => ?_
  refine zaf ?_
  refine zai 1 (by simp only [holes, List.cons_append, List.nil_append]; exact rfl) ?_
  refine zac ?_
  refine zak rfl rfl rfl (op_boxm 0 rfl (ev1 rfl) (fun s v h => by cases h <;> rfl) rfl) (by simp only [upd, zaa, zab]; exact rfl) ?_
  refine za rfl rfl rfl (zad (.inr rfl) (ev1 rfl)) ?_
  refine zae ?_
  refine zaf ?_
  refine zac ?_
  refine za rfl rfl rfl (op_mkf rfl en (ec (ev1 rfl) en)) ?_
  refine za rfl rfl rfl (zad (.inr rfl) (ev1 rfl)) ?_
  refine zae ?_
  refine zan ?_
  refine kend [0] (rs1 rfl (rv_t rfl)) rfl rfl ?_ ⟨rfl, trivial⟩
  rfl
noncomputable def opsrA : Code := rfA (pth [1, 0, 1, 1, 1, 0, 1, 0] (bodyOf Tryz.f19))
noncomputable def opsrB : Code := rfB (pth [1, 0, 1, 1, 1, 0, 1, 0] (bodyOf Tryz.f19))
set_option maxRecDepth 4000 in
set_option maxHeartbeats 1000000 in
theorem opsRound_go (o : OpM) (k : Nat) (l : List Int) (h : okO o) (hl : l.length ≤ 50000) : DRound Tryz.prog 0 [.agg (opD o)] [.lp 32 [(4, .loc 1 0), (5, .loc 2 0)] #[18] opsrA opsrB .ready none, .mix 30 [.farr 3 k], .flat 31 [.int .i64 0], fmB k (l)] true [.lp 32 [(4, .loc 1 0), (5, .loc 2 0)] #[18] opsrA opsrB .ready none, .mix 30 [.farr 3 (k + 1)], .flat 31 [.int .i64 0], fmB (k + 1) (l ++ opL o)] := by
  refine dround_go 4 rfl rfl (by simp) rfl rfl fun s0 hs0 => ?_
  refine zai 1 (by simp only [holes, List.cons_append, List.nil_append]; exact rfl) ?_
  refine zac ?_
  refine zak rfl rfl rfl (op_alloc 4 rfl zr47 rfl) (by simp only [upd, zaa, zab]; exact rfl) ?_
  refine walk_s rfl rfl (op_stam rfl tb47 (ev1 rfl) (ev1 rfl) rfl rfl rfl rfl) (by simp only [upd, zaa, zab]; exact rfl) ?_
  refine zae ?_
  refine ⟨rfl, ?_⟩
  simp only [zaa, zab]
  refine dwp_block ?_
  refine zaf ?_
  refine zac ?_
  refine za rfl rfl rfl (op_ldmw rfl tb47 (ev1 rfl) rfl rfl) ?_
  refine za rfl rfl rfl (zag [] [] [] rfl (ev1 rfl) (ec (ev1 rfl) en) rfl rfl (cop_ok o h) rfl rfl rfl rfl rfl rfl) ?_
  refine za rfl rfl rfl (zad (.inl rfl) (ev1 rfl)) ?_
  refine za rfl rfl rfl (op_ext rfl (ev1 rfl) rfl) ?_
  refine za rfl rfl rfl (op_ext rfl (ev1 rfl) rfl) ?_
  refine za rfl rfl rfl (zad (.inr rfl) (ev1 rfl)) ?_
  refine za rfl rfl rfl (zad (.inr rfl) (ev1 rfl)) ?_
  refine zae ?_
  refine zaf ?_
  refine zaf ?_
  refine zac ?_
  refine za rfl rfl rfl (zad (.inl rfl) (ev1 rfl)) ?_
  refine za rfl rfl rfl (op_neq rfl (ev1 rfl) (ev1 rfl)) ?_
  refine zae ?_
  refine dwp_if_f rfl (rfl) ?_
  refine zam ?_
  have hol := opL_len h
  refine zai 2 (by simp only [holes, List.cons_append, List.nil_append]; exact rfl) ?_
  refine zac ?_
  refine za rfl rfl rfl (op_ldm rfl tb30 (ev1 rfl) rfl rfl) ?_
  refine za rfl rfl rfl (zad (.inl rfl) (ev1 rfl)) ?_
  refine zak rfl rfl rfl ((op_appF (j1 := 5) (j2 := 6) rfl rfl sl30 zr5 rfl (ev1 rfl) (ev1 rfl) rfl (fm_at) rfl rfl rfl (fun _ => flat_oc (fun _ => rfl) _) (fun _ => ⟨by omega, by omega⟩)).cast (d' := .farr 3 (k + 1)) (by rw [fm_len])) (by simp only [upd, zaa, zab]; exact rfl) ?_
  refine walk_s rfl rfl (op_stm rfl tb30 (ev1 rfl) (ev1 rfl) (fun s v h => by cases h <;> exact ⟨rfl, rfl⟩) rfl (by first | decide | exact Nat.le_of_ble_eq_true rfl | simp)) (by simp only [upd, zaa, zab]; exact rfl) ?_
  refine zae ?_
  refine ⟨by first | rfl | assumption | simp_all, rfl, [0, 1, 2, 3], rfl, ⟨rfl, rfl, rfl, fm_app, trivial⟩⟩
set_option maxRecDepth 4000 in
set_option maxHeartbeats 1000000 in
theorem opsRound_no (o : OpM) (k : Nat) (l : List Int) (h : opB o = false) : DRound Tryz.prog 0 [.agg (opD o)] [.lp 32 [(4, .loc 1 0), (5, .loc 2 0)] #[18] opsrA opsrB .ready none, .mix 30 [.farr 3 k], .flat 31 [.int .i64 0], fmB k (l)] false [.lp 32 [(4, .loc 1 0), (5, .loc 2 0)] #[18] opsrA opsrB .done (some (.exit 0)), .mix 30 [.val (.slice none 0 0)], .flat 31 [.int .i64 220], fmB k (l)] := by
  refine dround_go 4 rfl rfl (by simp) rfl rfl fun s0 hs0 => ?_
  refine zai 1 (by simp only [holes, List.cons_append, List.nil_append]; exact rfl) ?_
  refine zac ?_
  refine zak rfl rfl rfl (op_alloc 4 rfl zr47 rfl) (by simp only [upd, zaa, zab]; exact rfl) ?_
  refine walk_s rfl rfl (op_stam rfl tb47 (ev1 rfl) (ev1 rfl) rfl rfl rfl rfl) (by simp only [upd, zaa, zab]; exact rfl) ?_
  refine zae ?_
  refine ⟨rfl, ?_⟩
  simp only [zaa, zab]
  refine dwp_block ?_
  refine zaf ?_
  refine zac ?_
  refine za rfl rfl rfl (op_ldmw rfl tb47 (ev1 rfl) rfl rfl) ?_
  refine za rfl rfl rfl (zag [] [] [] rfl (ev1 rfl) (ec (ev1 rfl) en) rfl rfl (cop_no o h) rfl rfl rfl rfl rfl rfl) ?_
  refine za rfl rfl rfl (zad (.inl rfl) (ev1 rfl)) ?_
  refine za rfl rfl rfl (op_ext rfl (ev1 rfl) rfl) ?_
  refine za rfl rfl rfl (op_ext rfl (ev1 rfl) rfl) ?_
  refine za rfl rfl rfl (zad (.inr rfl) (ev1 rfl)) ?_
  refine za rfl rfl rfl (zad (.inr rfl) (ev1 rfl)) ?_
  refine zae ?_
  refine zaf ?_
  refine zaf ?_
  refine zac ?_
  refine za rfl rfl rfl (zad (.inl rfl) (ev1 rfl)) ?_
  refine za rfl rfl rfl (op_neq rfl (ev1 rfl) (ev1 rfl)) ?_
  refine zae ?_
  refine dwp_if_t rfl (rfl) ?_
  refine zaf ?_
  refine zac ?_
  refine za rfl rfl rfl (zad (.inl rfl) (ev1 rfl)) ?_
  refine walk_s rfl rfl (op_stm rfl tb30 (ev1 rfl) (ev1 rfl) (fun s v h => by cases h <;> exact ⟨rfl, rfl⟩) rfl (by first | decide | exact Nat.le_of_ble_eq_true rfl | simp)) (by simp only [upd, zaa, zab]; exact rfl) ?_
  refine walk_s rfl rfl (op_stwi rfl tb31 (ev1 rfl) (ev1 rfl) rfl) (by simp only [upd, zaa, zab]; exact rfl) ?_
  refine zae ?_
  refine dwp_exit ?_
  refine ⟨by first | rfl | assumption | simp_all, rfl, [0, 1, 2, 3], rfl, ⟨rfl, rfl, rfl, rfl, trivial⟩⟩
set_option maxRecDepth 4000 in
set_option maxHeartbeats 1000000 in
theorem all1_ok (l : List OpM) (ho : ∀ o ∈ l, okO o) (hn : l.length ≤ 64) (k : Nat) (b : List Int) (hb : b.length ≤ 100) : DFun Tryz.prog 77 [.yld 0, .loc 4 0] [.lp 32 [(4, .loc 1 0), (5, .loc 2 0)] #[18] opsrA opsrB .ready none, .mix 30 [.farr 3 k], .flat 31 [.int .i64 0], fmB k (b), .mix 26 [.slm 19 l.length (l.flatMap opD)]] (.tup []) [.lp 32 [(4, .loc 1 0), (5, .loc 2 0)] #[18] opsrA opsrB .ready none, .mix 30 [.farr 3 (k + l.length)], .flat 31 [.int .i64 0], fmB (k + l.length) (b ++ l.flatMap opL), .mix 26 [.slm 19 l.length (l.flatMap opD)]] := by
  refine zaj (N := 16) 5 (by kernel_rfl) Tryz.func77 rfl rfl rfl (by simp only [fr0, Nat.zero_add, Nat.reduceAdd]; exact rfl) rfl fun s0 hs0 => ?_
  refine zaf ?_
  refine zac ?_
  refine za rfl rfl rfl (op_ldm rfl tb26 (ev1 rfl) rfl rfl) ?_
  refine za rfl rfl rfl (op_lenm rfl sl26 (ev1 rfl)) ?_
  refine za rfl rfl rfl (zad (.inl rfl) (ev1 rfl)) ?_
  refine zae ?_
  refine dwp_block ?_
  refine dwp_loopS ⟨hs0, rfl⟩ (α := Nat) (fun j => [(7, .val (.int .i64 (j : Int)))]) [(0, _), (5, _), (6, _)] (fun j => [(1, .mix 30 [.farr 3 (k + j)]), (3, fmB (k + j) (b ++ (l.take j).flatMap opL))]) [_, .hole, _, .hole, _] (fun j => j ≤ l.length) (fun j => l.length - j) 0 [0, 1, 2, 3, 4] (by omega) rfl ⟨rfl, rfl, rfl, trivial⟩ ⟨rfl, trivial⟩ ⟨rfl, rfl, rfl, fm_cat rfl (by simp), rfl, trivial⟩ ?_
  intro j hx
  simp only [upd, zaa, zab, List.cons_append, List.nil_append]
  have hj := hx
  have hol : ((l.take j).flatMap opL).length ≤ 278 * (l.take j).length := ops_len fun o h => ho o (List.mem_of_mem_take h)
  rw [List.length_take] at hol
  refine zaf ?_
  refine zac ?_
  refine za rfl rfl rfl (op_lss rfl (ev1 rfl) (ev1 rfl)) ?_
  refine zae ?_
  refine zaf ?_
  refine dwp_cond rfl (fun c1 => ?_) (fun c1 => ?_)
  · try simp only [decide_eq_true_eq, decide_eq_false_iff_not, beq_iff_eq, bne_iff_ne, beq_eq_false_iff_ne, bne_eq_false_iff_eq, Bool.not_eq_true', Bool.not_eq_false', Bool.and_eq_true, Bool.or_eq_true, Bool.or_eq_false_iff, ne_eq, Decidable.not_not, Int.not_lt, Int.not_le] at c1
    refine zam ?_
    refine zaf ?_
    refine dwp_block ?_
    refine zaf ?_
    refine zai 1 (by simp only [holes, List.cons_append, List.nil_append]; exact rfl) ?_
    refine zac ?_
    refine za rfl rfl rfl (op_ixmr (j) (by decide) rfl sl26 (ev1 rfl) (ev1 rfl) (fun _ => rfl) (by omega) (fun _ => rfl)) ?_
    refine za rfl rfl rfl (op_lddr rfl tb47 (ev1 rfl) rfl rfl) ?_
    refine zak rfl rfl rfl (op_alloc 5 rfl zr47 rfl) (by simp only [upd, zaa, zab]; exact rfl) ?_
    refine walk_s rfl rfl (op_stam rfl tb47 (ev1 rfl) (ev1 rfl) rfl rfl rfl rfl) (by simp only [upd, zaa, zab]; exact rfl) ?_
    refine zae ?_
    refine zaf ?_
    refine zac ?_
    refine za rfl rfl rfl (zad (.inl rfl) (ev1 rfl)) ?_
    refine za rfl rfl rfl (op_ldmw rfl tb47 (ev1 rfl) rfl rfl) ?_
    refine zak rfl rfl rfl (op_y (i := 0) [0, 1, 2, 3] [] [] rfl (ev1 rfl) (ec (ev1 rfl) en) rfl rfl rfl (opsRound_go l[j] (k + j) (b ++ (l.take j).flatMap opL) (ho _ (List.getElem_mem _)) (by rw [List.length_append]; omega)) rfl rfl rfl rfl rfl) (by simp only [upd, zaa, zab]; exact rfl) ?_
    refine za rfl rfl rfl (op_not rfl (ev1 rfl)) ?_
    refine zae ?_
    refine dwp_if_f rfl (rfl) ?_
    refine zam ?_
    refine zac ?_
    refine za rfl rfl rfl (op_add' rfl (ev1 rfl) (ev1 rfl) (fun _ => IntWalk.i64_in _ (by omega))) ?_
    refine za rfl rfl rfl (zad (.inl rfl) (ev1 rfl)) ?_
    refine zae ?_
    refine ⟨j + 1, [0, 1, 2, 3, 4], by omega, by simp only []; omega, rfl, ⟨rfl, rfl, rfl, rfl, trivial⟩, ⟨rfl, rfl, rfl, fm_cat rfl (by rw [ops_take (by omega), List.append_assoc]), rfl, trivial⟩⟩
  · try simp only [decide_eq_true_eq, decide_eq_false_iff_not, beq_iff_eq, bne_iff_ne, beq_eq_false_iff_ne, bne_eq_false_iff_eq, Bool.not_eq_true', Bool.not_eq_false', Bool.and_eq_true, Bool.or_eq_true, Bool.or_eq_false_iff, ne_eq, Decidable.not_not, Int.not_lt, Int.not_le] at c1
    refine dwp_exit ?_
    obtain rfl : j = l.length := by omega
    refine kend [0, 1, 2, 3, 4] (res_none rfl) rfl rfl ?_ ⟨?_, ?_, ?_, ?_, ?_, trivial⟩
    rfl
    rfl
    rfl
    rfl
    exact fm_cat rfl (by rw [List.take_length])
    rfl
set_option maxRecDepth 4000 in
set_option maxHeartbeats 1000000 in
theorem all1_no (l : List OpM) (i : Nat) (hi : i < l.length) (ho : ∀ j (h : j < l.length), j < i → okO l[j]) (hbad : opB l[i] = false) (hn : l.length ≤ 64) (k : Nat) (b : List Int) (hb : b.length ≤ 100) : DFun Tryz.prog 77 [.yld 0, .loc 4 0] [.lp 32 [(4, .loc 1 0), (5, .loc 2 0)] #[18] opsrA opsrB .ready none, .mix 30 [.farr 3 k], .flat 31 [.int .i64 0], fmB k (b), .mix 26 [.slm 19 l.length (l.flatMap opD)]] (.tup []) [.lp 32 [(4, .loc 1 0), (5, .loc 2 0)] #[18] opsrA opsrB .done (some (.exit 0)), .mix 30 [.val (.slice none 0 0)], .flat 31 [.int .i64 220], fmB (k + i) (b ++ (l.take i).flatMap opL), .mix 26 [.slm 19 l.length (l.flatMap opD)]] := by
  refine zaj (N := 16) 5 (by kernel_rfl) Tryz.func77 rfl rfl rfl (by simp only [fr0, Nat.zero_add, Nat.reduceAdd]; exact rfl) rfl fun s0 hs0 => ?_
  refine zaf ?_
  refine zac ?_
  refine za rfl rfl rfl (op_ldm rfl tb26 (ev1 rfl) rfl rfl) ?_
  refine za rfl rfl rfl (op_lenm rfl sl26 (ev1 rfl)) ?_
  refine za rfl rfl rfl (zad (.inl rfl) (ev1 rfl)) ?_
  refine zae ?_
  refine dwp_block ?_
  refine dwp_loopS ⟨hs0, rfl⟩ (α := Nat) (fun j => [(7, .val (.int .i64 (j : Int)))]) [(0, _), (5, _), (6, _)] (fun j => [(1, .mix 30 [.farr 3 (k + j)]), (3, fmB (k + j) (b ++ (l.take j).flatMap opL))]) [_, .hole, _, .hole, _] (fun j => j ≤ i) (fun j => l.length - j) 0 [0, 1, 2, 3, 4] (by omega) rfl ⟨rfl, rfl, rfl, trivial⟩ ⟨rfl, trivial⟩ ⟨rfl, rfl, rfl, fm_cat rfl (by simp), rfl, trivial⟩ ?_
  intro j hx
  simp only [upd, zaa, zab, List.cons_append, List.nil_append]
  have hj := hx
  have hol : ((l.take j).flatMap opL).length ≤ 278 * (l.take j).length := ops_len fun o h => okO_take ho hj o h
  rw [List.length_take] at hol
  refine zaf ?_
  refine zac ?_
  refine za rfl rfl rfl (op_lss rfl (ev1 rfl) (ev1 rfl)) ?_
  refine zae ?_
  refine zaf ?_
  refine dwp_if_t rfl (decide_eq_true (by omega)) ?_
  refine zam ?_
  refine zaf ?_
  refine dwp_block ?_
  refine zaf ?_
  refine zai 1 (by simp only [holes, List.cons_append, List.nil_append]; exact rfl) ?_
  refine zac ?_
  refine za rfl rfl rfl (op_ixmr (j) (by decide) rfl sl26 (ev1 rfl) (ev1 rfl) (fun _ => rfl) (by omega) (fun _ => rfl)) ?_
  refine za rfl rfl rfl (op_lddr rfl tb47 (ev1 rfl) rfl rfl) ?_
  refine zak rfl rfl rfl (op_alloc 5 rfl zr47 rfl) (by simp only [upd, zaa, zab]; exact rfl) ?_
  refine walk_s rfl rfl (op_stam rfl tb47 (ev1 rfl) (ev1 rfl) rfl rfl rfl rfl) (by simp only [upd, zaa, zab]; exact rfl) ?_
  refine zae ?_
  refine zaf ?_
  by_cases hji : j = i
  · subst hji
    refine zac ?_
    refine za rfl rfl rfl (zad (.inl rfl) (ev1 rfl)) ?_
    refine za rfl rfl rfl (op_ldmw rfl tb47 (ev1 rfl) rfl rfl) ?_
    refine zak rfl rfl rfl (op_y (i := 0) [0, 1, 2, 3] [] [] rfl (ev1 rfl) (ec (ev1 rfl) en) rfl rfl rfl (opsRound_no l[j] (k + j) (b ++ (l.take j).flatMap opL) hbad) rfl rfl rfl rfl rfl) (by simp only [upd, zaa, zab]; exact rfl) ?_
    refine za rfl rfl rfl (op_not rfl (ev1 rfl)) ?_
    refine zae ?_
    refine dwp_if_t rfl (rfl) ?_
    refine zan ?_
    refine kend [0, 1, 2, 3, 4] (res_none rfl) rfl rfl ?_ ⟨rfl, rfl, rfl, rfl, rfl, trivial⟩
    rfl
  · refine zac ?_
    refine za rfl rfl rfl (zad (.inl rfl) (ev1 rfl)) ?_
    refine za rfl rfl rfl (op_ldmw rfl tb47 (ev1 rfl) rfl rfl) ?_
    refine zak rfl rfl rfl (op_y (i := 0) [0, 1, 2, 3] [] [] rfl (ev1 rfl) (ec (ev1 rfl) en) rfl rfl rfl (opsRound_go l[j] (k + j) (b ++ (l.take j).flatMap opL) (ho _ _ (by omega)) (by rw [List.length_append]; omega)) rfl rfl rfl rfl rfl) (by simp only [upd, zaa, zab]; exact rfl) ?_
    refine za rfl rfl rfl (op_not rfl (ev1 rfl)) ?_
    refine zae ?_
    refine dwp_if_f rfl (rfl) ?_
    refine zam ?_
    refine zac ?_
    refine za rfl rfl rfl (op_add' rfl (ev1 rfl) (ev1 rfl) (fun _ => IntWalk.i64_in _ (by omega))) ?_
    refine za rfl rfl rfl (zad (.inl rfl) (ev1 rfl)) ?_
    refine zae ?_
    refine ⟨j + 1, [0, 1, 2, 3, 4], by omega, by simp only []; omega, rfl, ⟨rfl, rfl, rfl, rfl, trivial⟩, ⟨rfl, rfl, rfl, fm_cat rfl (by rw [ops_take (by omega), List.append_assoc]), rfl, trivial⟩⟩
set_option maxRecDepth 4000 in
set_option maxHeartbeats 1000000 in
theorem cops_long (l : List OpM) (h : 64 < l.length) : DFun Tryz.prog 19 [.slm 19 l.length (l.flatMap opD)] [] (.tup [.val (.slice none 0 0), .val (.int .i64 3)]) [] := by
  refine zaj (N := 32) 0 (by kernel_rfl) Tryz.func19 rfl rfl rfl (by simp only [fr0, Nat.zero_add, Nat.reduceAdd]; exact rfl) rfl fun s0 hs0 => ?_
  refine dwp_lenm (t := 0) rfl fun hl0 hL0 => ?_
  refine zaf ?_
  refine zac ?_
  refine za rfl rfl rfl (zad (.inr rfl) (ev1 rfl)) ?_
  refine za rfl rfl rfl (zad (.inr rfl) (ev1 rfl)) ?_
  refine zae ?_
  refine dwp_scope ?_
  refine zaf ?_
  refine zaf ?_
  refine zac ?_
  refine za rfl rfl rfl (zad (.inl rfl) (ev1 rfl)) ?_
  refine za rfl rfl rfl (op_lenm rfl sl26 (ev1 rfl)) ?_
  refine za rfl rfl rfl (op_gtr rfl (ev1 rfl) (ev1 rfl)) ?_
  refine zae ?_
  refine dwp_if_t rfl (decide_eq_true (by omega)) ?_
  refine zaf ?_
  refine zac ?_
  refine za rfl rfl rfl (zad (.inr rfl) (ev1 rfl)) ?_
  refine za rfl rfl rfl (zad (.inr rfl) (ev1 rfl)) ?_
  refine zae ?_
  refine zan ?_
  refine kend0 (rs2 rfl (rv_t rfl) (rv_t rfl)) rfl ?_
  rfl
set_option maxRecDepth 4000 in
set_option maxHeartbeats 1000000 in
theorem cops_ok (l : List OpM) (hn : l.length ≤ 64) (ho : ∀ o ∈ l, okO o) : DFun Tryz.prog 19 [.slm 19 l.length (l.flatMap opD)] [] (.tup [.slf 1 (rowL l).length ((rowL l).flatMap uc8), .val (.int .i64 0)]) [] := by
  refine zaj (N := 32) 0 (by kernel_rfl) Tryz.func19 rfl rfl rfl (by simp only [fr0, Nat.zero_add, Nat.reduceAdd]; exact rfl) rfl fun s0 hs0 => ?_
  refine dwp_lenm (t := 0) rfl fun hl0 hL0 => ?_
  refine zaf ?_
  refine zac ?_
  refine za rfl rfl rfl (zad (.inr rfl) (ev1 rfl)) ?_
  refine za rfl rfl rfl (zad (.inr rfl) (ev1 rfl)) ?_
  refine zae ?_
  refine dwp_scope ?_
  refine zaf ?_
  refine zaf ?_
  refine zac ?_
  refine za rfl rfl rfl (zad (.inl rfl) (ev1 rfl)) ?_
  refine za rfl rfl rfl (op_lenm rfl sl26 (ev1 rfl)) ?_
  refine za rfl rfl rfl (op_gtr rfl (ev1 rfl) (ev1 rfl)) ?_
  refine zae ?_
  refine dwp_if_f rfl (decide_eq_false (by omega)) ?_
  refine zam ?_
  refine zaf ?_
  refine zai 3 (by simp only [holes, List.cons_append, List.nil_append]; exact rfl) ?_
  refine zac ?_
  refine za rfl rfl rfl (zad (.inl rfl) (ev1 rfl)) ?_
  refine za rfl rfl rfl (op_lenm rfl sl26 (ev1 rfl)) ?_
  refine za rfl rfl rfl ((op_conv ty3 kn5 rfl (ev1 rfl)).cast (d' := .val (.int .u8 (l.length : Int))) (by rw [IntWalk.u8_in _ (by omega)])) ?_
  refine zak rfl rfl rfl (op_bsa (ps := [(0, .tmp 14)]) 0 rfl sl30 zr5 rfl (vc (ev1 rfl) vn) rfl (by decide) (by decide) rfl) (by simp only [upd, zaa, zab]; exact rfl) ?_
  refine zak rfl rfl rfl (op_alloc 1 rfl zr30 rfl) (by simp only [upd, zaa, zab]; exact rfl) ?_
  refine zak rfl rfl rfl (op_alloc 2 rfl zr31 rfl) (by simp only [upd, zaa, zab]; exact rfl) ?_
  refine walk_s rfl rfl (op_stfm rfl tb30 (ev1 rfl) (ev1 rfl) (fun s v h => by cases h <;> exact ⟨rfl, rfl⟩) rfl (by decide)) (by simp only [upd, zaa, zab]; exact rfl) ?_
  refine walk_s rfl rfl (op_stwi rfl tb31 (ev1 rfl) (ev1 rfl) rfl) (by simp only [upd, zaa, zab]; exact rfl) ?_
  refine zae ?_
  refine zaf ?_
  refine dwp_label ?_
  refine zaf ?_
  refine zaf ?_
  refine zai 1 (by simp only [holes, List.cons_append, List.nil_append]; exact rfl) ?_
  refine zac ?_
  refine za rfl rfl rfl (zad (.inl rfl) (ev1 rfl)) ?_
  refine zak rfl rfl rfl (zag [] [] [3] rfl (ev1 rfl) (ec (ev1 rfl) en) rfl rfl (call_d l) rfl rfl rfl rfl rfl rfl) (by simp only [upd, zaa, zab]; exact rfl) ?_
  refine zae ?_
  refine dwp_block ?_
  refine dwp_hole ?_
  refine dwp_fam 4 rfl (by simp only [List.cons_append, List.nil_append, zaa, zab]; exact rfl) ?_
  refine dwp_absc 1 0 4 rfl rfl rfl rfl (by simp only [List.cons_append, List.nil_append, zaa, zab]; exact rfl) ?_
  refine dwp_hole ?_
  simp only [List.cons_append, List.nil_append]
  refine dwp_rf (FL := [(4, _), (5, _)]) (st := .ready) (pe := none) [5, 1, 2, 4, 3] [] [] 5 rfl rfl (ev1 rfl) rfl (subF_lk ⟨rfl, rfl, trivial⟩) rfl rfl rfl (all1_ok l ho hn 0 [(l.length : Int)] (by simp)) rfl rfl rfl rfl rfl rfl rfl (by simp) (fun e => ?_) (fun c e => ?_)
  · simp only [upd, zaa, zab]
    refine zaf ?_
    refine dwp_draw [([1], []), ([2], []), ([], []), ([], [])] mixed (by kernel_rfl) ?_
    refine lex_r rfl rfl (op_ldm rfl tb30 (ev1 rfl) rfl rfl) ?_
    refine lex_r rfl rfl (op_ldo rfl tb31 (ev1 rfl) rfl rfl) ?_
    refine lex_r rfl rfl (zad (.inr rfl) (ev1 rfl)) ?_
    refine lex_r rfl rfl (zad (.inr rfl) (ev1 rfl)) ?_
    refine lex_nil ?_
    refine dwp_hole ?_
    refine dwp_rel 2 4 (j := 6) rfl rfl (fm_at) rfl (by simp only [List.cons_append, List.nil_append, zaa, zab]; exact rfl) ?_
    refine dwp_giveA 2 rfl rfl (by simp only [List.cons_append, List.nil_append, zaa, zab]; exact rfl) ?_
    refine zan ?_
    refine kend0 (rs2 rfl (rv_t rfl) (rv_t rfl)) rfl ?_
    rw [rowL_one hn]
    rfl
  · cases e
set_option maxRecDepth 4000 in
set_option maxHeartbeats 1000000 in
theorem cops_no (l : List OpM) (i : Nat) (hi : i < l.length) (ho : ∀ j (h : j < l.length), j < i → okO l[j]) (hbad : opB l[i] = false) (hn : l.length ≤ 64) : DFun Tryz.prog 19 [.slm 19 l.length (l.flatMap opD)] [] (.tup [.val (.slice none 0 0), .val (.int .i64 220)]) [] := by
  refine zaj (N := 32) 0 (by kernel_rfl) Tryz.func19 rfl rfl rfl (by simp only [fr0, Nat.zero_add, Nat.reduceAdd]; exact rfl) rfl fun s0 hs0 => ?_
  refine dwp_lenm (t := 0) rfl fun hl0 hL0 => ?_
  refine zaf ?_
  refine zac ?_
  refine za rfl rfl rfl (zad (.inr rfl) (ev1 rfl)) ?_
  refine za rfl rfl rfl (zad (.inr rfl) (ev1 rfl)) ?_
  refine zae ?_
  refine dwp_scope ?_
  refine zaf ?_
  refine zaf ?_
  refine zac ?_
  refine za rfl rfl rfl (zad (.inl rfl) (ev1 rfl)) ?_
  refine za rfl rfl rfl (op_lenm rfl sl26 (ev1 rfl)) ?_
  refine za rfl rfl rfl (op_gtr rfl (ev1 rfl) (ev1 rfl)) ?_
  refine zae ?_
  refine dwp_if_f rfl (decide_eq_false (by omega)) ?_
  refine zam ?_
  refine zaf ?_
  refine zai 3 (by simp only [holes, List.cons_append, List.nil_append]; exact rfl) ?_
  refine zac ?_
  refine za rfl rfl rfl (zad (.inl rfl) (ev1 rfl)) ?_
  refine za rfl rfl rfl (op_lenm rfl sl26 (ev1 rfl)) ?_
  refine za rfl rfl rfl ((op_conv ty3 kn5 rfl (ev1 rfl)).cast (d' := .val (.int .u8 (l.length : Int))) (by rw [IntWalk.u8_in _ (by omega)])) ?_
  refine zak rfl rfl rfl (op_bsa (ps := [(0, .tmp 14)]) 0 rfl sl30 zr5 rfl (vc (ev1 rfl) vn) rfl (by decide) (by decide) rfl) (by simp only [upd, zaa, zab]; exact rfl) ?_
  refine zak rfl rfl rfl (op_alloc 1 rfl zr30 rfl) (by simp only [upd, zaa, zab]; exact rfl) ?_
  refine zak rfl rfl rfl (op_alloc 2 rfl zr31 rfl) (by simp only [upd, zaa, zab]; exact rfl) ?_
  refine walk_s rfl rfl (op_stfm rfl tb30 (ev1 rfl) (ev1 rfl) (fun s v h => by cases h <;> exact ⟨rfl, rfl⟩) rfl (by decide)) (by simp only [upd, zaa, zab]; exact rfl) ?_
  refine walk_s rfl rfl (op_stwi rfl tb31 (ev1 rfl) (ev1 rfl) rfl) (by simp only [upd, zaa, zab]; exact rfl) ?_
  refine zae ?_
  refine zaf ?_
  refine dwp_label ?_
  refine zaf ?_
  refine zaf ?_
  refine zai 1 (by simp only [holes, List.cons_append, List.nil_append]; exact rfl) ?_
  refine zac ?_
  refine za rfl rfl rfl (zad (.inl rfl) (ev1 rfl)) ?_
  refine zak rfl rfl rfl (zag [] [] [3] rfl (ev1 rfl) (ec (ev1 rfl) en) rfl rfl (call_d l) rfl rfl rfl rfl rfl rfl) (by simp only [upd, zaa, zab]; exact rfl) ?_
  refine zae ?_
  refine dwp_block ?_
  refine dwp_hole ?_
  refine dwp_fam 4 rfl (by simp only [List.cons_append, List.nil_append, zaa, zab]; exact rfl) ?_
  refine dwp_absc 1 0 4 rfl rfl rfl rfl (by simp only [List.cons_append, List.nil_append, zaa, zab]; exact rfl) ?_
  refine dwp_hole ?_
  simp only [List.cons_append, List.nil_append]
  refine dwp_rf (FL := [(4, _), (5, _)]) (st := .done) (pe := (some (.exit 0))) [5, 1, 2, 4, 3] [] [] 5 rfl rfl (ev1 rfl) rfl (subF_lk ⟨rfl, rfl, trivial⟩) rfl rfl rfl (all1_no l i hi ho hbad hn 0 [(l.length : Int)] (by simp)) rfl rfl rfl rfl rfl rfl rfl (by simp) (fun e => ?_) (fun c e => ?_)
  · cases e
  · cases e
    simp only [upd, zaa, zab]
    refine dwp_exit ?_
    refine zaf ?_
    refine dwp_draw [([1], []), ([2], []), ([], []), ([], [])] mixed (by kernel_rfl) ?_
    refine lex_r rfl rfl (op_ldm rfl tb30 (ev1 rfl) rfl rfl) ?_
    refine lex_r rfl rfl (op_ldo rfl tb31 (ev1 rfl) rfl rfl) ?_
    refine lex_r rfl rfl (zad (.inr rfl) (ev1 rfl)) ?_
    refine lex_r rfl rfl (zad (.inr rfl) (ev1 rfl)) ?_
    refine lex_nil ?_
    refine zan ?_
    refine kend0 (rs2 rfl (rv_t rfl) (rv_t rfl)) rfl ?_
    rfl
end Go.Proofs.YtmacjicebemgoaaGreat
namespace Go.Proofs.YtmacjicebemgoaaGreat
set_option linter.unusedVariables false
set_option linter.unusedSimpArgs false
open Go.RowKit
attribute [local irreducible] tkN valF numN
theorem fl139 : fdL Tryz.prog 139 = some [(0, 1)] := by kernel_rfl
theorem fo135_0 : fdO Tryz.prog 135 0 = some 0 := by kernel_rfl
theorem fo135_1 : fdO Tryz.prog 135 1 = some 1 := by kernel_rfl
theorem fo139_0 : fdO Tryz.prog 139 0 = some 0 := by kernel_rfl
theorem kn3 : knd Tryz.prog 3 = some .i64 := by kernel_rfl
theorem ni139 : niF Tryz.prog 139 = true := by kernel_rfl
theorem tb139 : tyB Tryz.prog 139 = some (true, 1) := by kernel_rfl
theorem zr139 : zrC Tryz.prog 139 = some [.int .i64 0] := by kernel_rfl
theorem zv139 : zrV Tryz.prog 139 = some (.agg #[.int .i64 0]) := by kernel_rfl
set_option maxRecDepth 4000 in
set_option maxHeartbeats 1000000 in
theorem ctold_no : DFun Tryz.prog 79 [.val .nilIface] [] (.val (.int .i64 0)) [] := by
  refine zaj (N := 13) 0 (by kernel_rfl) Tryz.func79 rfl rfl rfl (by simp only [fr0, Nat.zero_add, Nat.reduceAdd]; exact rfl) rfl fun s0 hs0 => ?_
  refine zaf ?_
  refine zac ?_
  refine za rfl rfl rfl (zad (.inr rfl) (ev1 rfl)) ?_
  refine zae ?_
  refine zaf ?_
  refine zaf ?_
  refine zai 1 (by simp only [holes, List.cons_append, List.nil_append]; exact rfl) ?_
  refine zac ?_
  refine za rfl rfl rfl (zad (.inl rfl) (ev1 rfl)) ?_
  refine za rfl rfl rfl (op_tan rfl ni139 zv139 (ev1 rfl)) ?_
  refine za rfl rfl rfl (zad (.inl rfl) (ev1 rfl)) ?_
  refine za rfl rfl rfl (op_ext rfl (ev1 rfl) rfl) ?_
  refine za rfl rfl rfl (op_ext rfl (ev1 rfl) rfl) ?_
  refine zak rfl rfl rfl (op_alloc 0 rfl zr139 rfl) (by simp only [upd, zaa, zab]; exact rfl) ?_
  refine walk_s rfl rfl (op_stwa rfl tb139 (ev1 rfl) (ev1 rfl) rfl rfl rfl rfl) (by simp only [upd, zaa, zab]; exact rfl) ?_
  refine za rfl rfl rfl (zad (.inr rfl) (ev1 rfl)) ?_
  refine zae ?_
  refine zaf ?_
  refine zac ?_
  refine za rfl rfl rfl (zad (.inl rfl) (ev1 rfl)) ?_
  refine zae ?_
  refine dwp_if_f rfl (rfl) ?_
  refine zam ?_
  refine zaf ?_
  refine zac ?_
  refine za rfl rfl rfl (zad (.inr rfl) (ev1 rfl)) ?_
  refine zae ?_
  refine zan ?_
  refine kend0 (rs1 rfl (rv_t rfl)) rfl ?_
  rfl
set_option maxRecDepth 4000 in
set_option maxHeartbeats 1000000 in
theorem ctold_w (n : Int) : DFun Tryz.prog 79 [.ifc 139 (.val (.agg #[.int .i64 n]))] [] (.val (.int .i64 n)) [] := by
  refine zaj (N := 13) 0 (by kernel_rfl) Tryz.func79 rfl rfl rfl (by simp only [fr0, Nat.zero_add, Nat.reduceAdd]; exact rfl) rfl fun s0 hs0 => ?_
  refine zaf ?_
  refine zac ?_
  refine za rfl rfl rfl (zad (.inr rfl) (ev1 rfl)) ?_
  refine zae ?_
  refine zaf ?_
  refine zaf ?_
  refine zai 1 (by simp only [holes, List.cons_append, List.nil_append]; exact rfl) ?_
  refine zac ?_
  refine za rfl rfl rfl (zad (.inl rfl) (ev1 rfl)) ?_
  refine za rfl rfl rfl (op_tay rfl ni139 (ev1 rfl)) ?_
  refine za rfl rfl rfl (zad (.inl rfl) (ev1 rfl)) ?_
  refine za rfl rfl rfl (op_ext rfl (ev1 rfl) rfl) ?_
  refine za rfl rfl rfl (op_ext rfl (ev1 rfl) rfl) ?_
  refine zak rfl rfl rfl (op_alloc 0 rfl zr139 rfl) (by simp only [upd, zaa, zab]; exact rfl) ?_
  refine walk_s rfl rfl (op_stwa rfl tb139 (ev1 rfl) (ev1 rfl) rfl rfl rfl rfl) (by simp only [upd, zaa, zab]; exact rfl) ?_
  refine za rfl rfl rfl (zad (.inr rfl) (ev1 rfl)) ?_
  refine zae ?_
  refine zaf ?_
  refine zac ?_
  refine za rfl rfl rfl (zad (.inl rfl) (ev1 rfl)) ?_
  refine zae ?_
  refine dwp_if_t rfl (rfl) ?_
  refine zaf ?_
  refine zac ?_
  refine za rfl rfl rfl (zal rfl fo139_0 (ev1 rfl)) ?_
  refine za rfl rfl rfl (op_ldo rfl tb31 (ev1 rfl) rfl rfl) ?_
  refine za rfl rfl rfl (zad (.inr rfl) (ev1 rfl)) ?_
  refine zae ?_
  refine zan ?_
  refine kend0 (rs1 rfl (rv_t rfl)) rfl ?_
  rfl
set_option maxRecDepth 4000 in
set_option maxHeartbeats 1000000 in
theorem cneed_ok (b : Bool) (e : Int) (h : b = true) : DFun Tryz.prog 51 [.val (.bool b), .val (.int .i64 e)] [] (.tup []) [] := by
  refine zaj (N := 9) 0 (by kernel_rfl) Tryz.func51 rfl rfl rfl (by simp only [fr0, Nat.zero_add, Nat.reduceAdd]; exact rfl) rfl fun s0 hs0 => ?_
  refine zaf ?_
  refine zac ?_
  refine za rfl rfl rfl (zad (.inl rfl) (ev1 rfl)) ?_
  refine za rfl rfl rfl (op_not rfl (ev1 rfl)) ?_
  refine zae ?_
  refine dwp_if_f rfl (by simp [h]) ?_
  refine zam ?_
  refine kend0 (res_none rfl) rfl ?_
  rfl
set_option maxRecDepth 4000 in
set_option maxHeartbeats 1000000 in
theorem cneed_no (b : Bool) (e : Int) (h : b = false) : DPan Tryz.prog 51 [.val (.bool b), .val (.int .i64 e)] [] (.ifc 139 (.val (.agg #[.int .i64 e]))) [] := by
  refine zaj (N := 9) 0 (by kernel_rfl) Tryz.func51 rfl rfl rfl (by simp only [fr0, Nat.zero_add, Nat.reduceAdd]; exact rfl) rfl fun s0 hs0 => ?_
  refine zaf ?_
  refine zac ?_
  refine za rfl rfl rfl (zad (.inl rfl) (ev1 rfl)) ?_
  refine za rfl rfl rfl (op_not rfl (ev1 rfl)) ?_
  refine zae ?_
  refine dwp_if_t rfl (by simp [h]) ?_
  refine zac ?_
  refine za rfl rfl rfl (zad (.inl rfl) (ev1 rfl)) ?_
  refine za rfl rfl rfl (op_build (ps := [(0, .tmp 6)]) rfl fl139 zr139 (vc (ev1 rfl) vn) rfl rfl) ?_
  refine za rfl rfl rfl (op_mi rfl ni139 (ev1 rfl)) ?_
  refine walk_p rfl (op_pan rfl (ev1 rfl)) rfl ?_
  refine kpan0 rfl ?_
  rfl
set_option maxRecDepth 4000 in
set_option maxHeartbeats 1000000 in
theorem urerr_v (L : List Int) (e : Int) : DFun Tryz.prog 83 [.dpm [.slf 1 (L).length ((L).flatMap uc8), .val (.int .i64 e)]] [] (.val (.int .i64 e)) [] := by
  refine zaj (N := 10) 0 (by kernel_rfl) Tryz.func83 rfl rfl rfl (by simp only [fr0, Nat.zero_add, Nat.reduceAdd]; exact rfl) rfl fun s0 hs0 => ?_
  refine zaf ?_
  refine zac ?_
  refine za rfl rfl rfl (zad (.inr rfl) (ev1 rfl)) ?_
  refine zae ?_
  refine zaf ?_
  refine zaf ?_
  refine zac ?_
  refine za rfl rfl rfl (zad (.inl rfl) (ev1 rfl)) ?_
  refine za rfl rfl rfl (op_pnilm rfl pt131 (ev1 rfl)) ?_
  refine zae ?_
  refine dwp_if_f rfl (rfl) ?_
  refine zam ?_
  refine zaf ?_
  refine zac ?_
  refine za rfl rfl rfl (zad (.inl rfl) (ev1 rfl)) ?_
  refine za rfl rfl rfl (op_nc rfl (ev1 rfl) (fun s v h => by cases h; exact ⟨_, rfl⟩)) ?_
  refine za rfl rfl rfl (op_fadm rfl fo157_0 (ev1 rfl)) ?_
  refine za rfl rfl rfl (op_fadm rfl fo155_1 (ev1 rfl)) ?_
  refine za rfl rfl rfl (op_lddm rfl tb31 (ev1 rfl) rfl) ?_
  refine za rfl rfl rfl (zad (.inr rfl) (ev1 rfl)) ?_
  refine zae ?_
  refine zan ?_
  refine kend0 (rs1 rfl (rv_t rfl)) rfl ?_
  rfl
set_option maxRecDepth 4000 in
set_option maxHeartbeats 1000000 in
theorem tnum_ok (o : OpM) (L : List Int) (hL : okL L) (w : Nat) (hw : 1 ≤ w ∧ w ≤ 8) (n : Int) (r : List Int) (h : tN w L = .ok n r) : DFun Tryz.prog 50 [.loc 0 0, .val (.int .i64 (w : Int))] [.mix 135 (.loc 1 0 :: opD o), .mix 157 [.slf 1 (L).length ((L).flatMap uc8), .val (.int .i64 0)]] (.val (.int .u64 n)) [.mix 135 (.loc 1 0 :: opD o), .mix 157 [.slf 1 (r).length ((r).flatMap uc8), .val (.int .i64 0)]] := by
  refine zaj (N := 25) 2 (by kernel_rfl) Tryz.func50 rfl rfl rfl (by simp only [fr0, Nat.zero_add, Nat.reduceAdd]; exact rfl) rfl fun s0 hs0 => ?_
  refine zaf ?_
  obtain ⟨h1, h2, h3, h4, h5⟩ := tN_num hL hw.2 h
  subst h2 h3
  refine zac ?_
  refine za rfl rfl rfl (zad (.inr rfl) (ev1 rfl)) ?_
  refine zae ?_
  refine zaf ?_
  refine zac ?_
  refine za rfl rfl rfl (zad (.inl rfl) (ev1 rfl)) ?_
  refine za rfl rfl rfl (op_nc rfl (ev1 rfl) (fun s v h => by cases h; exact ⟨_, rfl⟩)) ?_
  refine za rfl rfl rfl (zal rfl fo135_0 (ev1 rfl)) ?_
  refine za rfl rfl rfl (op_ldm rfl tb131 (ev1 rfl) rfl rfl) ?_
  refine za rfl rfl rfl (zad (.inl rfl) (ev1 rfl)) ?_
  refine zak rfl rfl rfl (zag [1] [] [] rfl (ev1 rfl) (ec (ev1 rfl) (ec (ev1 rfl) en)) rfl rfl (urnum_d L (okL_len hL) w hw h1) rfl rfl rfl rfl rfl rfl) (by simp only [upd, zaa, zab]; exact rfl) ?_
  refine za rfl rfl rfl (zad (.inr rfl) (ev1 rfl)) ?_
  refine zae ?_
  refine zaf ?_
  refine dwp_draw [([], []), ([], []), ([], []), ([0], []), ([1], []), ([], []), ([], []), ([], []), ([], []), ([0], []), ([1], []), ([], [])] mixed (by kernel_rfl) ?_
  refine lex_r rfl rfl (zad (.inl rfl) (ev1 rfl)) ?_
  refine lex_r rfl rfl (op_nc rfl (ev1 rfl) (fun s v h => by cases h; exact ⟨_, rfl⟩)) ?_
  refine lex_r rfl rfl (zal rfl fo135_0 (ev1 rfl)) ?_
  refine lex_r rfl rfl (op_ldm rfl tb131 (ev1 rfl) rfl rfl) ?_
  refine lex_r rfl rfl (zag [] [1] [] rfl (ev1 rfl) (ec (ev1 rfl) en) rfl rfl (urerr_v (L.drop w) (0)) rfl rfl rfl rfl rfl rfl) ?_
  refine lex_r rfl rfl (op_eql rfl (ev1 rfl) (ev1 rfl)) ?_
  refine lex_r rfl rfl (zad (.inl rfl) (ev1 rfl)) ?_
  refine lex_r rfl rfl (op_nc rfl (ev1 rfl) (fun s v h => by cases h; exact ⟨_, rfl⟩)) ?_
  refine lex_r rfl rfl (zal rfl fo135_0 (ev1 rfl)) ?_
  refine lex_r rfl rfl (op_ldm rfl tb131 (ev1 rfl) rfl rfl) ?_
  refine lex_r rfl rfl (zag [] [1] [] rfl (ev1 rfl) (ec (ev1 rfl) en) rfl rfl (urerr_v (L.drop w) (0)) rfl rfl rfl rfl rfl rfl) ?_
  refine lex_r rfl rfl (zag [] [] [] rfl (ev1 rfl) (ec (ev1 rfl) (ec (ev1 rfl) en)) rfl rfl (cneed_ok _ _ (rfl)) rfl rfl rfl rfl rfl rfl) ?_
  refine lex_nil ?_
  refine zaf ?_
  refine zac ?_
  refine za rfl rfl rfl (zad (.inl rfl) (ev1 rfl)) ?_
  refine za rfl rfl rfl (zad (.inr rfl) (ev1 rfl)) ?_
  refine zae ?_
  refine zan ?_
  refine kend [0, 1] (rs1 rfl (rv_t rfl)) rfl rfl ?_ ⟨rfl, rfl, trivial⟩
  rfl
set_option maxRecDepth 4000 in
set_option maxHeartbeats 1000000 in
theorem tnum_no (o : OpM) (L : List Int) (hL : okL L) (w : Nat) (hw : 1 ≤ w ∧ w ≤ 8) (e : Int) (h : tN w L = .err e) : DPan Tryz.prog 50 [.loc 0 0, .val (.int .i64 (w : Int))] [.mix 135 (.loc 1 0 :: opD o), .mix 157 [.slf 1 (L).length ((L).flatMap uc8), .val (.int .i64 0)]] (.ifc 139 (.val (.agg #[.int .i64 e]))) [.mix 135 (.loc 1 0 :: opD o), .mix 157 [.slf 1 (L).length ((L).flatMap uc8), .val (.int .i64 e)]] := by
  refine zaj (N := 25) 2 (by kernel_rfl) Tryz.func50 rfl rfl rfl (by simp only [fr0, Nat.zero_add, Nat.reduceAdd]; exact rfl) rfl fun s0 hs0 => ?_
  refine zaf ?_
  obtain ⟨h1, rfl⟩ := tN_err h
  refine zac ?_
  refine za rfl rfl rfl (zad (.inr rfl) (ev1 rfl)) ?_
  refine zae ?_
  refine zaf ?_
  refine zac ?_
  refine za rfl rfl rfl (zad (.inl rfl) (ev1 rfl)) ?_
  refine za rfl rfl rfl (op_nc rfl (ev1 rfl) (fun s v h => by cases h; exact ⟨_, rfl⟩)) ?_
  refine za rfl rfl rfl (zal rfl fo135_0 (ev1 rfl)) ?_
  refine za rfl rfl rfl (op_ldm rfl tb131 (ev1 rfl) rfl rfl) ?_
  refine za rfl rfl rfl (zad (.inl rfl) (ev1 rfl)) ?_
  refine zak rfl rfl rfl (zag [1] [] [] rfl (ev1 rfl) (ec (ev1 rfl) (ec (ev1 rfl) en)) rfl rfl (urnum_no L w hw h1) rfl rfl rfl rfl rfl rfl) (by simp only [upd, zaa, zab]; exact rfl) ?_
  refine za rfl rfl rfl (zad (.inr rfl) (ev1 rfl)) ?_
  refine zae ?_
  refine zaf ?_
  refine dwp_drawP 11 [([], []), ([], []), ([], []), ([0], []), ([1], []), ([], []), ([], []), ([], []), ([], []), ([0], []), ([1], [])] mixed (by kernel_rfl) rfl rfl ?_
  refine lex_r rfl rfl (zad (.inl rfl) (ev1 rfl)) ?_
  refine lex_r rfl rfl (op_nc rfl (ev1 rfl) (fun s v h => by cases h; exact ⟨_, rfl⟩)) ?_
  refine lex_r rfl rfl (zal rfl fo135_0 (ev1 rfl)) ?_
  refine lex_r rfl rfl (op_ldm rfl tb131 (ev1 rfl) rfl rfl) ?_
  refine lex_r rfl rfl (zag [] [1] [] rfl (ev1 rfl) (ec (ev1 rfl) en) rfl rfl (urerr_v (L) (110)) rfl rfl rfl rfl rfl rfl) ?_
  refine lex_r rfl rfl (op_eql rfl (ev1 rfl) (ev1 rfl)) ?_
  refine lex_r rfl rfl (zad (.inl rfl) (ev1 rfl)) ?_
  refine lex_r rfl rfl (op_nc rfl (ev1 rfl) (fun s v h => by cases h; exact ⟨_, rfl⟩)) ?_
  refine lex_r rfl rfl (zal rfl fo135_0 (ev1 rfl)) ?_
  refine lex_r rfl rfl (op_ldm rfl tb131 (ev1 rfl) rfl rfl) ?_
  refine lex_r rfl rfl (zag [] [1] [] rfl (ev1 rfl) (ec (ev1 rfl) en) rfl rfl (urerr_v (L) (110)) rfl rfl rfl rfl rfl rfl) ?_
  refine lex_nil ⟨_, _, _, rfl, dop_callP [] [] [] rfl (ev1 rfl) (ec (ev1 rfl) (ec (ev1 rfl) en)) rfl rfl (cneed_no _ _ (rfl)) rfl rfl rfl rfl rfl rfl, ?_⟩
  refine kpan [0, 1] rfl rfl ?_ ⟨rfl, rfl, trivial⟩
  rfl
end Go.Proofs.YtmacjicebemgoaaGreat
namespace Go.Proofs.YtmacjicebemgoaaGreat
set_option linter.unusedVariables false
set_option linter.unusedSimpArgs false
open Go.RowKit
attribute [local irreducible] tkN valF numN
set_option maxRecDepth 4000 in
set_option maxHeartbeats 1000000 in
theorem tid_okx (o : OpM) (L : List Int) (hL : okL L) (i : I3) (r1 r2 r3 : List Int) (e1 : tN 8 L = .ok i.t r1) (e2 : tN 1 r1 = .ok i.s r2) (e3 : tN 8 r2 = .ok i.q r3) (hi : mayR i = true) : DFun Tryz.prog 58 [.loc 0 0] [.mix 135 (.loc 1 0 :: opD o), .mix 157 [.slf 1 (L).length ((L).flatMap uc8), .val (.int .i64 0)]] (.val (.agg (idc i).toArray)) [.mix 135 (.loc 1 0 :: opD o), .mix 157 [.slf 1 (r3).length ((r3).flatMap uc8), .val (.int .i64 0)]] := by
  refine zaj (N := 17) 2 (by kernel_rfl) Tryz.func58 rfl rfl rfl (by simp only [fr0, Nat.zero_add, Nat.reduceAdd]; exact rfl) rfl fun s0 hs0 => ?_
  refine zaf ?_
  have k1 := okL_N hL e1
  have k2 := okL_N k1 e2
  have x2 := tN_one k1 e2
  refine zai 1 (by simp only [holes, List.cons_append, List.nil_append]; exact rfl) ?_
  refine zac ?_
  refine zak rfl rfl rfl (op_alloc 2 rfl zr29 rfl) (by simp only [upd, zaa, zab]; exact rfl) ?_
  refine zae ?_
  refine zaf ?_
  refine zai 1 (by simp only [holes, List.cons_append, List.nil_append]; exact rfl) ?_
  refine zac ?_
  refine za rfl rfl rfl (zad (.inl rfl) (ev1 rfl)) ?_
  refine zak rfl rfl rfl (zag [0, 1] [] [] rfl (ev1 rfl) (ec (ev1 rfl) (ec (ev1 rfl) en)) rfl rfl (tnum_ok o (L) (hL) 8 (by decide) (i.t) (r1) (e1)) rfl rfl rfl rfl rfl rfl) (by simp only [upd, zaa, zab]; exact rfl) ?_
  refine za rfl rfl rfl (zad (.inl rfl) (ev1 rfl)) ?_
  refine zak rfl rfl rfl (zag [0, 1] [] [] rfl (ev1 rfl) (ec (ev1 rfl) (ec (ev1 rfl) en)) rfl rfl (tnum_ok o (r1) (k1) 1 (by decide) (i.s) (r2) (e2)) rfl rfl rfl rfl rfl rfl) (by simp only [upd, zaa, zab]; exact rfl) ?_
  refine za rfl rfl rfl (op_conv' ty23 kn3 rfl (ev1 rfl) (fun _ => IntWalk.i64_in _ (by omega))) ?_
  refine za rfl rfl rfl (zad (.inl rfl) (ev1 rfl)) ?_
  refine zak rfl rfl rfl (zag [0, 1] [] [] rfl (ev1 rfl) (ec (ev1 rfl) (ec (ev1 rfl) en)) rfl rfl (tnum_ok o (r2) (k2) 8 (by decide) (i.q) (r3) (e3)) rfl rfl rfl rfl rfl rfl) (by simp only [upd, zaa, zab]; exact rfl) ?_
  refine za rfl rfl rfl (op_build (ps := [(0, .tmp 5), (1, .tmp 8), (2, .tmp 10)]) rfl fl29 zr29 (vc (ev1 rfl) (vc (ev1 rfl) (vc (ev1 rfl) vn))) rfl rfl) ?_
  refine zak rfl rfl rfl (op_alloc 3 rfl zr29 rfl) (by simp only [upd, zaa, zab]; exact rfl) ?_
  refine walk_s rfl rfl (op_stwa rfl tb29 (ev1 rfl) (ev1 rfl) rfl rfl rfl rfl) (by simp only [upd, zaa, zab]; exact rfl) ?_
  refine zae ?_
  refine zaf ?_
  refine zac ?_
  refine za rfl rfl rfl (op_ldw rfl tb29 (ev1 rfl) rfl rfl) ?_
  refine za rfl rfl rfl (zag [] [] [] rfl (ev1 rfl) (ec (ev1 rfl) en) rfl rfl (idCheck_d i) rfl rfl rfl rfl rfl rfl) ?_
  refine za rfl rfl rfl (op_eql rfl (ev1 rfl) (ev1 rfl)) ?_
  refine za rfl rfl rfl (zag [] [] [] rfl (ev1 rfl) (ec (ev1 rfl) (ec (ev1 rfl) en)) rfl rfl (cneed_ok _ _ (by rw [hi]; rfl)) rfl rfl rfl rfl rfl rfl) ?_
  refine zae ?_
  refine zaf ?_
  refine zac ?_
  refine za rfl rfl rfl (op_ldw rfl tb29 (ev1 rfl) rfl rfl) ?_
  refine walk_s rfl rfl (op_stwa rfl tb29 (ev1 rfl) (ev1 rfl) rfl rfl rfl rfl) (by simp only [upd, zaa, zab]; exact rfl) ?_
  refine zae ?_
  refine zan ?_
  refine kend [0, 1] (rs1 rfl (rv_w tb29 rfl rfl rfl)) rfl rfl ?_ ⟨rfl, rfl, trivial⟩
  rfl
set_option maxRecDepth 4000 in
set_option maxHeartbeats 1000000 in
theorem tid_bad (o : OpM) (L : List Int) (hL : okL L) (i : I3) (r1 r2 r3 : List Int) (e1 : tN 8 L = .ok i.t r1) (e2 : tN 1 r1 = .ok i.s r2) (e3 : tN 8 r2 = .ok i.q r3) (hi : mayR i = false) : DPan Tryz.prog 58 [.loc 0 0] [.mix 135 (.loc 1 0 :: opD o), .mix 157 [.slf 1 (L).length ((L).flatMap uc8), .val (.int .i64 0)]] (.ifc 139 (.val (.agg #[.int .i64 290]))) [.mix 135 (.loc 1 0 :: opD o), .mix 157 [.slf 1 (r3).length ((r3).flatMap uc8), .val (.int .i64 0)]] := by
  refine zaj (N := 17) 2 (by kernel_rfl) Tryz.func58 rfl rfl rfl (by simp only [fr0, Nat.zero_add, Nat.reduceAdd]; exact rfl) rfl fun s0 hs0 => ?_
  refine zaf ?_
  have k1 := okL_N hL e1
  have k2 := okL_N k1 e2
  have x2 := tN_one k1 e2
  refine zai 1 (by simp only [holes, List.cons_append, List.nil_append]; exact rfl) ?_
  refine zac ?_
  refine zak rfl rfl rfl (op_alloc 2 rfl zr29 rfl) (by simp only [upd, zaa, zab]; exact rfl) ?_
  refine zae ?_
  refine zaf ?_
  refine zai 1 (by simp only [holes, List.cons_append, List.nil_append]; exact rfl) ?_
  refine zac ?_
  refine za rfl rfl rfl (zad (.inl rfl) (ev1 rfl)) ?_
  refine zak rfl rfl rfl (zag [0, 1] [] [] rfl (ev1 rfl) (ec (ev1 rfl) (ec (ev1 rfl) en)) rfl rfl (tnum_ok o (L) (hL) 8 (by decide) (i.t) (r1) (e1)) rfl rfl rfl rfl rfl rfl) (by simp only [upd, zaa, zab]; exact rfl) ?_
  refine za rfl rfl rfl (zad (.inl rfl) (ev1 rfl)) ?_
  refine zak rfl rfl rfl (zag [0, 1] [] [] rfl (ev1 rfl) (ec (ev1 rfl) (ec (ev1 rfl) en)) rfl rfl (tnum_ok o (r1) (k1) 1 (by decide) (i.s) (r2) (e2)) rfl rfl rfl rfl rfl rfl) (by simp only [upd, zaa, zab]; exact rfl) ?_
  refine za rfl rfl rfl (op_conv' ty23 kn3 rfl (ev1 rfl) (fun _ => IntWalk.i64_in _ (by omega))) ?_
  refine za rfl rfl rfl (zad (.inl rfl) (ev1 rfl)) ?_
  refine zak rfl rfl rfl (zag [0, 1] [] [] rfl (ev1 rfl) (ec (ev1 rfl) (ec (ev1 rfl) en)) rfl rfl (tnum_ok o (r2) (k2) 8 (by decide) (i.q) (r3) (e3)) rfl rfl rfl rfl rfl rfl) (by simp only [upd, zaa, zab]; exact rfl) ?_
  refine za rfl rfl rfl (op_build (ps := [(0, .tmp 5), (1, .tmp 8), (2, .tmp 10)]) rfl fl29 zr29 (vc (ev1 rfl) (vc (ev1 rfl) (vc (ev1 rfl) vn))) rfl rfl) ?_
  refine zak rfl rfl rfl (op_alloc 3 rfl zr29 rfl) (by simp only [upd, zaa, zab]; exact rfl) ?_
  refine walk_s rfl rfl (op_stwa rfl tb29 (ev1 rfl) (ev1 rfl) rfl rfl rfl rfl) (by simp only [upd, zaa, zab]; exact rfl) ?_
  refine zae ?_
  refine zaf ?_
  refine zac ?_
  refine za rfl rfl rfl (op_ldw rfl tb29 (ev1 rfl) rfl rfl) ?_
  refine za rfl rfl rfl (zag [] [] [] rfl (ev1 rfl) (ec (ev1 rfl) en) rfl rfl (idCheck_d i) rfl rfl rfl rfl rfl rfl) ?_
  refine za rfl rfl rfl (op_eql rfl (ev1 rfl) (ev1 rfl)) ?_
  refine walk_p rfl (dop_callP [] [] [] rfl (ev1 rfl) (ec (ev1 rfl) (ec (ev1 rfl) en)) rfl rfl (cneed_no _ _ (by rw [hi]; rfl)) rfl rfl rfl rfl rfl rfl) rfl ?_
  refine kpan [0, 1] rfl rfl ?_ ⟨rfl, rfl, trivial⟩
  rfl
set_option maxRecDepth 4000 in
set_option maxHeartbeats 1000000 in
theorem tid_no0 (o : OpM) (L : List Int) (hL : okL L) (e : Int) (h : tN 8 L = .err e) : DPan Tryz.prog 58 [.loc 0 0] [.mix 135 (.loc 1 0 :: opD o), .mix 157 [.slf 1 (L).length ((L).flatMap uc8), .val (.int .i64 0)]] (.ifc 139 (.val (.agg #[.int .i64 e]))) [.mix 135 (.loc 1 0 :: opD o), .mix 157 [.slf 1 (L).length ((L).flatMap uc8), .val (.int .i64 e)]] := by
  refine zaj (N := 17) 2 (by kernel_rfl) Tryz.func58 rfl rfl rfl (by simp only [fr0, Nat.zero_add, Nat.reduceAdd]; exact rfl) rfl fun s0 hs0 => ?_
  refine zaf ?_
  refine zai 1 (by simp only [holes, List.cons_append, List.nil_append]; exact rfl) ?_
  refine zac ?_
  refine zak rfl rfl rfl (op_alloc 2 rfl zr29 rfl) (by simp only [upd, zaa, zab]; exact rfl) ?_
  refine zae ?_
  refine zaf ?_
  refine zai 1 (by simp only [holes, List.cons_append, List.nil_append]; exact rfl) ?_
  refine zac ?_
  refine za rfl rfl rfl (zad (.inl rfl) (ev1 rfl)) ?_
  refine walk_p rfl (dop_callP [0, 1] [] [] rfl (ev1 rfl) (ec (ev1 rfl) (ec (ev1 rfl) en)) rfl rfl (tnum_no o (L) (hL) 8 (by decide) (e) (h)) rfl rfl rfl rfl rfl rfl) rfl ?_
  refine kpan [0, 1] rfl rfl ?_ ⟨rfl, rfl, trivial⟩
  rfl
set_option maxRecDepth 4000 in
set_option maxHeartbeats 1000000 in
theorem tid_no1 (o : OpM) (L : List Int) (hL : okL L) (t : Int) (r1 : List Int) (e1 : tN 8 L = .ok t r1) (e : Int) (h : tN 1 r1 = .err e) : DPan Tryz.prog 58 [.loc 0 0] [.mix 135 (.loc 1 0 :: opD o), .mix 157 [.slf 1 (L).length ((L).flatMap uc8), .val (.int .i64 0)]] (.ifc 139 (.val (.agg #[.int .i64 e]))) [.mix 135 (.loc 1 0 :: opD o), .mix 157 [.slf 1 (r1).length ((r1).flatMap uc8), .val (.int .i64 e)]] := by
  refine zaj (N := 17) 2 (by kernel_rfl) Tryz.func58 rfl rfl rfl (by simp only [fr0, Nat.zero_add, Nat.reduceAdd]; exact rfl) rfl fun s0 hs0 => ?_
  refine zaf ?_
  have k1 := okL_N hL e1
  refine zai 1 (by simp only [holes, List.cons_append, List.nil_append]; exact rfl) ?_
  refine zac ?_
  refine zak rfl rfl rfl (op_alloc 2 rfl zr29 rfl) (by simp only [upd, zaa, zab]; exact rfl) ?_
  refine zae ?_
  refine zaf ?_
  refine zai 1 (by simp only [holes, List.cons_append, List.nil_append]; exact rfl) ?_
  refine zac ?_
  refine za rfl rfl rfl (zad (.inl rfl) (ev1 rfl)) ?_
  refine zak rfl rfl rfl (zag [0, 1] [] [] rfl (ev1 rfl) (ec (ev1 rfl) (ec (ev1 rfl) en)) rfl rfl (tnum_ok o (L) (hL) 8 (by decide) (t) (r1) (e1)) rfl rfl rfl rfl rfl rfl) (by simp only [upd, zaa, zab]; exact rfl) ?_
  refine za rfl rfl rfl (zad (.inl rfl) (ev1 rfl)) ?_
  refine walk_p rfl (dop_callP [0, 1] [] [] rfl (ev1 rfl) (ec (ev1 rfl) (ec (ev1 rfl) en)) rfl rfl (tnum_no o (r1) (k1) 1 (by decide) (e) (h)) rfl rfl rfl rfl rfl rfl) rfl ?_
  refine kpan [0, 1] rfl rfl ?_ ⟨rfl, rfl, trivial⟩
  rfl
set_option maxRecDepth 4000 in
set_option maxHeartbeats 1000000 in
theorem tid_no2 (o : OpM) (L : List Int) (hL : okL L) (t : Int) (r1 : List Int) (e1 : tN 8 L = .ok t r1) (s : Int) (r2 : List Int) (e2 : tN 1 r1 = .ok s r2) (e : Int) (h : tN 8 r2 = .err e) : DPan Tryz.prog 58 [.loc 0 0] [.mix 135 (.loc 1 0 :: opD o), .mix 157 [.slf 1 (L).length ((L).flatMap uc8), .val (.int .i64 0)]] (.ifc 139 (.val (.agg #[.int .i64 e]))) [.mix 135 (.loc 1 0 :: opD o), .mix 157 [.slf 1 (r2).length ((r2).flatMap uc8), .val (.int .i64 e)]] := by
  refine zaj (N := 17) 2 (by kernel_rfl) Tryz.func58 rfl rfl rfl (by simp only [fr0, Nat.zero_add, Nat.reduceAdd]; exact rfl) rfl fun s0 hs0 => ?_
  refine zaf ?_
  have k1 := okL_N hL e1
  have k2 := okL_N k1 e2
  have x2 := tN_one k1 e2
  refine zai 1 (by simp only [holes, List.cons_append, List.nil_append]; exact rfl) ?_
  refine zac ?_
  refine zak rfl rfl rfl (op_alloc 2 rfl zr29 rfl) (by simp only [upd, zaa, zab]; exact rfl) ?_
  refine zae ?_
  refine zaf ?_
  refine zai 1 (by simp only [holes, List.cons_append, List.nil_append]; exact rfl) ?_
  refine zac ?_
  refine za rfl rfl rfl (zad (.inl rfl) (ev1 rfl)) ?_
  refine zak rfl rfl rfl (zag [0, 1] [] [] rfl (ev1 rfl) (ec (ev1 rfl) (ec (ev1 rfl) en)) rfl rfl (tnum_ok o (L) (hL) 8 (by decide) (t) (r1) (e1)) rfl rfl rfl rfl rfl rfl) (by simp only [upd, zaa, zab]; exact rfl) ?_
  refine za rfl rfl rfl (zad (.inl rfl) (ev1 rfl)) ?_
  refine zak rfl rfl rfl (zag [0, 1] [] [] rfl (ev1 rfl) (ec (ev1 rfl) (ec (ev1 rfl) en)) rfl rfl (tnum_ok o (r1) (k1) 1 (by decide) (s) (r2) (e2)) rfl rfl rfl rfl rfl rfl) (by simp only [upd, zaa, zab]; exact rfl) ?_
  refine za rfl rfl rfl (op_conv' ty23 kn3 rfl (ev1 rfl) (fun _ => IntWalk.i64_in _ (by omega))) ?_
  refine za rfl rfl rfl (zad (.inl rfl) (ev1 rfl)) ?_
  refine walk_p rfl (dop_callP [0, 1] [] [] rfl (ev1 rfl) (ec (ev1 rfl) (ec (ev1 rfl) en)) rfl rfl (tnum_no o (r2) (k2) 8 (by decide) (e) (h)) rfl rfl rfl rfl rfl rfl) rfl ?_
  refine kpan [0, 1] rfl rfl ?_ ⟨rfl, rfl, trivial⟩
  rfl
theorem tid_ok (o : OpM) (L : List Int) (hL : okL L) (i : I3) (r : List Int) (h : tId L = .ok i r) : DFun Tryz.prog 58 [.loc 0 0] [.mix 135 (.loc 1 0 :: opD o), .mix 157 [.slf 1 (L).length ((L).flatMap uc8), .val (.int .i64 0)]] (.val (.agg (idc i).toArray)) [.mix 135 (.loc 1 0 :: opD o), .mix 157 [.slf 1 (r).length ((r).flatMap uc8), .val (.int .i64 0)]] := by
  obtain ⟨r1, r2, e1, e2, e3, hi⟩ := tId_ok h
  exact tid_okx o L hL i r1 r2 r e1 e2 e3 hi
theorem tid_no (o : OpM) (L : List Int) (hL : okL L) (e : Int) (h : tId L = .err e) : DPan Tryz.prog 58 [.loc 0 0] [.mix 135 (.loc 1 0 :: opD o), .mix 157 [.slf 1 (L).length ((L).flatMap uc8), .val (.int .i64 0)]] (.ifc 139 (.val (.agg #[.int .i64 e]))) [.gone, .gone] := by
  rcases tId_err h with h | ⟨t, r1, e1, h⟩ | ⟨t, r1, s, r2, e1, e2, h⟩ | ⟨i, r1, r2, r3, e1, e2, e3, hi, rfl⟩
  · exact ((tid_no0 o L hL e h).weakL rfl).dead
  · exact ((tid_no1 o L hL t r1 e1 e h).weakL rfl).dead
  · exact ((tid_no2 o L hL t r1 e1 s r2 e2 e h).weakL rfl).dead
  · exact ((tid_bad o L hL i r1 r2 r3 e1 e2 e3 hi).weakL rfl).dead
end Go.Proofs.YtmacjicebemgoaaGreat
namespace Go.Proofs.YtmacjicebemgoaaGreat
set_option linter.unusedVariables false
set_option linter.unusedSimpArgs false
open Go.RowKit
attribute [local irreducible] tkN valF numN tkCo tkRep tkF tkFs tkVs fieldsK
theorem fl47 : fdL Tryz.prog 47 = some [(0, 3), (3, 1), (4, 1), (5, 1), (6, 1), (7, 1), (8, 1), (9, 4), (13, 3), (16, 3)] := by kernel_rfl
theorem wkOp (K : Int) : Wk (.val (.agg #[.int .u64 0, .int .i64 0, .int .u64 0, .int .i64 K, .int .i64 0, .int .i64 0, .int .i64 0, .int .i64 0, .int .i64 0, .int .u8 0, .int .u8 0, .int .u8 0, .int .u8 0, .int .i64 0, .int .i64 0, .slice none 0 0, .int .u64 0, .int .i64 0, .int .u64 0])) (.agg (opD (mk0 K zI3))) :=
  (Wk.vagg _).trans (Wk.agg (WkL.cons (Wk.refl _) (WkL.cons (Wk.refl _) (WkL.cons (Wk.refl _) (WkL.cons (Wk.refl _) (WkL.cons (Wk.refl _) (WkL.cons (Wk.refl _) (WkL.cons (Wk.refl _) (WkL.cons (Wk.refl _) (WkL.cons (Wk.refl _) (WkL.cons (Wk.refl _) (WkL.cons (Wk.refl _) (WkL.cons (Wk.refl _) (WkL.cons (Wk.refl _) (WkL.cons (Wk.refl _) (WkL.cons (Wk.refl _) (WkL.cons (Wk.slf0 4) (WkL.cons (Wk.refl _) (WkL.cons (Wk.refl _) (WkL.cons (Wk.refl _) (WkL.nil)))))))))))))))))))))
set_option maxRecDepth 4000 in
set_option maxHeartbeats 1000000 in
theorem top_n2 (o : OpM) (L : List Int) (hL : okL L) (K : Nat) (hK : 1 ≤ K ∧ K ≤ 8) (r1 : List Int) (e1 : tN 1 L = .ok (K : Int) r1) (e : Int) (h : tId r1 = .err e) : DPanL Tryz.prog 52 [.loc 0 0] [.mix 135 (.loc 1 0 :: opD o), .mix 157 [.slf 1 (L).length ((L).flatMap uc8), .val (.int .i64 0)]] (.ifc 139 (.val (.agg #[.int .i64 e]))) := by
  refine zaj (N := 50) 2 (by kernel_rfl) Tryz.func52 rfl rfl rfl (by simp only [fr0, Nat.zero_add, Nat.reduceAdd]; exact rfl) rfl fun s0 hs0 => ?_
  refine zaf ?_
  have k1 := okL_N hL e1
  refine zai 1 (by simp only [holes, List.cons_append, List.nil_append]; exact rfl) ?_
  refine zac ?_
  refine zak rfl rfl rfl (op_alloc 2 rfl zr47 rfl) (by simp only [upd, zaa, zab]; exact rfl) ?_
  refine zae ?_
  refine zaf ?_
  refine zac ?_
  refine za rfl rfl rfl (zad (.inl rfl) (ev1 rfl)) ?_
  refine zak rfl rfl rfl (zag [0, 1] [] [] rfl (ev1 rfl) (ec (ev1 rfl) (ec (ev1 rfl) en)) rfl rfl (tnum_ok o (L) (hL) 1 (by decide) ((K : Int)) (r1) (e1)) rfl rfl rfl rfl rfl rfl) (by simp only [upd, zaa, zab]; exact rfl) ?_
  refine za rfl rfl rfl (op_conv' ty23 kn3 rfl (ev1 rfl) (fun _ => IntWalk.i64_in _ (by omega))) ?_
  refine za rfl rfl rfl (zad (.inr rfl) (ev1 rfl)) ?_
  refine zae ?_
  refine zaf ?_
  refine zac ?_
  refine za rfl rfl rfl (zad (.inl rfl) (ev1 rfl)) ?_
  refine za rfl rfl rfl (op_geq rfl (ev1 rfl) (ev1 rfl)) ?_
  refine za rfl rfl rfl (zad (.inl rfl) (ev1 rfl)) ?_
  refine zah (gd_t rfl rfl rfl) rfl rfl rfl (zad (.inl rfl) (ev1 rfl)) ?_
  refine zah (gd_t rfl rfl rfl) rfl rfl rfl (op_leq rfl (ev2 rfl) (ev1 rfl)) ?_
  refine za rfl rfl rfl (op_and rfl (ev1 rfl) (ev3 rfl id)) ?_
  refine za rfl rfl rfl (zag [] [] [] rfl (ev1 rfl) (ec (ev1 rfl) (ec (ev1 rfl) en)) rfl rfl (cneed_ok _ _ (by simp; omega)) rfl rfl rfl rfl rfl rfl) ?_
  refine zae ?_
  refine zaf ?_
  refine zac ?_
  refine za rfl rfl rfl (zad (.inl rfl) (ev1 rfl)) ?_
  refine za rfl rfl rfl (zad (.inl rfl) (ev1 rfl)) ?_
  refine za rfl rfl rfl ((op_build (ps := [(1, .tmp 17)]) rfl fl47 zr47 (vc (ev1 rfl) vn) rfl rfl).cast (d' := .val (.agg #[.int .u64 0, .int .i64 0, .int .u64 0, .int .i64 K, .int .i64 0, .int .i64 0, .int .i64 0, .int .i64 0, .int .i64 0, .int .u8 0, .int .u8 0, .int .u8 0, .int .u8 0, .int .i64 0, .int .i64 0, .slice none 0 0, .int .u64 0, .int .i64 0, .int .u64 0])) (by kernel_rfl)) ?_
  refine za rfl rfl rfl (op_nc rfl (ev1 rfl) (fun s v h => by cases h; exact ⟨_, rfl⟩)) ?_
  refine za rfl rfl rfl (zal rfl fo135_1 (ev1 rfl)) ?_
  refine walk_s rfl rfl (op_stmp rfl tb47 (ev1 rfl) (evwk (ev1 rfl) (wkOp _)) rfl rfl rfl rfl rfl) (by simp only [upd, zaa, zab]; exact rfl) ?_
  refine zae ?_
  refine zaf ?_
  refine zac ?_
  refine za rfl rfl rfl (zad (.inl rfl) (ev1 rfl)) ?_
  refine za rfl rfl rfl (zad (.inl rfl) (ev1 rfl)) ?_
  refine walk_p rfl (dop_callP [0, 1] [] [] rfl (ev1 rfl) (ec (ev1 rfl) en) rfl rfl (tid_no (mk0 K zI3) r1 k1 e h) rfl rfl rfl rfl rfl rfl) rfl ?_
  refine kpanL (Mo := [_, _]) [0, 1] rfl rfl ?_ ⟨rfl, rfl, trivial⟩ rfl
  rfl
set_option maxRecDepth 4000 in
set_option maxHeartbeats 1000000 in
theorem top_n1 (o : OpM) (L : List Int) (hL : okL L) (k : Int) (r1 : List Int) (e1 : tN 1 L = .ok k r1) (hk : isK k = false) : DPanL Tryz.prog 52 [.loc 0 0] [.mix 135 (.loc 1 0 :: opD o), .mix 157 [.slf 1 (L).length ((L).flatMap uc8), .val (.int .i64 0)]] (.ifc 139 (.val (.agg #[.int .i64 290]))) := by
  refine zaj (N := 50) 2 (by kernel_rfl) Tryz.func52 rfl rfl rfl (by simp only [fr0, Nat.zero_add, Nat.reduceAdd]; exact rfl) rfl fun s0 hs0 => ?_
  refine zaf ?_
  have k1 := okL_N hL e1
  have x1 := tN_one hL e1
  refine zai 1 (by simp only [holes, List.cons_append, List.nil_append]; exact rfl) ?_
  refine zac ?_
  refine zak rfl rfl rfl (op_alloc 2 rfl zr47 rfl) (by simp only [upd, zaa, zab]; exact rfl) ?_
  refine zae ?_
  refine zaf ?_
  refine zac ?_
  refine za rfl rfl rfl (zad (.inl rfl) (ev1 rfl)) ?_
  refine zak rfl rfl rfl (zag [0, 1] [] [] rfl (ev1 rfl) (ec (ev1 rfl) (ec (ev1 rfl) en)) rfl rfl (tnum_ok o (L) (hL) 1 (by decide) (k) (r1) (e1)) rfl rfl rfl rfl rfl rfl) (by simp only [upd, zaa, zab]; exact rfl) ?_
  refine za rfl rfl rfl (op_conv' ty23 kn3 rfl (ev1 rfl) (fun _ => IntWalk.i64_in _ (by omega))) ?_
  refine za rfl rfl rfl (zad (.inr rfl) (ev1 rfl)) ?_
  refine zae ?_
  refine zaf ?_
  refine zac ?_
  refine za rfl rfl rfl (zad (.inl rfl) (ev1 rfl)) ?_
  refine za rfl rfl rfl (op_geq rfl (ev1 rfl) (ev1 rfl)) ?_
  refine za rfl rfl rfl (zad (.inl rfl) (ev1 rfl)) ?_
  refine zah (gd_t rfl rfl rfl) rfl rfl rfl (zad (.inl rfl) (ev1 rfl)) ?_
  refine zah (gd_t rfl rfl rfl) rfl rfl rfl (op_leq rfl (ev2 rfl) (ev1 rfl)) ?_
  refine za rfl rfl rfl (op_and rfl (ev1 rfl) (ev3 rfl id)) ?_
  refine walk_p rfl (dop_callP [] [] [] rfl (ev1 rfl) (ec (ev1 rfl) (ec (ev1 rfl) en)) rfl rfl (cneed_no _ _ (by unfold isK at hk; simpa using hk)) rfl rfl rfl rfl rfl rfl) rfl ?_
  refine kpanL (Mo := [_, _]) [0, 1] rfl rfl ?_ ⟨rfl, rfl, trivial⟩ rfl
  rfl
end Go.Proofs.YtmacjicebemgoaaGreat
namespace Go.Proofs.YtmacjicebemgoaaGreat
set_option linter.unusedVariables false
set_option linter.unusedSimpArgs false
open Go.RowKit
attribute [local irreducible] tkN valF numN tkRep tkOp tkId tkVec tkRow
theorem ops_nl2 (l : List OpM) : D.nlL (l.flatMap opD) = true := by
  induction l with
  | nil => rfl
  | cons a l ih => exact ih
set_option maxRecDepth 4000 in
set_option maxHeartbeats 1000000 in
theorem tos1_n1 (o : OpM) (L : List Int) (hL : okL L) (k : Int) (r1 : List Int) (e1 : tN 1 L = .ok k r1) (hk : isM k = false) : DPanL Tryz.prog 49 [.loc 0 0] [.mix 135 (.loc 1 0 :: opD o), .mix 157 [.slf 1 (L).length ((L).flatMap uc8), .val (.int .i64 0)]] (.ifc 139 (.val (.agg #[.int .i64 290]))) := by
  refine zaj (N := 20) 2 (by kernel_rfl) Tryz.func49 rfl rfl rfl (by simp only [fr0, Nat.zero_add, Nat.reduceAdd]; exact rfl) rfl fun s0 hs0 => ?_
  refine zaf ?_
  have k1 := okL_N hL e1
  refine zac ?_
  refine za rfl rfl rfl (zad (.inr rfl) (ev1 rfl)) ?_
  refine zae ?_
  refine zaf ?_
  refine zac ?_
  refine za rfl rfl rfl (zad (.inl rfl) (ev1 rfl)) ?_
  refine zak rfl rfl rfl (zag [0, 1] [] [] rfl (ev1 rfl) (ec (ev1 rfl) (ec (ev1 rfl) en)) rfl rfl (tnum_ok o (L) (hL) 1 (by decide) (k) (r1) (e1)) rfl rfl rfl rfl rfl rfl) (by simp only [upd, zaa, zab]; exact rfl) ?_
  refine za rfl rfl rfl (zad (.inr rfl) (ev1 rfl)) ?_
  refine zae ?_
  refine zaf ?_
  refine zac ?_
  refine za rfl rfl rfl (zad (.inl rfl) (ev1 rfl)) ?_
  refine za rfl rfl rfl (op_leq rfl (ev1 rfl) (ev1 rfl)) ?_
  refine walk_p rfl (dop_callP [] [] [] rfl (ev1 rfl) (ec (ev1 rfl) (ec (ev1 rfl) en)) rfl rfl (cneed_no _ _ (by unfold isM at hk; exact hk)) rfl rfl rfl rfl rfl rfl) rfl ?_
  refine kpanL (Mo := [_, _]) [0, 1] rfl rfl ?_ ⟨rfl, rfl, trivial⟩ rfl
  rfl
set_option maxRecDepth 4000 in
set_option maxHeartbeats 1000000 in
theorem tid1_ok (o : OpM) (L : List Int) (hL : okL L) (v : I3) (r : List Int) (h : tId L = .ok v r) : DFun Tryz.prog 57 [.loc 0 0] [.mix 135 (.loc 1 0 :: opD o), .mix 157 [.slf 1 (L).length ((L).flatMap uc8), .val (.int .i64 0)]] (.val (.agg (idc v).toArray)) [.mix 135 (.loc 1 0 :: opD o), .mix 157 [.slf 1 (r).length ((r).flatMap uc8), .val (.int .i64 0)]] := by
  refine zaj (N := 5) 2 (by kernel_rfl) Tryz.func57 rfl rfl rfl (by simp only [fr0, Nat.zero_add, Nat.reduceAdd]; exact rfl) rfl fun s0 hs0 => ?_
  refine zaf ?_
  refine zai 1 (by simp only [holes, List.cons_append, List.nil_append]; exact rfl) ?_
  refine zac ?_
  refine zak rfl rfl rfl (op_alloc 2 rfl zr29 rfl) (by simp only [upd, zaa, zab]; exact rfl) ?_
  refine zae ?_
  refine zaf ?_
  refine zac ?_
  refine za rfl rfl rfl (zad (.inl rfl) (ev1 rfl)) ?_
  refine zak rfl rfl rfl (zag [0, 1] [] [] rfl (ev1 rfl) (ec (ev1 rfl) en) rfl rfl (tid_ok o L hL v r h) rfl rfl rfl rfl rfl rfl) (by simp only [upd, zaa, zab]; exact rfl) ?_
  refine walk_s rfl rfl (op_stwa rfl tb29 (ev1 rfl) (ev1 rfl) rfl rfl rfl rfl) (by simp only [upd, zaa, zab]; exact rfl) ?_
  refine zae ?_
  refine zan ?_
  refine kend [0, 1] (rs1 rfl (rv_w tb29 rfl rfl rfl)) rfl rfl ?_ ⟨rfl, rfl, trivial⟩
  rfl
set_option maxRecDepth 4000 in
set_option maxHeartbeats 1000000 in
theorem top1_nop (o : OpM) (L : List Int) (hL : okL L) (e : Int) (hp : DPan Tryz.prog 52 [.loc 0 0] [.mix 135 (.loc 1 0 :: opD o), .mix 157 [.slf 1 (L).length ((L).flatMap uc8), .val (.int .i64 0)]] (.ifc 139 (.val (.agg #[.int .i64 e]))) [.gone, .gone]) : DPanL Tryz.prog 55 [.loc 0 0] [.mix 135 (.loc 1 0 :: opD o), .mix 157 [.slf 1 (L).length ((L).flatMap uc8), .val (.int .i64 0)]] (.ifc 139 (.val (.agg #[.int .i64 e]))) := by
  refine zaj (N := 5) 2 (by kernel_rfl) Tryz.func55 rfl rfl rfl (by simp only [fr0, Nat.zero_add, Nat.reduceAdd]; exact rfl) rfl fun s0 hs0 => ?_
  refine zaf ?_
  refine zai 1 (by simp only [holes, List.cons_append, List.nil_append]; exact rfl) ?_
  refine zac ?_
  refine zak rfl rfl rfl (op_alloc 2 rfl zr47 rfl) (by simp only [upd, zaa, zab]; exact rfl) ?_
  refine zae ?_
  refine zaf ?_
  refine zac ?_
  refine za rfl rfl rfl (zad (.inl rfl) (ev1 rfl)) ?_
  refine walk_p rfl (dop_callP [0, 1] [] [] rfl (ev1 rfl) (ec (ev1 rfl) en) rfl rfl (hp) rfl rfl rfl rfl rfl rfl) rfl ?_
  refine kpanL (Mo := [_, _]) [0, 1] rfl rfl ?_ ⟨rfl, rfl, trivial⟩ rfl
  rfl
end Go.Proofs.YtmacjicebemgoaaGreat
namespace Go.Proofs.YtmacjicebemgoaaGreat
set_option linter.unusedVariables false
set_option linter.unusedSimpArgs false
open Go.RowKit
attribute [local irreducible] tkN valF numN tkRep tkOp tkId tkVec tkRow
theorem fl135 : fdL Tryz.prog 135 = some [(0, 1), (1, 19)] := by kernel_rfl
theorem zr135 : zrC Tryz.prog 135 = some [.pointer none, .int .u64 0, .int .i64 0, .int .u64 0, .int .i64 0, .int .i64 0, .int .i64 0, .int .i64 0, .int .i64 0, .int .i64 0, .int .u8 0, .int .u8 0, .int .u8 0, .int .u8 0, .int .i64 0, .int .i64 0, .slice none 0 0, .int .u64 0, .int .i64 0, .int .u64 0] := by kernel_rfl
theorem wkZL {d : D} : WkL [d, .val (.int .u64 0), .val (.int .i64 0), .val (.int .u64 0), .val (.int .i64 0), .val (.int .i64 0), .val (.int .i64 0), .val (.int .i64 0), .val (.int .i64 0), .val (.int .i64 0), .val (.int .u8 0), .val (.int .u8 0), .val (.int .u8 0), .val (.int .u8 0), .val (.int .i64 0), .val (.int .i64 0), .val (.slice none 0 0), .val (.int .u64 0), .val (.int .i64 0), .val (.int .u64 0)] (d :: opD zO) :=
  WkL.cons (Wk.refl _) (WkL.cons (Wk.refl _) (WkL.cons (Wk.refl _) (WkL.cons (Wk.refl _) (WkL.cons (Wk.refl _) (WkL.cons (Wk.refl _) (WkL.cons (Wk.refl _) (WkL.cons (Wk.refl _) (WkL.cons (Wk.refl _) (WkL.cons (Wk.refl _) (WkL.cons (Wk.refl _) (WkL.cons (Wk.refl _) (WkL.cons (Wk.refl _) (WkL.cons (Wk.refl _) (WkL.cons (Wk.refl _) (WkL.cons (Wk.refl _) (WkL.cons (Wk.slf0 4) (WkL.cons (Wk.refl _) (WkL.cons (Wk.refl _) (WkL.cons (Wk.refl _) (WkL.nil))))))))))))))))))))
set_option maxRecDepth 4000 in
set_option maxHeartbeats 1000000 in
theorem urleft_v (L : List Int) (e : Int) : DFun Tryz.prog 81 [.dpm [.slf 1 (L).length ((L).flatMap uc8), .val (.int .i64 e)]] [] (.val (.int .i64 (L.length : Int))) [] := by
  refine zaj (N := 11) 0 (by kernel_rfl) Tryz.func81 rfl rfl rfl (by simp only [fr0, Nat.zero_add, Nat.reduceAdd]; exact rfl) rfl fun s0 hs0 => ?_
  refine zaf ?_
  refine zac ?_
  refine za rfl rfl rfl (zad (.inr rfl) (ev1 rfl)) ?_
  refine zae ?_
  refine zaf ?_
  refine zaf ?_
  refine zac ?_
  refine za rfl rfl rfl (zad (.inl rfl) (ev1 rfl)) ?_
  refine za rfl rfl rfl (op_pnilm rfl pt131 (ev1 rfl)) ?_
  refine zae ?_
  refine dwp_if_f rfl (rfl) ?_
  refine zam ?_
  refine zaf ?_
  refine zac ?_
  refine za rfl rfl rfl (zad (.inl rfl) (ev1 rfl)) ?_
  refine za rfl rfl rfl (op_nc rfl (ev1 rfl) (fun s v h => by cases h; exact ⟨_, rfl⟩)) ?_
  refine za rfl rfl rfl (op_fadm rfl fo157_0 (ev1 rfl)) ?_
  refine za rfl rfl rfl (op_fadm rfl fo155_0 (ev1 rfl)) ?_
  refine za rfl rfl rfl (op_lddm rfl tb30 (ev1 rfl) rfl) ?_
  refine za rfl rfl rfl (op_len rfl sl30 (ev1 rfl)) ?_
  refine za rfl rfl rfl (zad (.inr rfl) (ev1 rfl)) ?_
  refine zae ?_
  refine zan ?_
  refine kend0 (rs1 rfl (rv_t rfl)) rfl ?_
  rfl
set_option maxRecDepth 4000 in
set_option maxHeartbeats 1000000 in
theorem ktidd_idle (e : Int) : DDef Tryz.prog 87 [.loc 0 0] [.flat 31 [.int .i64 e]] none none [.flat 31 [.int .i64 0]] := by
  refine ddef_go1 (dr := .tup []) (t := 1) (N := 3) 1 (by kernel_rfl) Tryz.func87 rfl rfl rfl (by simp only [fr0, Nat.zero_add, Nat.reduceAdd]; exact rfl) rfl rfl rfl rfl rfl fun s0 hs0 => ?_
  refine za rfl rfl rfl (zag [] [] [] rfl (ev1 rfl) (ec (ev1 rfl) en) rfl rfl (ctold_no) rfl rfl rfl rfl rfl rfl) ?_
  refine walk_s rfl rfl (op_stwi rfl tb31 (ev1 rfl) (ev1 rfl) rfl) (by simp only [upd, zaa, zab]; exact rfl) ?_
  refine zae ?_
  refine kend [0] (res_none rfl) rfl rfl ?_ ⟨rfl, trivial⟩
  rfl
set_option maxRecDepth 4000 in
set_option maxHeartbeats 1000000 in
theorem ktid_ok (L : List Int) (hL : okL L) (h15 : L.length ≤ 32768) (v : I3) (r : List Int) (h : tId L = .ok v r) (hr : r.length ≤ L.length) : DFun Tryz.prog 56 [.slf 1 (L).length ((L).flatMap uc8), .fn (.func 57) [] []] [] (.tup [.val (.agg (idc v).toArray), .val (.int .i64 ((L.length : Int) - (r.length : Int))), .val (.int .i64 0)]) [] := by
  refine dcalls_body (N := 41) 0 (by kernel_rfl) Tryz.func56 rfl rfl rfl (by simp only [fr0, Nat.zero_add, Nat.reduceAdd]; exact rfl) rfl fun s0 hs0 => ?_
  refine dbody_seq rfl hs0 ?_
  refine zai 2 (by simp only [holes, List.cons_append, List.nil_append]; exact rfl) ?_
  refine zac ?_
  refine zak rfl rfl rfl (op_alloc 0 rfl zr29 rfl) (by simp only [upd, zaa, zab]; exact rfl) ?_
  refine za rfl rfl rfl (zad (.inr rfl) (ev1 rfl)) ?_
  refine zak rfl rfl rfl (op_alloc 1 rfl zr31 rfl) (by simp only [upd, zaa, zab]; exact rfl) ?_
  refine zae ?_
  refine dbody_defer (l0 := [_]) rfl rfl rfl rfl rfl hs0 ?_
  refine za rfl rfl rfl (op_mkf rfl en (ec (ev1 rfl) en)) ?_
  refine zae ⟨_, _, _, 2, ev1 rfl, Nat.le_trans hs0 (by decide), rfl, ?_⟩
  have hs1 : s0.M.length ≤ 2 := Nat.le_trans hs0 (by decide)
  refine dbody_end rfl hs0 ?_
  refine zaf ?_
  refine zac ?_
  refine za rfl rfl rfl (zad (.inl rfl) (ev1 rfl)) ?_
  refine za rfl rfl rfl (op_len rfl sl30 (ev1 rfl)) ?_
  refine za rfl rfl rfl ((op_min rfl (ev1 rfl) (ev1 rfl)).cast (d' := .val (.int .i64 (L.length : Int))) (by congr 2; omega)) ?_
  refine za rfl rfl rfl (zad (.inr rfl) (ev1 rfl)) ?_
  refine zae ?_
  refine zaf ?_
  refine zai 1 (by simp only [holes, List.cons_append, List.nil_append]; exact rfl) ?_
  refine zac ?_
  refine za rfl rfl rfl (zad (.inl rfl) (ev1 rfl)) ?_
  refine za rfl rfl rfl (zad (.inl rfl) (ev1 rfl)) ?_
  refine za rfl rfl rfl (zad (.inl rfl) (ev1 rfl)) ?_
  refine za rfl rfl rfl ((op_sl3f (j := L.length) rfl sl30 (ev1 rfl) (ev1 rfl) (ev1 rfl) (fun hp => by first | omega | (simp at hp; omega)) (fun hp => by first | omega | (simp at hp; omega)) (fun hp => by first | omega | (simp at hp; omega)) (fun _ => rfl)).cast (d' := .slf 1 (L).length ((L).flatMap uc8)) (by rw [List.take_length])) ?_
  refine zak rfl rfl rfl (zag [] [] [2] rfl (ev1 rfl) (ec (ev1 rfl) en) rfl rfl (uopen_d L (by have := hL.2; omega)) rfl rfl rfl rfl rfl rfl) (by simp only [upd, zaa, zab]; exact rfl) ?_
  refine za rfl rfl rfl (zad (.inl rfl) (ev1 rfl)) ?_
  refine za rfl rfl rfl (op_ext rfl (ev1 rfl) rfl) ?_
  refine za rfl rfl rfl (op_ext rfl (ev1 rfl) rfl) ?_
  refine za rfl rfl rfl (zad (.inr rfl) (ev1 rfl)) ?_
  refine walk_s rfl rfl (op_stwi rfl tb31 (ev1 rfl) (ev1 rfl) rfl) (by simp only [upd, zaa, zab]; exact rfl) ?_
  refine zae ?_
  refine zaf ?_
  refine zac ?_
  refine za rfl rfl rfl (op_ldo rfl tb31 (ev1 rfl) rfl rfl) ?_
  refine za rfl rfl rfl (op_eql rfl (ev1 rfl) (ev1 rfl)) ?_
  refine za rfl rfl rfl (op_ldo rfl tb31 (ev1 rfl) rfl rfl) ?_
  refine za rfl rfl rfl (zag [] [] [] rfl (ev1 rfl) (ec (ev1 rfl) (ec (ev1 rfl) en)) rfl rfl (cneed_ok _ _ (rfl)) rfl rfl rfl rfl rfl rfl) ?_
  refine zae ?_
  refine zaf ?_
  refine zai 1 (by simp only [holes, List.cons_append, List.nil_append]; exact rfl) ?_
  refine zac ?_
  refine za rfl rfl rfl (zad (.inl rfl) (ev1 rfl)) ?_
  refine za rfl rfl rfl ((op_bldD (ps := [(0, .tmp 27)]) rfl fl135 zr135 (ec (ev1 rfl) en) rfl rfl rfl).cast (d' := .agg [.loc 2 0, .val (.int .u64 0), .val (.int .i64 0), .val (.int .u64 0), .val (.int .i64 0), .val (.int .i64 0), .val (.int .i64 0), .val (.int .i64 0), .val (.int .i64 0), .val (.int .i64 0), .val (.int .u8 0), .val (.int .u8 0), .val (.int .u8 0), .val (.int .u8 0), .val (.int .i64 0), .val (.int .i64 0), .val (.slice none 0 0), .val (.int .u64 0), .val (.int .i64 0), .val (.int .u64 0)]) (by kernel_rfl)) ?_
  refine zak rfl rfl rfl (op_boxam 3 rfl (ev1 rfl) rfl) (by simp only [upd, zaa, zab]; exact rfl) ?_
  refine za rfl rfl rfl (zad (.inr rfl) (ev1 rfl)) ?_
  refine zae ?_
  refine zaf ?_
  refine dwp_reb 3 (reb_wk wkZL) rfl rfl (by simp only [List.cons_append, List.nil_append, zaa, zab, List.map]; exact rfl) ?_
  refine zai 1 (by simp only [holes, List.cons_append, List.nil_append]; exact rfl) ?_
  refine zac ?_
  refine za rfl rfl rfl (zad (.inl rfl) (ev1 rfl)) ?_
  refine za rfl rfl rfl (zad (.inl rfl) (ev1 rfl)) ?_
  refine zak rfl rfl rfl (zag [3, 2] [] [] rfl (ev1 rfl) (ec (ev1 rfl) en) rfl rfl (tid1_ok zO L hL v r h) rfl rfl rfl rfl rfl rfl) (by simp only [upd, zaa, zab]; exact rfl) ?_
  refine zak rfl rfl rfl (op_alloc 4 rfl zr29 rfl) (by simp only [upd, zaa, zab]; exact rfl) ?_
  refine walk_s rfl rfl (op_stwa rfl tb29 (ev1 rfl) (ev1 rfl) rfl rfl rfl rfl) (by simp only [upd, zaa, zab]; exact rfl) ?_
  refine zae ?_
  refine zaf ?_
  refine dwp_draw [([4], []), ([], []), ([], []), ([], []), ([], []), ([3], []), ([2], []), ([], []), ([0], [0]), ([], []), ([1], [1])] mixed (by kernel_rfl) ?_
  refine lex_r rfl rfl (op_ldw rfl tb29 (ev1 rfl) rfl rfl) ?_
  refine lex_r rfl rfl (zad (.inl rfl) (ev1 rfl)) ?_
  refine lex_r rfl rfl (zad (.inl rfl) (ev1 rfl)) ?_
  refine lex_r rfl rfl (op_nc rfl (ev1 rfl) (fun s v h => by cases h; exact ⟨_, rfl⟩)) ?_
  refine lex_r rfl rfl (zal rfl fo135_0 (ev1 rfl)) ?_
  refine lex_r rfl rfl (op_ldm rfl tb131 (ev1 rfl) rfl rfl) ?_
  refine lex_r rfl rfl (zag [] [2] [] rfl (ev1 rfl) (ec (ev1 rfl) en) rfl rfl (urleft_v r 0) rfl rfl rfl rfl rfl rfl) ?_
  refine lex_r rfl rfl (op_sub' rfl (ev1 rfl) (ev1 rfl) (fun _ => IntWalk.i64_in _ (by omega))) ?_
  refine lex_s rfl rfl (op_stwa rfl tb29 (ev1 rfl) (ev1 rfl) rfl rfl rfl rfl) rfl (by simp only [upd, zaa, zab]; exact rfl) ?_
  refine lex_r rfl rfl (zad (.inr rfl) (ev1 rfl)) ?_
  refine lex_s rfl rfl (op_stwi rfl tb31 (ev1 rfl) (ev1 rfl) rfl) rfl (by simp only [upd, zaa, zab]; exact rfl) ?_
  refine lex_nil ?_
  refine zan ?_
  refine kdef (dturn_idle [1] [] rfl rfl (ktidd_idle _) rfl rfl rfl rfl rfl) ?_
  refine kend0 (rs3 rfl (rv_w tb29 rfl rfl rfl) (rv_t rfl) (rv_1 tb31 rfl rfl rfl)) rfl ?_
  rfl
set_option maxRecDepth 4000 in
set_option maxHeartbeats 1000000 in
theorem takeId_ok (L : List Int) (hL : okL L) (h15 : L.length ≤ 32768) (v : I3) (r : List Int) (h : tId L = .ok v r) (hr : r.length ≤ L.length) : DFun Tryz.prog 27 [.slf 1 (L).length ((L).flatMap uc8)] [] (.tup [.val (.agg (idc v).toArray), .val (.int .i64 ((L.length : Int) - (r.length : Int))), .val (.int .i64 0)]) [] := by
  refine zaj (N := 10) 0 (by kernel_rfl) Tryz.func27 rfl rfl rfl (by simp only [fr0, Nat.zero_add, Nat.reduceAdd]; exact rfl) rfl fun s0 hs0 => ?_
  refine dwp_len (t := 0) rfl fun hl0 hL0 => ?_
  refine zaf ?_
  refine zai 1 (by simp only [holes, List.cons_append, List.nil_append]; exact rfl) ?_
  refine zac ?_
  refine zak rfl rfl rfl (op_alloc 0 rfl zr29 rfl) (by simp only [upd, zaa, zab]; exact rfl) ?_
  refine za rfl rfl rfl (zad (.inr rfl) (ev1 rfl)) ?_
  refine za rfl rfl rfl (zad (.inr rfl) (ev1 rfl)) ?_
  refine zae ?_
  refine zaf ?_
  refine zac ?_
  refine za rfl rfl rfl (zad (.inl rfl) (ev1 rfl)) ?_
  refine za rfl rfl rfl (zag [] [] [] rfl (ev1 rfl) (ec (ev1 rfl) (ec (ev1 rfl) en)) rfl rfl (ktid_ok L hL h15 v r h hr) rfl rfl rfl rfl rfl rfl) ?_
  refine za rfl rfl rfl (op_ext rfl (ev1 rfl) rfl) ?_
  refine za rfl rfl rfl (op_ext rfl (ev1 rfl) rfl) ?_
  refine za rfl rfl rfl (op_ext rfl (ev1 rfl) rfl) ?_
  refine walk_s rfl rfl (op_stwa rfl tb29 (ev1 rfl) (ev1 rfl) rfl rfl rfl rfl) (by simp only [upd, zaa, zab]; exact rfl) ?_
  refine za rfl rfl rfl (zad (.inr rfl) (ev1 rfl)) ?_
  refine za rfl rfl rfl (zad (.inr rfl) (ev1 rfl)) ?_
  refine zae ?_
  refine zan ?_
  refine kend0 (rs3 rfl (rv_w tb29 rfl rfl rfl) (rv_t rfl) (rv_t rfl)) rfl ?_
  rfl
set_option maxRecDepth 4000 in
set_option maxHeartbeats 1000000 in
theorem ktopd_caught (e n : Int) : DDef Tryz.prog 86 [.loc 0 0] [.flat 31 [.int .i64 e]] (some (.ifc 139 (.val (.agg #[.int .i64 n])))) none [.flat 31 [.int .i64 n]] := by
  refine ddef_go1 (dr := .tup []) (t := 1) (N := 3) 1 (by kernel_rfl) Tryz.func86 rfl rfl rfl (by simp only [fr0, Nat.zero_add, Nat.reduceAdd]; exact rfl) rfl rfl rfl rfl rfl fun s0 hs0 => ?_
  refine za rfl rfl rfl (zag [] [] [] rfl (ev1 rfl) (ec (ev1 rfl) en) rfl rfl (ctold_w n) rfl rfl rfl rfl rfl rfl) ?_
  refine walk_s rfl rfl (op_stwi rfl tb31 (ev1 rfl) (ev1 rfl) rfl) (by simp only [upd, zaa, zab]; exact rfl) ?_
  refine zae ?_
  refine kend [0] (res_none rfl) rfl rfl ?_ ⟨rfl, trivial⟩
  rfl
set_option maxRecDepth 4000 in
set_option maxHeartbeats 1000000 in
theorem ktop_nop (L : List Int) (hL : okL L) (h15 : L.length ≤ 32768) (e : Int) (hp : DPan Tryz.prog 55 [.loc 0 0] [.mix 135 (.loc 1 0 :: opD zO), .mix 157 [.slf 1 (L).length ((L).flatMap uc8), .val (.int .i64 0)]] (.ifc 139 (.val (.agg #[.int .i64 e]))) [.gone, .gone]) : DFun Tryz.prog 54 [.slf 1 (L).length ((L).flatMap uc8), .fn (.func 55) [] []] [] (.tup [.val (.agg #[.int .u64 0, .int .i64 0, .int .u64 0, .int .i64 0, .int .i64 0, .int .i64 0, .int .i64 0, .int .i64 0, .int .i64 0, .int .u8 0, .int .u8 0, .int .u8 0, .int .u8 0, .int .i64 0, .int .i64 0, .slice none 0 0, .int .u64 0, .int .i64 0, .int .u64 0]), .val (.int .i64 0), .val (.int .i64 e)]) [] := by
  refine dcalls_body (N := 41) 0 (by kernel_rfl) Tryz.func54 rfl rfl rfl (by simp only [fr0, Nat.zero_add, Nat.reduceAdd]; exact rfl) rfl fun s0 hs0 => ?_
  refine dbody_seq rfl hs0 ?_
  refine zai 2 (by simp only [holes, List.cons_append, List.nil_append]; exact rfl) ?_
  refine zac ?_
  refine zak rfl rfl rfl (op_alloc 0 rfl zr47 rfl) (by simp only [upd, zaa, zab]; exact rfl) ?_
  refine za rfl rfl rfl (zad (.inr rfl) (ev1 rfl)) ?_
  refine zak rfl rfl rfl (op_alloc 1 rfl zr31 rfl) (by simp only [upd, zaa, zab]; exact rfl) ?_
  refine zae ?_
  refine dbody_defer (l0 := [_]) rfl rfl rfl rfl rfl hs0 ?_
  refine za rfl rfl rfl (op_mkf rfl en (ec (ev1 rfl) en)) ?_
  refine zae ⟨_, _, _, 2, ev1 rfl, Nat.le_trans hs0 (by decide), rfl, ?_⟩
  have hs1 : s0.M.length ≤ 2 := Nat.le_trans hs0 (by decide)
  refine dbody_end rfl hs0 ?_
  refine zaf ?_
  refine zac ?_
  refine za rfl rfl rfl (zad (.inl rfl) (ev1 rfl)) ?_
  refine za rfl rfl rfl (op_len rfl sl30 (ev1 rfl)) ?_
  refine za rfl rfl rfl ((op_min rfl (ev1 rfl) (ev1 rfl)).cast (d' := .val (.int .i64 (L.length : Int))) (by congr 2; omega)) ?_
  refine za rfl rfl rfl (zad (.inr rfl) (ev1 rfl)) ?_
  refine zae ?_
  refine zaf ?_
  refine zai 1 (by simp only [holes, List.cons_append, List.nil_append]; exact rfl) ?_
  refine zac ?_
  refine za rfl rfl rfl (zad (.inl rfl) (ev1 rfl)) ?_
  refine za rfl rfl rfl (zad (.inl rfl) (ev1 rfl)) ?_
  refine za rfl rfl rfl (zad (.inl rfl) (ev1 rfl)) ?_
  refine za rfl rfl rfl ((op_sl3f (j := L.length) rfl sl30 (ev1 rfl) (ev1 rfl) (ev1 rfl) (fun hp => by first | omega | (simp at hp; omega)) (fun hp => by first | omega | (simp at hp; omega)) (fun hp => by first | omega | (simp at hp; omega)) (fun _ => rfl)).cast (d' := .slf 1 (L).length ((L).flatMap uc8)) (by rw [List.take_length])) ?_
  refine zak rfl rfl rfl (zag [] [] [2] rfl (ev1 rfl) (ec (ev1 rfl) en) rfl rfl (uopen_d L (by have := hL.2; omega)) rfl rfl rfl rfl rfl rfl) (by simp only [upd, zaa, zab]; exact rfl) ?_
  refine za rfl rfl rfl (zad (.inl rfl) (ev1 rfl)) ?_
  refine za rfl rfl rfl (op_ext rfl (ev1 rfl) rfl) ?_
  refine za rfl rfl rfl (op_ext rfl (ev1 rfl) rfl) ?_
  refine za rfl rfl rfl (zad (.inr rfl) (ev1 rfl)) ?_
  refine walk_s rfl rfl (op_stwi rfl tb31 (ev1 rfl) (ev1 rfl) rfl) (by simp only [upd, zaa, zab]; exact rfl) ?_
  refine zae ?_
  refine zaf ?_
  refine zac ?_
  refine za rfl rfl rfl (op_ldo rfl tb31 (ev1 rfl) rfl rfl) ?_
  refine za rfl rfl rfl (op_eql rfl (ev1 rfl) (ev1 rfl)) ?_
  refine za rfl rfl rfl (op_ldo rfl tb31 (ev1 rfl) rfl rfl) ?_
  refine za rfl rfl rfl (zag [] [] [] rfl (ev1 rfl) (ec (ev1 rfl) (ec (ev1 rfl) en)) rfl rfl (cneed_ok _ _ (rfl)) rfl rfl rfl rfl rfl rfl) ?_
  refine zae ?_
  refine zaf ?_
  refine zai 1 (by simp only [holes, List.cons_append, List.nil_append]; exact rfl) ?_
  refine zac ?_
  refine za rfl rfl rfl (zad (.inl rfl) (ev1 rfl)) ?_
  refine za rfl rfl rfl ((op_bldD (ps := [(0, .tmp 27)]) rfl fl135 zr135 (ec (ev1 rfl) en) rfl rfl rfl).cast (d' := .agg [.loc 2 0, .val (.int .u64 0), .val (.int .i64 0), .val (.int .u64 0), .val (.int .i64 0), .val (.int .i64 0), .val (.int .i64 0), .val (.int .i64 0), .val (.int .i64 0), .val (.int .i64 0), .val (.int .u8 0), .val (.int .u8 0), .val (.int .u8 0), .val (.int .u8 0), .val (.int .i64 0), .val (.int .i64 0), .val (.slice none 0 0), .val (.int .u64 0), .val (.int .i64 0), .val (.int .u64 0)]) (by kernel_rfl)) ?_
  refine zak rfl rfl rfl (op_boxam 3 rfl (ev1 rfl) rfl) (by simp only [upd, zaa, zab]; exact rfl) ?_
  refine za rfl rfl rfl (zad (.inr rfl) (ev1 rfl)) ?_
  refine zae ?_
  refine zaf ?_
  refine dwp_reb 3 (reb_wk wkZL) rfl rfl (by simp only [List.cons_append, List.nil_append, zaa, zab, List.map]; exact rfl) ?_
  refine zai 1 (by simp only [holes, List.cons_append, List.nil_append]; exact rfl) ?_
  refine zac ?_
  refine za rfl rfl rfl (zad (.inl rfl) (ev1 rfl)) ?_
  refine za rfl rfl rfl (zad (.inl rfl) (ev1 rfl)) ?_
  refine walk_p rfl (dop_callP [3, 2] [] [] rfl (ev1 rfl) (ec (ev1 rfl) en) rfl rfl (hp) rfl rfl rfl rfl rfl rfl) rfl ?_
  refine kdef (dturn_caught [1] [] rfl rfl rfl (ktopd_caught _ _) rfl rfl rfl rfl rfl) ?_
  refine kend0 (rs3 rfl (rv_w tb47 rfl rfl rfl) (rv_t rfl) (rv_1 tb31 rfl rfl rfl)) rfl ?_
  rfl
set_option maxRecDepth 4000 in
set_option maxHeartbeats 1000000 in
theorem takeOp_nop (L : List Int) (hL : okL L) (h15 : L.length ≤ 32768) (e : Int) (hp : DPan Tryz.prog 55 [.loc 0 0] [.mix 135 (.loc 1 0 :: opD zO), .mix 157 [.slf 1 (L).length ((L).flatMap uc8), .val (.int .i64 0)]] (.ifc 139 (.val (.agg #[.int .i64 e]))) [.gone, .gone]) : DFun Tryz.prog 26 [.slf 1 (L).length ((L).flatMap uc8)] [] (.tup [.val (.agg #[.int .u64 0, .int .i64 0, .int .u64 0, .int .i64 0, .int .i64 0, .int .i64 0, .int .i64 0, .int .i64 0, .int .i64 0, .int .u8 0, .int .u8 0, .int .u8 0, .int .u8 0, .int .i64 0, .int .i64 0, .slice none 0 0, .int .u64 0, .int .i64 0, .int .u64 0]), .val (.int .i64 0), .val (.int .i64 e)]) [] := by
  refine zaj (N := 10) 0 (by kernel_rfl) Tryz.func26 rfl rfl rfl (by simp only [fr0, Nat.zero_add, Nat.reduceAdd]; exact rfl) rfl fun s0 hs0 => ?_
  refine dwp_len (t := 0) rfl fun hl0 hL0 => ?_
  refine zaf ?_
  refine zai 1 (by simp only [holes, List.cons_append, List.nil_append]; exact rfl) ?_
  refine zac ?_
  refine zak rfl rfl rfl (op_alloc 0 rfl zr47 rfl) (by simp only [upd, zaa, zab]; exact rfl) ?_
  refine za rfl rfl rfl (zad (.inr rfl) (ev1 rfl)) ?_
  refine za rfl rfl rfl (zad (.inr rfl) (ev1 rfl)) ?_
  refine zae ?_
  refine zaf ?_
  refine zac ?_
  refine za rfl rfl rfl (zad (.inl rfl) (ev1 rfl)) ?_
  refine za rfl rfl rfl (zag [] [] [] rfl (ev1 rfl) (ec (ev1 rfl) (ec (ev1 rfl) en)) rfl rfl (ktop_nop L hL h15 e hp) rfl rfl rfl rfl rfl rfl) ?_
  refine za rfl rfl rfl (op_ext rfl (ev1 rfl) rfl) ?_
  refine za rfl rfl rfl (op_ext rfl (ev1 rfl) rfl) ?_
  refine za rfl rfl rfl (op_ext rfl (ev1 rfl) rfl) ?_
  refine walk_s rfl rfl (op_stwa rfl tb47 (ev1 rfl) (ev1 rfl) rfl rfl rfl rfl) (by simp only [upd, zaa, zab]; exact rfl) ?_
  refine za rfl rfl rfl (zad (.inr rfl) (ev1 rfl)) ?_
  refine za rfl rfl rfl (zad (.inr rfl) (ev1 rfl)) ?_
  refine zae ?_
  refine zan ?_
  refine kend0 (rs3 rfl (rv_w tb47 rfl rfl rfl) (rv_t rfl) (rv_t rfl)) rfl ?_
  rfl
set_option maxRecDepth 4000 in
set_option maxHeartbeats 1000000 in
theorem ktosd_caught (e n : Int) : DDef Tryz.prog 78 [.loc 0 0] [.flat 31 [.int .i64 e]] (some (.ifc 139 (.val (.agg #[.int .i64 n])))) none [.flat 31 [.int .i64 n]] := by
  refine ddef_go1 (dr := .tup []) (t := 1) (N := 3) 1 (by kernel_rfl) Tryz.func78 rfl rfl rfl (by simp only [fr0, Nat.zero_add, Nat.reduceAdd]; exact rfl) rfl rfl rfl rfl rfl fun s0 hs0 => ?_
  refine za rfl rfl rfl (zag [] [] [] rfl (ev1 rfl) (ec (ev1 rfl) en) rfl rfl (ctold_w n) rfl rfl rfl rfl rfl rfl) ?_
  refine walk_s rfl rfl (op_stwi rfl tb31 (ev1 rfl) (ev1 rfl) rfl) (by simp only [upd, zaa, zab]; exact rfl) ?_
  refine zae ?_
  refine kend [0] (res_none rfl) rfl rfl ?_ ⟨rfl, trivial⟩
  rfl
set_option maxRecDepth 4000 in
set_option maxHeartbeats 1000000 in
theorem ktos_nop (L : List Int) (hL : okL L) (h15 : L.length ≤ 32768) (e : Int) (hp : DPan Tryz.prog 49 [.loc 0 0] [.mix 135 (.loc 1 0 :: opD zO), .mix 157 [.slf 1 (L).length ((L).flatMap uc8), .val (.int .i64 0)]] (.ifc 139 (.val (.agg #[.int .i64 e]))) [.gone, .gone]) : DFun Tryz.prog 48 [.slf 1 (L).length ((L).flatMap uc8), .fn (.func 49) [] []] [] (.tup [.val (.slice none 0 0), .val (.int .i64 0), .val (.int .i64 e)]) [] := by
  refine dcalls_body (N := 41) 0 (by kernel_rfl) Tryz.func48 rfl rfl rfl (by simp only [fr0, Nat.zero_add, Nat.reduceAdd]; exact rfl) rfl fun s0 hs0 => ?_
  refine dbody_seq rfl hs0 ?_
  refine zai 1 (by simp only [holes, List.cons_append, List.nil_append]; exact rfl) ?_
  refine zac ?_
  refine za rfl rfl rfl (zad (.inr rfl) (ev1 rfl)) ?_
  refine za rfl rfl rfl (zad (.inr rfl) (ev1 rfl)) ?_
  refine zak rfl rfl rfl (op_alloc 0 rfl zr31 rfl) (by simp only [upd, zaa, zab]; exact rfl) ?_
  refine zae ?_
  refine dbody_defer (l0 := [_]) rfl rfl rfl rfl rfl hs0 ?_
  refine za rfl rfl rfl (op_mkf rfl en (ec (ev1 rfl) en)) ?_
  refine zae ⟨_, _, _, 1, ev1 rfl, Nat.le_trans hs0 (by decide), rfl, ?_⟩
  have hs1 : s0.M.length ≤ 1 := Nat.le_trans hs0 (by decide)
  refine dbody_end rfl hs0 ?_
  refine zaf ?_
  refine zac ?_
  refine za rfl rfl rfl (zad (.inl rfl) (ev1 rfl)) ?_
  refine za rfl rfl rfl (op_len rfl sl30 (ev1 rfl)) ?_
  refine za rfl rfl rfl ((op_min rfl (ev1 rfl) (ev1 rfl)).cast (d' := .val (.int .i64 (L.length : Int))) (by congr 2; omega)) ?_
  refine za rfl rfl rfl (zad (.inr rfl) (ev1 rfl)) ?_
  refine zae ?_
  refine zaf ?_
  refine zai 1 (by simp only [holes, List.cons_append, List.nil_append]; exact rfl) ?_
  refine zac ?_
  refine za rfl rfl rfl (zad (.inl rfl) (ev1 rfl)) ?_
  refine za rfl rfl rfl (zad (.inl rfl) (ev1 rfl)) ?_
  refine za rfl rfl rfl (zad (.inl rfl) (ev1 rfl)) ?_
  refine za rfl rfl rfl ((op_sl3f (j := L.length) rfl sl30 (ev1 rfl) (ev1 rfl) (ev1 rfl) (fun hp => by first | omega | (simp at hp; omega)) (fun hp => by first | omega | (simp at hp; omega)) (fun hp => by first | omega | (simp at hp; omega)) (fun _ => rfl)).cast (d' := .slf 1 (L).length ((L).flatMap uc8)) (by rw [List.take_length])) ?_
  refine zak rfl rfl rfl (zag [] [] [1] rfl (ev1 rfl) (ec (ev1 rfl) en) rfl rfl (uopen_d L (by have := hL.2; omega)) rfl rfl rfl rfl rfl rfl) (by simp only [upd, zaa, zab]; exact rfl) ?_
  refine za rfl rfl rfl (zad (.inl rfl) (ev1 rfl)) ?_
  refine za rfl rfl rfl (op_ext rfl (ev1 rfl) rfl) ?_
  refine za rfl rfl rfl (op_ext rfl (ev1 rfl) rfl) ?_
  refine za rfl rfl rfl (zad (.inr rfl) (ev1 rfl)) ?_
  refine walk_s rfl rfl (op_stwi rfl tb31 (ev1 rfl) (ev1 rfl) rfl) (by simp only [upd, zaa, zab]; exact rfl) ?_
  refine zae ?_
  refine zaf ?_
  refine zac ?_
  refine za rfl rfl rfl (op_ldo rfl tb31 (ev1 rfl) rfl rfl) ?_
  refine za rfl rfl rfl (op_eql rfl (ev1 rfl) (ev1 rfl)) ?_
  refine za rfl rfl rfl (op_ldo rfl tb31 (ev1 rfl) rfl rfl) ?_
  refine za rfl rfl rfl (zag [] [] [] rfl (ev1 rfl) (ec (ev1 rfl) (ec (ev1 rfl) en)) rfl rfl (cneed_ok _ _ (rfl)) rfl rfl rfl rfl rfl rfl) ?_
  refine zae ?_
  refine zaf ?_
  refine zai 1 (by simp only [holes, List.cons_append, List.nil_append]; exact rfl) ?_
  refine zac ?_
  refine za rfl rfl rfl (zad (.inl rfl) (ev1 rfl)) ?_
  refine za rfl rfl rfl ((op_bldD (ps := [(0, .tmp 27)]) rfl fl135 zr135 (ec (ev1 rfl) en) rfl rfl rfl).cast (d' := .agg [.loc 1 0, .val (.int .u64 0), .val (.int .i64 0), .val (.int .u64 0), .val (.int .i64 0), .val (.int .i64 0), .val (.int .i64 0), .val (.int .i64 0), .val (.int .i64 0), .val (.int .i64 0), .val (.int .u8 0), .val (.int .u8 0), .val (.int .u8 0), .val (.int .u8 0), .val (.int .i64 0), .val (.int .i64 0), .val (.slice none 0 0), .val (.int .u64 0), .val (.int .i64 0), .val (.int .u64 0)]) (by kernel_rfl)) ?_
  refine zak rfl rfl rfl (op_boxam 2 rfl (ev1 rfl) rfl) (by simp only [upd, zaa, zab]; exact rfl) ?_
  refine za rfl rfl rfl (zad (.inr rfl) (ev1 rfl)) ?_
  refine zae ?_
  refine zaf ?_
  refine dwp_reb 2 (reb_wk wkZL) rfl rfl (by simp only [List.cons_append, List.nil_append, zaa, zab, List.map]; exact rfl) ?_
  refine zac ?_
  refine za rfl rfl rfl (zad (.inl rfl) (ev1 rfl)) ?_
  refine za rfl rfl rfl (zad (.inl rfl) (ev1 rfl)) ?_
  refine walk_p rfl (dop_callP [2, 1] [] [] rfl (ev1 rfl) (ec (ev1 rfl) en) rfl rfl (hp) rfl rfl rfl rfl rfl rfl) rfl ?_
  refine kdef (dturn_caught [0] [] rfl rfl rfl (ktosd_caught _ _) rfl rfl rfl rfl rfl) ?_
  refine kend0 (rs3 rfl (rv_t rfl) (rv_t rfl) (rv_1 tb31 rfl rfl rfl)) rfl ?_
  rfl
set_option maxRecDepth 4000 in
set_option maxHeartbeats 1000000 in
theorem takeOps_nop (L : List Int) (hL : okL L) (h15 : L.length ≤ 32768) (e : Int) (hp : DPan Tryz.prog 49 [.loc 0 0] [.mix 135 (.loc 1 0 :: opD zO), .mix 157 [.slf 1 (L).length ((L).flatMap uc8), .val (.int .i64 0)]] (.ifc 139 (.val (.agg #[.int .i64 e]))) [.gone, .gone]) : DFun Tryz.prog 23 [.slf 1 (L).length ((L).flatMap uc8)] [] (.tup [.val (.slice none 0 0), .val (.int .i64 0), .val (.int .i64 e)]) [] := by
  refine zaj (N := 10) 0 (by kernel_rfl) Tryz.func23 rfl rfl rfl (by simp only [fr0, Nat.zero_add, Nat.reduceAdd]; exact rfl) rfl fun s0 hs0 => ?_
  refine dwp_len (t := 0) rfl fun hl0 hL0 => ?_
  refine zaf ?_
  refine zac ?_
  refine za rfl rfl rfl (zad (.inr rfl) (ev1 rfl)) ?_
  refine za rfl rfl rfl (zad (.inr rfl) (ev1 rfl)) ?_
  refine za rfl rfl rfl (zad (.inr rfl) (ev1 rfl)) ?_
  refine zae ?_
  refine zaf ?_
  refine zac ?_
  refine za rfl rfl rfl (zad (.inl rfl) (ev1 rfl)) ?_
  refine za rfl rfl rfl (zag [] [] [] rfl (ev1 rfl) (ec (ev1 rfl) (ec (ev1 rfl) en)) rfl rfl (ktos_nop L hL h15 e hp) rfl rfl rfl rfl rfl rfl) ?_
  refine za rfl rfl rfl (op_ext rfl (ev1 rfl) rfl) ?_
  refine za rfl rfl rfl (op_ext rfl (ev1 rfl) rfl) ?_
  refine za rfl rfl rfl (op_ext rfl (ev1 rfl) rfl) ?_
  refine za rfl rfl rfl (zad (.inr rfl) (ev1 rfl)) ?_
  refine za rfl rfl rfl (zad (.inr rfl) (ev1 rfl)) ?_
  refine za rfl rfl rfl (zad (.inr rfl) (ev1 rfl)) ?_
  refine zae ?_
  refine zan ?_
  refine kend0 (rs3 rfl (rv_t rfl) (rv_t rfl) (rv_t rfl)) rfl ?_
  rfl
end Go.Proofs.YtmacjicebemgoaaGreat
namespace Go.Proofs.YtmacjicebemgoaaGreat
set_option linter.unusedVariables false
set_option linter.unusedSimpArgs false
open Go.RowKit
def sameO (a b : OpM) : Bool := eqI a.id b.id && (a.kd == b.kd) && (a.x == b.x) && (a.y == b.y) && (a.x2 == b.x2) && (a.y2 == b.y2) && (a.sz == b.sz) && decide (a.co = b.co) && eqI a.tg b.tg && (((a.sw == b.sw) && (a.sh == b.sh)) && decide (a.px = b.px))
theorem sameO_refl (a : OpM) : sameO a a = true := by
  have e : ∀ i : I3, eqI i i = true := fun i => eqI_iff.2 rfl
  unfold sameO
  simp [e]
set_option maxRecDepth 4000 in
set_option maxHeartbeats 1000000 in
theorem cloneC (l : List C4) (h : l.length ≤ 2000000) : DFun Tryz.prog 67 [.slf 4 l.length (l.flatMap c4)] [] (.arr 0) [.arr 42 4 l.length (l.flatMap c4)] := by
  refine zaj (N := 8) 0 (by kernel_rfl) Tryz.func67 rfl rfl rfl (by simp only [fr0, Nat.zero_add, Nat.reduceAdd]; exact rfl) rfl fun s0 hs0 => ?_
  refine dwp_len (t := 0) rfl fun hl0 hL0 => ?_
  refine zaf ?_
  refine zac ?_
  refine za rfl rfl rfl (zad (.inr rfl) (ev1 rfl)) ?_
  refine zae ?_
  refine zaf ?_
  refine zaf ?_
  refine zac ?_
  refine za rfl rfl rfl (zad (.inl rfl) (ev1 rfl)) ?_
  refine walk_nil? rfl rfl rfl rfl sl43 (ev1 rfl) fun nb4 hnb4 => ?_
  refine zae ?_
  refine dwp_cond rfl (fun c1 => ?_) (fun c1 => ?_)
  · try simp only [decide_eq_true_eq, decide_eq_false_iff_not, beq_iff_eq, bne_iff_ne, beq_eq_false_iff_ne, bne_eq_false_iff_eq, Bool.not_eq_true', Bool.not_eq_false', Bool.and_eq_true, Bool.or_eq_true, Bool.or_eq_false_iff, ne_eq, Decidable.not_not, Int.not_lt, Int.not_le] at c1
    refine zaf ?_
    refine zac ?_
    refine za rfl rfl rfl (zad (.inr rfl) (ev1 rfl)) ?_
    refine zae ?_
    refine dwp_adopt 2 42 4 rfl rfl rfl ?_
    refine zan ?_
    refine kend [0] (rs1 rfl (rv_t rfl)) rfl rfl ?_ ⟨?_, trivial⟩
    rfl
    exact (by obtain ⟨h1, h2⟩ := hnb4 c1; simp_all [MFits, vwB])
  · try simp only [decide_eq_true_eq, decide_eq_false_iff_not, beq_iff_eq, bne_iff_ne, beq_eq_false_iff_ne, bne_eq_false_iff_eq, Bool.not_eq_true', Bool.not_eq_false', Bool.and_eq_true, Bool.or_eq_true, Bool.or_eq_false_iff, ne_eq, Decidable.not_not, Int.not_lt, Int.not_le] at c1
    refine zam ?_
    refine zaf ?_
    refine zai 2 (by simp only [holes, List.cons_append, List.nil_append]; exact rfl) ?_
    refine zac ?_
    refine zak rfl rfl rfl (op_bsa (ps := []) 0 rfl sl43 zr42 rfl vn rfl (by decide) (by decide) rfl) (by simp only [upd, zaa, zab]; exact rfl) ?_
    refine za rfl rfl rfl (zad (.inl rfl) (ev1 rfl)) ?_
    refine zak rfl rfl rfl (op_app (j := 1) rfl sl43 zr42 rfl (ev1 rfl) (ev1 rfl) src_slf rfl rfl (fun _ => flat_oc (fun _ => rfl) l) (fun _ => ⟨by omega, by omega⟩)) (by simp only [upd, zaa, zab]; exact rfl) ?_
    refine za rfl rfl rfl (zad (.inr rfl) (ev1 rfl)) ?_
    refine zae ?_
    refine zan ?_
    refine kend [1] (rs1 rfl (rv_t rfl)) rfl rfl ?_ ⟨?_, trivial⟩
    rfl
    simp [vwB]
theorem cloneC_f (l : List C4) (h : l.length ≤ 2000000) : DFun Tryz.prog 67 [.slf 4 l.length (l.flatMap c4)] [] (.slf 4 l.length (l.flatMap c4)) [] := freeze (cloneC l h) rfl
set_option maxRecDepth 4000 in
set_option maxHeartbeats 1000000 in
theorem own_d (o : OpM) : DFun Tryz.prog 38 [.agg (opD o)] [] (.agg (opD (ownO o))) [] := by
  refine zaj (N := 16) 0 (by kernel_rfl) Tryz.func38 rfl rfl rfl (by simp only [fr0, Nat.zero_add, Nat.reduceAdd]; exact rfl) rfl fun s0 hs0 => ?_
  refine zaf ?_
  refine zai 2 (by simp only [holes, List.cons_append, List.nil_append]; exact rfl) ?_
  refine zac ?_
  refine zak rfl rfl rfl (op_boxam 0 rfl (ev1 rfl) rfl) (by simp only [upd, zaa, zab]; exact rfl) ?_
  refine zak rfl rfl rfl (op_alloc 1 rfl zr47 rfl) (by simp only [upd, zaa, zab]; exact rfl) ?_
  refine zae ?_
  refine zaf ?_
  refine zac ?_
  refine za rfl rfl rfl (zal rfl fo47_8 (ev1 rfl)) ?_
  refine za rfl rfl rfl (zal rfl fo45_2 (ev1 rfl)) ?_
  refine za rfl rfl rfl (op_ldm rfl tb43 (ev1 rfl) rfl rfl) ?_
  refine za rfl rfl rfl (zal rfl fo47_8 (ev1 rfl)) ?_
  refine za rfl rfl rfl (zal rfl fo45_2 (ev1 rfl)) ?_
  refine za rfl rfl rfl (op_ldm rfl tb43 (ev1 rfl) rfl rfl) ?_
  refine za rfl rfl rfl (op_len rfl sl43 (ev1 rfl)) ?_
  refine za rfl rfl rfl (op_min rfl (ev1 rfl) (ev1 rfl)) ?_
  refine za rfl rfl rfl (op_sltk (j := min o.px.length 66) rfl sl43 (ev1 rfl) (bd_some (ev1 rfl)) (fun _ => by omega) (fun _ => by omega) (fun _ => rfl)) ?_
  refine za rfl rfl rfl (zag [] [] [] rfl (ev1 rfl) (ec (ev1 rfl) en) rfl rfl (cloneC_f _ (by rw [List.length_take]; omega)) rfl rfl rfl rfl rfl rfl) ?_
  refine za rfl rfl rfl (zal rfl fo47_8 (ev1 rfl)) ?_
  refine za rfl rfl rfl (zal rfl fo45_2 (ev1 rfl)) ?_
  refine walk_s rfl rfl (op_stm rfl tb43 (ev1 rfl) (ev1 rfl) (fun s v h => by cases h <;> exact ⟨rfl, rfl⟩) rfl (by first | decide | exact Nat.le_of_ble_eq_true rfl | simp)) (by simp only [upd, zaa, zab]; exact rfl) ?_
  refine zae ?_
  refine zaf ?_
  refine zac ?_
  refine za rfl rfl rfl (op_ldmw rfl tb47 (ev1 rfl) rfl rfl) ?_
  refine walk_s rfl rfl (op_stam rfl tb47 (ev1 rfl) (ev1 rfl) rfl rfl rfl rfl) (by simp only [upd, zaa, zab]; exact rfl) ?_
  refine zae ?_
  refine zan ?_
  refine kend0 (rs1 rfl (rv_mw tb47 rfl rfl rfl)) rfl ?_
  rfl
set_option maxRecDepth 4000 in
set_option maxHeartbeats 1000000 in
theorem few_d (x : List OpM) : DFun Tryz.prog 14 [.slm 19 x.length (x.flatMap opD)] [] (.slm 19 (fewL x).length ((fewL x).flatMap opD)) [] := by
  refine zaj (N := 23) 0 (by kernel_rfl) Tryz.func14 rfl rfl rfl (by simp only [fr0, Nat.zero_add, Nat.reduceAdd]; exact rfl) rfl fun s0 hs0 => ?_
  refine dwp_lenm (t := 0) rfl fun hl0 hL0 => ?_
  refine zaf ?_
  refine zac ?_
  refine za rfl rfl rfl (zad (.inr rfl) (ev1 rfl)) ?_
  refine zae ?_
  refine zaf ?_
  refine zac ?_
  refine za rfl rfl rfl (zad (.inr rfl) (ev1 rfl)) ?_
  refine zae ?_
  refine zaf ?_
  refine zaf ?_
  refine dwp_lenm (t := 0) rfl fun hl0 hL0 => ?_
  refine zac ?_
  refine za rfl rfl rfl (zad (.inl rfl) (ev1 rfl)) ?_
  refine za rfl rfl rfl (zad (.inl rfl) (ev1 rfl)) ?_
  refine za rfl rfl rfl (op_lenm rfl sl26 (ev1 rfl)) ?_
  refine za rfl rfl rfl (op_min rfl (ev1 rfl) (ev1 rfl)) ?_
  refine za rfl rfl rfl (op_slmtk (j := min x.length 66) rfl sl26 (ev1 rfl) (bd_some (ev1 rfl)) (fun _ => by omega) (fun _ => by omega) (fun _ => rfl)) ?_
  refine za rfl rfl rfl (op_lenm rfl sl26 (ev1 rfl)) ?_
  refine za rfl rfl rfl (zad (.inl rfl) (ev1 rfl)) ?_
  refine zae ?_
  refine dwp_block ?_
  refine dwp_adoptx 3 47 19 rfl rfl rfl ?_
  refine dwp_loopS ⟨hs0, rfl⟩ (α := Nat) (fun k => [(12, .val (.int .i64 (k : Int)))]) [(3, _), (10, _), (11, _)] (fun k => [(0, .arx 47 19 (((x.take (min x.length 66)).take k).map ownO).length ((((x.take (min x.length 66)).take k).map ownO).flatMap opD))]) [.hole] (fun k => k ≤ (x.take (min x.length 66)).length) (fun k => (x.take (min x.length 66)).length - k) 0 [0] (Nat.zero_le _) rfl ⟨rfl, rfl, rfl, trivial⟩ ⟨rfl, trivial⟩ ⟨rfl, trivial⟩ ?_
  intro k hx
  simp only [upd, zaa, zab, List.cons_append, List.nil_append]
  have hk := hx
  have h66 : (x.take (min x.length 66)).length ≤ 66 := by rw [List.length_take]; omega
  refine zaf ?_
  refine zac ?_
  refine za rfl rfl rfl (op_lss rfl (ev1 rfl) (ev1 rfl)) ?_
  refine zae ?_
  refine zaf ?_
  refine dwp_cond rfl (fun c1 => ?_) (fun c1 => ?_)
  · try simp only [decide_eq_true_eq, decide_eq_false_iff_not, beq_iff_eq, bne_iff_ne, beq_eq_false_iff_ne, bne_eq_false_iff_eq, Bool.not_eq_true', Bool.not_eq_false', Bool.and_eq_true, Bool.or_eq_true, Bool.or_eq_false_iff, ne_eq, Decidable.not_not, Int.not_lt, Int.not_le] at c1
    refine zam ?_
    refine zaf ?_
    refine dwp_block ?_
    refine zaf ?_
    refine zai 1 (by simp only [holes, List.cons_append, List.nil_append]; exact rfl) ?_
    refine zac ?_
    refine za rfl rfl rfl (op_ixmr (k) (by decide) rfl sl26 (ev1 rfl) (ev1 rfl) (fun _ => rfl) (by omega) (fun _ => rfl)) ?_
    refine za rfl rfl rfl (op_lddr rfl tb47 (ev1 rfl) rfl rfl) ?_
    refine zak rfl rfl rfl (op_alloc 1 rfl zr47 rfl) (by simp only [upd, zaa, zab]; exact rfl) ?_
    refine walk_s rfl rfl (op_stam rfl tb47 (ev1 rfl) (ev1 rfl) rfl rfl rfl rfl) (by simp only [upd, zaa, zab]; exact rfl) ?_
    refine zae ?_
    refine zai 1 (by simp only [holes, List.cons_append, List.nil_append]; exact rfl) ?_
    refine zac ?_
    refine za rfl rfl rfl (zad (.inl rfl) (ev1 rfl)) ?_
    refine za rfl rfl rfl (op_ldmw rfl tb47 (ev1 rfl) rfl rfl) ?_
    refine za rfl rfl rfl (zag [] [] [] rfl (ev1 rfl) (ec (ev1 rfl) en) rfl rfl (own_d (x.take (min x.length 66))[k]) rfl rfl rfl rfl rfl rfl) ?_
    refine za rfl rfl rfl (op_bsr (ps := [(0, .tmp 18)]) rfl sl26 zr47 rfl (ec (ev1 rfl) en) rfl rfl rfl (by rfl) rfl (by decide) (by decide)) ?_
    refine zak rfl rfl rfl (op_appr (j := 2) rfl sl26 zr47 rfl (ev1 rfl) (ev1 rfl) rfl rfl (rfl) (fun _ => ⟨by rw [List.length_map, List.length_take]; omega, by rw [List.length_map, List.length_take]; omega⟩)) (by simp only [upd, zaa, zab]; exact rfl) ?_
    refine za rfl rfl rfl (zad (.inr rfl) (ev1 rfl)) ?_
    refine zae ?_
    refine zac ?_
    refine za rfl rfl rfl (op_add' rfl (ev1 rfl) (ev1 rfl) (fun _ => IntWalk.i64_in _ (by omega))) ?_
    refine za rfl rfl rfl (zad (.inl rfl) (ev1 rfl)) ?_
    refine zae ?_
    refine ⟨k + 1, [2], by omega, by simp only []; omega, rfl, ⟨rfl, rfl, rfl, rfl, trivial⟩, ⟨arxr_fits (by rw [few_step (by omega), List.length_append]; rfl) (by rw [few_step (by omega), List.flatMap_append]; rfl) (ops_nl2 _), trivial⟩⟩
  · try simp only [decide_eq_true_eq, decide_eq_false_iff_not, beq_iff_eq, bne_iff_ne, beq_eq_false_iff_ne, bne_eq_false_iff_eq, Bool.not_eq_true', Bool.not_eq_false', Bool.and_eq_true, Bool.or_eq_true, Bool.or_eq_false_iff, ne_eq, Decidable.not_not, Int.not_lt, Int.not_le] at c1
    refine dwp_exit ?_
    refine zaf ?_
    refine dwp_give 3 (ops_nl2 _) rfl rfl (by simp only [zaa, zab]; exact rfl) ?_
    obtain rfl : k = (x.take (min x.length 66)).length := by omega
    refine zac ?_
    refine za rfl rfl rfl (zad (.inl rfl) (ev1 rfl)) ?_
    refine za rfl rfl rfl (zad (.inr rfl) (ev1 rfl)) ?_
    refine zae ?_
    refine zan ?_
    refine kend0 (rs1 rfl (rv_t rfl)) rfl ?_
    rw [List.take_length]
    rfl
end Go.Proofs.YtmacjicebemgoaaGreat
namespace Go.Proofs.YtmacjicebemgoaaGreat
set_option linter.unusedVariables false
set_option linter.unusedSimpArgs false
open Go.RowKit
def wI : I3 := ⟨1, 2, 3⟩
def wU : OpM := ⟨⟨2, 1, 2⟩, 7, 0, 0, 0, 0, 0, zC4, 0, 0, [], ⟨1, 1, 1⟩⟩
def wR : OpM := ⟨⟨2, 1, 2⟩, 3, 0, 0, 0, 0, 0, zC4, 0, 0, [], zI3⟩
theorem okC_0 : okC zC4 := by
  unfold okC zC4
  decide
theorem wU_ok : okO wU := ⟨by decide, okC_0, fun c h => by cases h⟩
theorem wR_ok : okO wR := ⟨by decide, okC_0, fun c h => by cases h⟩
theorem wU_len : (opL wU).length = 35 := by
  rw [opL_fields (by decide)]
  show (layW 1 7 ++ (idB ⟨2, 1, 2⟩ ++ [7].flatMap fun f => layF f wU)).length = 35
  simp only [List.length_append, layW_len, idB_len, List.flatMap_cons, List.flatMap_nil, List.append_nil]
  show 1 + (17 + (idB ⟨1, 1, 1⟩).length) = 35
  rw [idB_len]
theorem wR_len : (opL wR).length = 26 := by
  rw [opL_fields (by decide)]
  show (layW 1 3 ++ (idB ⟨2, 1, 2⟩ ++ [0, 1, 2, 3, 5].flatMap fun f => layF f wR)).length = 26
  simp only [List.length_append, layW_len, idB_len, List.flatMap_cons, List.flatMap_nil, List.append_nil]
  show 1 + (17 + ((layW 1 _).length + ((layW 1 _).length + ((layW 1 _).length + ((layW 1 _).length + (coB' zC4).length))))) = 26
  rw [layW_len, layW_len, layW_len, layW_len, coB_len]
theorem isB_one {n : Int} (h : 0 ≤ n ∧ n ≤ 255) : isB [n] := fun x hx => by
  rw [List.mem_singleton] at hx
  subst hx
  exact h
theorem okL_one {n : Int} (h : 0 ≤ n ∧ n ≤ 255) : okL [n] := ⟨isB_one h, by simp⟩
theorem w9_d : DPan Tryz.prog 55 [.loc 0 0] [.mix 135 (.loc 1 0 :: opD zO), .mix 157 [.slf 1 ([9]).length (([9]).flatMap uc8), .val (.int .i64 0)]] (.ifc 139 (.val (.agg #[.int .i64 290]))) [.gone, .gone] := ((top1_nop zO [9] (okL_one (by decide)) 290 ((top_n1 zO [9] (okL_one (by decide)) 9 [] rfl (by decide)).dead))).dead
theorem w7_d : DPan Tryz.prog 55 [.loc 0 0] [.mix 135 (.loc 1 0 :: opD zO), .mix 157 [.slf 1 ([7]).length (([7]).flatMap uc8), .val (.int .i64 0)]] (.ifc 139 (.val (.agg #[.int .i64 110]))) [.gone, .gone] := ((top1_nop zO [7] (okL_one (by decide)) 110 ((top_n2 zO [7] (okL_one (by decide)) 7 (by decide) [] rfl 110 rfl).dead))).dead
theorem w65_d : DPan Tryz.prog 49 [.loc 0 0] [.mix 135 (.loc 1 0 :: opD zO), .mix 157 [.slf 1 ([65]).length (([65]).flatMap uc8), .val (.int .i64 0)]] (.ifc 139 (.val (.agg #[.int .i64 290]))) [.gone, .gone] := (tos1_n1 zO [65] (okL_one (by decide)) 65 [] rfl (by decide)).dead
theorem tI_ok : tId (idB wI ++ [9]) = .ok wI [9] := (cdId 110 290).fwd wI [9] (by decide)
theorem okI : okL (idB wI ++ [9]) := ⟨isB_app.2 ⟨isB_idB _, isB_one (by decide)⟩, by rw [List.length_append, idB_len]; decide⟩
theorem rowL_nil : rowL [] = [0] := by
  rw [rowL_one (by decide)]
  rfl
theorem wk_wU : Wk (.val (.agg #[.int .u64 2, .int .i64 1, .int .u64 2, .int .i64 7, .int .i64 0, .int .i64 0, .int .i64 0, .int .i64 0, .int .i64 0, .int .u8 0, .int .u8 0, .int .u8 0, .int .u8 0, .int .i64 0, .int .i64 0, .slice none 0 0, .int .u64 1, .int .i64 1, .int .u64 1])) (.agg (opD wU)) :=
  (Wk.vagg _).trans (Wk.agg (WkL.cons (Wk.refl _) (WkL.cons (Wk.refl _) (WkL.cons (Wk.refl _) (WkL.cons (Wk.refl _) (WkL.cons (Wk.refl _) (WkL.cons (Wk.refl _) (WkL.cons (Wk.refl _) (WkL.cons (Wk.refl _) (WkL.cons (Wk.refl _) (WkL.cons (Wk.refl _) (WkL.cons (Wk.refl _) (WkL.cons (Wk.refl _) (WkL.cons (Wk.refl _) (WkL.cons (Wk.refl _) (WkL.cons (Wk.refl _) (WkL.cons (Wk.slf0 4) (WkL.cons (Wk.refl _) (WkL.cons (Wk.refl _) (WkL.cons (Wk.refl _) (WkL.nil)))))))))))))))))))))
theorem wk_wR : Wk (.val (.agg #[.int .u64 2, .int .i64 1, .int .u64 2, .int .i64 3, .int .i64 0, .int .i64 0, .int .i64 0, .int .i64 0, .int .i64 0, .int .u8 0, .int .u8 0, .int .u8 0, .int .u8 0, .int .i64 0, .int .i64 0, .slice none 0 0, .int .u64 0, .int .i64 0, .int .u64 0])) (.agg (opD wR)) :=
  (Wk.vagg _).trans (Wk.agg (WkL.cons (Wk.refl _) (WkL.cons (Wk.refl _) (WkL.cons (Wk.refl _) (WkL.cons (Wk.refl _) (WkL.cons (Wk.refl _) (WkL.cons (Wk.refl _) (WkL.cons (Wk.refl _) (WkL.cons (Wk.refl _) (WkL.cons (Wk.refl _) (WkL.cons (Wk.refl _) (WkL.cons (Wk.refl _) (WkL.cons (Wk.refl _) (WkL.cons (Wk.refl _) (WkL.cons (Wk.refl _) (WkL.cons (Wk.refl _) (WkL.cons (Wk.slf0 4) (WkL.cons (Wk.refl _) (WkL.cons (Wk.refl _) (WkL.cons (Wk.refl _) (WkL.nil)))))))))))))))))))))
set_option maxRecDepth 4000 in
set_option maxHeartbeats 1000000 in
theorem wakes_d : DFun Tryz.prog 6 [] [] (.val (.bool true)) [] := by
  refine zaj (N := 133) 0 (by kernel_rfl) Tryz.func6 rfl rfl rfl (by simp only [fr0, Nat.zero_add, Nat.reduceAdd]; exact rfl) rfl fun s0 hs0 => ?_
  refine zaf ?_
  refine zac ?_
  refine za rfl rfl rfl (zad (.inr rfl) (ev1 rfl)) ?_
  refine zae ?_
  refine zaf ?_
  refine zai 2 (by simp only [holes, List.cons_append, List.nil_append]; exact rfl) ?_
  refine zac ?_
  refine za rfl rfl rfl ((op_build (ps := [(0, .const (.int .u64 1)), (1, .const (.int .i64 2)), (2, .const (.int .u64 3))]) rfl fl29 zr29 (vc (ev1 rfl) (vc (ev1 rfl) (vc (ev1 rfl) vn))) rfl rfl).cast (d' := .val (.agg (idc wI).toArray)) (by kernel_rfl)) ?_
  refine za rfl rfl rfl (op_build (ps := [(0, .const (.int .u64 2)), (1, .const (.int .i64 1)), (2, .const (.int .u64 2))]) rfl fl29 zr29 (vc (ev1 rfl) (vc (ev1 rfl) (vc (ev1 rfl) vn))) rfl rfl) ?_
  refine zak rfl rfl rfl (op_alloc 0 rfl zr29 rfl) (by simp only [upd, zaa, zab]; exact rfl) ?_
  refine zak rfl rfl rfl (op_alloc 1 rfl zr29 rfl) (by simp only [upd, zaa, zab]; exact rfl) ?_
  refine walk_s rfl rfl (op_stwa rfl tb29 (ev1 rfl) (ev1 rfl) rfl rfl rfl rfl) (by simp only [upd, zaa, zab]; exact rfl) ?_
  refine walk_s rfl rfl (op_stwa rfl tb29 (ev1 rfl) (ev1 rfl) rfl rfl rfl rfl) (by simp only [upd, zaa, zab]; exact rfl) ?_
  refine zae ?_
  refine zaf ?_
  refine zac ?_
  refine za rfl rfl rfl (op_ldw rfl tb29 (ev1 rfl) rfl rfl) ?_
  refine za rfl rfl rfl (zag [] [] [] rfl (ev1 rfl) (ec (ev1 rfl) en) rfl rfl (cid_ok wI (by decide)) rfl rfl rfl rfl rfl rfl) ?_
  refine za rfl rfl rfl (zad (.inl rfl) (ev1 rfl)) ?_
  refine za rfl rfl rfl (op_ext rfl (ev1 rfl) rfl) ?_
  refine za rfl rfl rfl (op_ext rfl (ev1 rfl) rfl) ?_
  refine za rfl rfl rfl (zad (.inr rfl) (ev1 rfl)) ?_
  refine za rfl rfl rfl (zad (.inr rfl) (ev1 rfl)) ?_
  refine zae ?_
  refine zaf ?_
  refine zai 3 (by simp only [holes, List.cons_append, List.nil_append]; exact rfl) ?_
  refine zac ?_
  refine za rfl rfl rfl (zad (.inl rfl) (ev1 rfl)) ?_
  refine zak rfl rfl rfl (zag [] [] [2] rfl (ev1 rfl) (ec (ev1 rfl) en) rfl rfl (cloneB (idB wI) (by rw [idB_len]; decide)) rfl rfl rfl rfl rfl rfl) (by simp only [upd, zaa, zab]; exact rfl) ?_
  refine za rfl rfl rfl (op_bs (ps := [(0, .const (.int .u8 9))]) rfl sl30 zr5 rfl (vc (ev1 rfl) vn) rfl (by decide) (by decide)) ?_
  refine zak rfl rfl rfl ((op_app (j := 3) rfl sl30 zr5 rfl (ev1 rfl) (ev1 rfl) src_slf rfl rfl (fun _ => rfl) (fun _ => ⟨by rw [idB_len]; decide, by rw [idB_len]; decide⟩)).giveA2 rfl rfl) (by simp only [upd, zaa, zab]; exact rfl) ?_
  refine za rfl rfl rfl (zag [] [] [] rfl (ev1 rfl) (ec (ev1 rfl) en) rfl rfl (takeId_ok (idB wI ++ [9]) okI (by rw [List.length_append, idB_len]; decide) wI [9] tI_ok (by rw [List.length_append, idB_len]; decide)) rfl rfl rfl rfl rfl rfl) ?_
  refine za rfl rfl rfl (zad (.inl rfl) (ev1 rfl)) ?_
  refine za rfl rfl rfl (op_ext rfl (ev1 rfl) rfl) ?_
  refine za rfl rfl rfl ((op_ext rfl (ev1 rfl) rfl).cast (d' := .val (.int .i64 17)) (by rw [List.length_append, idB_len]; rfl)) ?_
  refine za rfl rfl rfl (op_ext rfl (ev1 rfl) rfl) ?_
  refine zak rfl rfl rfl (op_alloc 4 rfl zr29 rfl) (by simp only [upd, zaa, zab]; exact rfl) ?_
  refine walk_s rfl rfl (op_stwa rfl tb29 (ev1 rfl) (ev1 rfl) rfl rfl rfl rfl) (by simp only [upd, zaa, zab]; exact rfl) ?_
  refine za rfl rfl rfl (zad (.inr rfl) (ev1 rfl)) ?_
  refine za rfl rfl rfl (zad (.inr rfl) (ev1 rfl)) ?_
  refine zae ?_
  refine zaf ?_
  refine zac ?_
  refine za rfl rfl rfl (op_ldw rfl tb29 (ev1 rfl) rfl rfl) ?_
  refine za rfl rfl rfl (op_build (ps := [(0, .const (.int .u64 1)), (1, .const (.int .i64 1)), (2, .const (.int .u64 1))]) rfl fl29 zr29 (vc (ev1 rfl) (vc (ev1 rfl) (vc (ev1 rfl) vn))) rfl rfl) ?_
  refine za rfl rfl rfl (op_build (ps := [(0, .tmp 40), (1, .const (.int .i64 7)), (9, .tmp 41)]) rfl fl47 zr47 (vc (ev1 rfl) (vc (ev1 rfl) (vc (ev1 rfl) vn))) rfl rfl) ?_
  refine za rfl rfl rfl (zag [] [] [] rfl (ev1 rfl) (ec (evwk (ev1 rfl) wk_wU) en) rfl rfl (cop_ok wU wU_ok) rfl rfl rfl rfl rfl rfl) ?_
  refine za rfl rfl rfl (zad (.inl rfl) (ev1 rfl)) ?_
  refine za rfl rfl rfl (op_ext rfl (ev1 rfl) rfl) ?_
  refine za rfl rfl rfl (op_ext rfl (ev1 rfl) rfl) ?_
  refine za rfl rfl rfl (zad (.inr rfl) (ev1 rfl)) ?_
  refine za rfl rfl rfl (zad (.inr rfl) (ev1 rfl)) ?_
  refine zae ?_
  refine zaf ?_
  refine zac ?_
  refine za rfl rfl rfl (op_ldw rfl tb29 (ev1 rfl) rfl rfl) ?_
  refine za rfl rfl rfl (op_build (ps := [(0, .tmp 47), (1, .const (.int .i64 3))]) rfl fl47 zr47 (vc (ev1 rfl) (vc (ev1 rfl) vn)) rfl rfl) ?_
  refine za rfl rfl rfl (zag [] [] [] rfl (ev1 rfl) (ec (evwk (ev1 rfl) wk_wR) en) rfl rfl (cop_ok wR wR_ok) rfl rfl rfl rfl rfl rfl) ?_
  refine za rfl rfl rfl (zad (.inl rfl) (ev1 rfl)) ?_
  refine za rfl rfl rfl (op_ext rfl (ev1 rfl) rfl) ?_
  refine za rfl rfl rfl (op_ext rfl (ev1 rfl) rfl) ?_
  refine za rfl rfl rfl (zad (.inr rfl) (ev1 rfl)) ?_
  refine za rfl rfl rfl (zad (.inr rfl) (ev1 rfl)) ?_
  refine zae ?_
  refine zaf ?_
  refine zai 1 (by simp only [holes, List.cons_append, List.nil_append]; exact rfl) ?_
  refine zac ?_
  refine za rfl rfl rfl (op_bs (ps := [(0, .const (.int .u8 9))]) rfl sl30 zr5 rfl (vc (ev1 rfl) vn) rfl (by decide) (by decide)) ?_
  refine za rfl rfl rfl (zag [] [] [] rfl (ev1 rfl) (ec (ev1 rfl) en) rfl rfl (takeOp_nop [9] (okL_one (by decide)) (by decide) 290 w9_d) rfl rfl rfl rfl rfl rfl) ?_
  refine za rfl rfl rfl (zad (.inl rfl) (ev1 rfl)) ?_
  refine za rfl rfl rfl (op_ext rfl (ev1 rfl) rfl) ?_
  refine za rfl rfl rfl (op_ext rfl (ev1 rfl) rfl) ?_
  refine za rfl rfl rfl (op_ext rfl (ev1 rfl) rfl) ?_
  refine zak rfl rfl rfl (op_alloc 5 rfl zr47 rfl) (by simp only [upd, zaa, zab]; exact rfl) ?_
  refine walk_s rfl rfl (op_stwa rfl tb47 (ev1 rfl) (ev1 rfl) rfl rfl rfl rfl) (by simp only [upd, zaa, zab]; exact rfl) ?_
  refine za rfl rfl rfl (zad (.inr rfl) (ev1 rfl)) ?_
  refine za rfl rfl rfl (zad (.inr rfl) (ev1 rfl)) ?_
  refine zae ?_
  refine zaf ?_
  refine zai 1 (by simp only [holes, List.cons_append, List.nil_append]; exact rfl) ?_
  refine zac ?_
  refine za rfl rfl rfl (op_bs (ps := [(0, .const (.int .u8 7))]) rfl sl30 zr5 rfl (vc (ev1 rfl) vn) rfl (by decide) (by decide)) ?_
  refine za rfl rfl rfl (zag [] [] [] rfl (ev1 rfl) (ec (ev1 rfl) en) rfl rfl (takeOp_nop [7] (okL_one (by decide)) (by decide) 110 w7_d) rfl rfl rfl rfl rfl rfl) ?_
  refine za rfl rfl rfl (zad (.inl rfl) (ev1 rfl)) ?_
  refine za rfl rfl rfl (op_ext rfl (ev1 rfl) rfl) ?_
  refine za rfl rfl rfl (op_ext rfl (ev1 rfl) rfl) ?_
  refine za rfl rfl rfl (op_ext rfl (ev1 rfl) rfl) ?_
  refine zak rfl rfl rfl (op_alloc 6 rfl zr47 rfl) (by simp only [upd, zaa, zab]; exact rfl) ?_
  refine walk_s rfl rfl (op_stwa rfl tb47 (ev1 rfl) (ev1 rfl) rfl rfl rfl rfl) (by simp only [upd, zaa, zab]; exact rfl) ?_
  refine za rfl rfl rfl (zad (.inr rfl) (ev1 rfl)) ?_
  refine za rfl rfl rfl (zad (.inr rfl) (ev1 rfl)) ?_
  refine zae ?_
  refine zaf ?_
  refine zac ?_
  refine za rfl rfl rfl (op_bs (ps := [(0, .const (.int .u8 65))]) rfl sl30 zr5 rfl (vc (ev1 rfl) vn) rfl (by decide) (by decide)) ?_
  refine za rfl rfl rfl (zag [] [] [] rfl (ev1 rfl) (ec (ev1 rfl) en) rfl rfl (takeOps_nop [65] (okL_one (by decide)) (by decide) 290 w65_d) rfl rfl rfl rfl rfl rfl) ?_
  refine za rfl rfl rfl (zad (.inl rfl) (ev1 rfl)) ?_
  refine za rfl rfl rfl (op_ext rfl (ev1 rfl) rfl) ?_
  refine za rfl rfl rfl (op_ext rfl (ev1 rfl) rfl) ?_
  refine za rfl rfl rfl (op_ext rfl (ev1 rfl) rfl) ?_
  refine za rfl rfl rfl (zad (.inr rfl) (ev1 rfl)) ?_
  refine za rfl rfl rfl (zad (.inr rfl) (ev1 rfl)) ?_
  refine za rfl rfl rfl (zad (.inr rfl) (ev1 rfl)) ?_
  refine zae ?_
  refine zaf ?_
  refine zac ?_
  refine za rfl rfl rfl (zag [] [] [] rfl (ev1 rfl) (ec (evwk (ev1 rfl) (Wk.slm0 19)) en) rfl rfl (cops_ok [] (by decide) (fun o h => by cases h)) rfl rfl rfl rfl rfl rfl) ?_
  refine za rfl rfl rfl (zad (.inl rfl) (ev1 rfl)) ?_
  refine za rfl rfl rfl (op_ext rfl (ev1 rfl) rfl) ?_
  refine za rfl rfl rfl (op_ext rfl (ev1 rfl) rfl) ?_
  refine za rfl rfl rfl (zad (.inr rfl) (ev1 rfl)) ?_
  refine za rfl rfl rfl (zad (.inr rfl) (ev1 rfl)) ?_
  refine zae ?_
  refine zaf ?_
  refine zac ?_
  refine za rfl rfl rfl (zad (.inl rfl) (ev1 rfl)) ?_
  refine za rfl rfl rfl ((op_eql rfl (ev1 rfl) (ev1 rfl)).cast (d' := .val (.bool true)) (by kernel_rfl)) ?_
  refine za rfl rfl rfl (zad (.inl rfl) (ev1 rfl)) ?_
  refine walk_k (gd_t (b := true) rfl rfl rfl) rfl rfl rfl (zad (.inl rfl) (ev1 rfl)) (by simp only [upd, zaa, zab]; exact rfl) ?_
  refine walk_k (gd_t (b := true) rfl rfl rfl) rfl rfl rfl ((op_eql rfl (ev2 rfl) (ev1 rfl)).cast (d' := .val (.bool true)) (by kernel_rfl)) (by simp only [upd, zaa, zab]; exact rfl) ?_
  refine za rfl rfl rfl ((op_and rfl (ev1 rfl) (ev3 rfl (fun _ => rfl))).cast (d' := .val (.bool true)) (by rfl)) ?_
  refine za rfl rfl rfl (zad (.inl rfl) (ev1 rfl)) ?_
  refine walk_k (gd_t (b := true) rfl rfl rfl) rfl rfl rfl (zad (.inl rfl) (ev1 rfl)) (by simp only [upd, zaa, zab]; exact rfl) ?_
  refine walk_k (gd_t (b := true) rfl rfl rfl) rfl rfl rfl ((op_eql rfl (ev2 rfl) (ev1 rfl)).cast (d' := .val (.bool true)) (by kernel_rfl)) (by simp only [upd, zaa, zab]; exact rfl) ?_
  refine za rfl rfl rfl ((op_and rfl (ev1 rfl) (ev3 rfl (fun _ => rfl))).cast (d' := .val (.bool true)) (by rfl)) ?_
  refine za rfl rfl rfl (zad (.inl rfl) (ev1 rfl)) ?_
  refine walk_k (gd_t (b := true) rfl rfl rfl) rfl rfl rfl (zad (.inl rfl) (ev1 rfl)) (by simp only [upd, zaa, zab]; exact rfl) ?_
  refine walk_k (gd_t (b := true) rfl rfl rfl) rfl rfl rfl ((op_eql rfl (ev2 rfl) (ev1 rfl)).cast (d' := .val (.bool true)) (by kernel_rfl)) (by simp only [upd, zaa, zab]; exact rfl) ?_
  refine za rfl rfl rfl ((op_and rfl (ev1 rfl) (ev3 rfl (fun _ => rfl))).cast (d' := .val (.bool true)) (by rfl)) ?_
  refine za rfl rfl rfl (zad (.inl rfl) (ev1 rfl)) ?_
  refine walk_k (gd_t (b := true) rfl rfl rfl) rfl rfl rfl (zad (.inl rfl) (ev1 rfl)) (by simp only [upd, zaa, zab]; exact rfl) ?_
  refine walk_k (gd_t (b := true) rfl rfl rfl) rfl rfl rfl ((op_eql rfl (ev2 rfl) (ev1 rfl)).cast (d' := .val (.bool true)) (by kernel_rfl)) (by simp only [upd, zaa, zab]; exact rfl) ?_
  refine za rfl rfl rfl ((op_and rfl (ev1 rfl) (ev3 rfl (fun _ => rfl))).cast (d' := .val (.bool true)) (by rfl)) ?_
  refine za rfl rfl rfl (zad (.inl rfl) (ev1 rfl)) ?_
  refine walk_k (gd_t (b := true) rfl rfl rfl) rfl rfl rfl (zad (.inl rfl) (ev1 rfl)) (by simp only [upd, zaa, zab]; exact rfl) ?_
  refine walk_k (gd_t (b := true) rfl rfl rfl) rfl rfl rfl ((op_len rfl sl30 (ev2 rfl)).cast (d' := .val (.int .i64 17)) (by rw [idB_len]; rfl)) (by simp only [upd, zaa, zab]; exact rfl) ?_
  refine walk_k (gd_t (b := true) rfl rfl rfl) rfl rfl rfl ((op_eql rfl (ev2 rfl) (ev1 rfl)).cast (d' := .val (.bool true)) (by kernel_rfl)) (by simp only [upd, zaa, zab]; exact rfl) ?_
  refine za rfl rfl rfl ((op_and rfl (ev1 rfl) (ev3 rfl (fun _ => rfl))).cast (d' := .val (.bool true)) (by rfl)) ?_
  refine za rfl rfl rfl (zad (.inl rfl) (ev1 rfl)) ?_
  refine walk_k (gd_t (b := true) rfl rfl rfl) rfl rfl rfl (op_ldw rfl tb29 (ev1 rfl) rfl rfl) (by simp only [upd, zaa, zab]; exact rfl) ?_
  refine walk_k (gd_t (b := true) rfl rfl rfl) rfl rfl rfl (op_ldw rfl tb29 (ev1 rfl) rfl rfl) (by simp only [upd, zaa, zab]; exact rfl) ?_
  refine walk_k (gd_t (b := true) rfl rfl rfl) rfl rfl rfl ((op_eqr eq29 rfl gd29 tb29 (ev2 rfl) (ev2 rfl)).cast (d' := .val (.bool true)) (by kernel_rfl)) (by simp only [upd, zaa, zab]; exact rfl) ?_
  refine za rfl rfl rfl ((op_and rfl (ev1 rfl) (ev3 rfl (fun _ => rfl))).cast (d' := .val (.bool true)) (by rfl)) ?_
  refine za rfl rfl rfl (zad (.inl rfl) (ev1 rfl)) ?_
  refine walk_k (gd_t (b := true) rfl rfl rfl) rfl rfl rfl (zad (.inl rfl) (ev1 rfl)) (by simp only [upd, zaa, zab]; exact rfl) ?_
  refine walk_k (gd_t (b := true) rfl rfl rfl) rfl rfl rfl ((op_eql rfl (ev2 rfl) (ev1 rfl)).cast (d' := .val (.bool true)) (by kernel_rfl)) (by simp only [upd, zaa, zab]; exact rfl) ?_
  refine za rfl rfl rfl ((op_and rfl (ev1 rfl) (ev3 rfl (fun _ => rfl))).cast (d' := .val (.bool true)) (by rfl)) ?_
  refine za rfl rfl rfl (zad (.inl rfl) (ev1 rfl)) ?_
  refine walk_k (gd_t (b := true) rfl rfl rfl) rfl rfl rfl (zad (.inl rfl) (ev1 rfl)) (by simp only [upd, zaa, zab]; exact rfl) ?_
  refine walk_k (gd_t (b := true) rfl rfl rfl) rfl rfl rfl ((op_len rfl sl30 (ev2 rfl)).cast (d' := .val (.int .i64 35)) (by rw [wU_len]; rfl)) (by simp only [upd, zaa, zab]; exact rfl) ?_
  refine walk_k (gd_t (b := true) rfl rfl rfl) rfl rfl rfl ((op_eql rfl (ev2 rfl) (ev1 rfl)).cast (d' := .val (.bool true)) (by kernel_rfl)) (by simp only [upd, zaa, zab]; exact rfl) ?_
  refine za rfl rfl rfl ((op_and rfl (ev1 rfl) (ev3 rfl (fun _ => rfl))).cast (d' := .val (.bool true)) (by rfl)) ?_
  refine za rfl rfl rfl (zad (.inl rfl) (ev1 rfl)) ?_
  refine walk_k (gd_t (b := true) rfl rfl rfl) rfl rfl rfl (zad (.inl rfl) (ev1 rfl)) (by simp only [upd, zaa, zab]; exact rfl) ?_
  refine walk_k (gd_t (b := true) rfl rfl rfl) rfl rfl rfl ((op_len rfl sl30 (ev2 rfl)).cast (d' := .val (.int .i64 26)) (by rw [wR_len]; rfl)) (by simp only [upd, zaa, zab]; exact rfl) ?_
  refine walk_k (gd_t (b := true) rfl rfl rfl) rfl rfl rfl ((op_eql rfl (ev2 rfl) (ev1 rfl)).cast (d' := .val (.bool true)) (by kernel_rfl)) (by simp only [upd, zaa, zab]; exact rfl) ?_
  refine za rfl rfl rfl ((op_and rfl (ev1 rfl) (ev3 rfl (fun _ => rfl))).cast (d' := .val (.bool true)) (by rfl)) ?_
  refine za rfl rfl rfl (zad (.inl rfl) (ev1 rfl)) ?_
  refine walk_k (gd_t (b := true) rfl rfl rfl) rfl rfl rfl (zad (.inl rfl) (ev1 rfl)) (by simp only [upd, zaa, zab]; exact rfl) ?_
  refine walk_k (gd_t (b := true) rfl rfl rfl) rfl rfl rfl ((op_eql rfl (ev2 rfl) (ev1 rfl)).cast (d' := .val (.bool true)) (by kernel_rfl)) (by simp only [upd, zaa, zab]; exact rfl) ?_
  refine za rfl rfl rfl ((op_and rfl (ev1 rfl) (ev3 rfl (fun _ => rfl))).cast (d' := .val (.bool true)) (by rfl)) ?_
  refine za rfl rfl rfl (zad (.inl rfl) (ev1 rfl)) ?_
  refine walk_k (gd_t (b := true) rfl rfl rfl) rfl rfl rfl (zad (.inl rfl) (ev1 rfl)) (by simp only [upd, zaa, zab]; exact rfl) ?_
  refine walk_k (gd_t (b := true) rfl rfl rfl) rfl rfl rfl ((op_eql rfl (ev2 rfl) (ev1 rfl)).cast (d' := .val (.bool true)) (by kernel_rfl)) (by simp only [upd, zaa, zab]; exact rfl) ?_
  refine za rfl rfl rfl ((op_and rfl (ev1 rfl) (ev3 rfl (fun _ => rfl))).cast (d' := .val (.bool true)) (by rfl)) ?_
  refine za rfl rfl rfl (zad (.inl rfl) (ev1 rfl)) ?_
  refine walk_k (gd_t (b := true) rfl rfl rfl) rfl rfl rfl (zad (.inl rfl) (ev1 rfl)) (by simp only [upd, zaa, zab]; exact rfl) ?_
  refine walk_k (gd_t (b := true) rfl rfl rfl) rfl rfl rfl ((op_eql rfl (ev2 rfl) (ev1 rfl)).cast (d' := .val (.bool true)) (by kernel_rfl)) (by simp only [upd, zaa, zab]; exact rfl) ?_
  refine za rfl rfl rfl ((op_and rfl (ev1 rfl) (ev3 rfl (fun _ => rfl))).cast (d' := .val (.bool true)) (by rfl)) ?_
  refine za rfl rfl rfl (zad (.inl rfl) (ev1 rfl)) ?_
  refine walk_k (gd_t (b := true) rfl rfl rfl) rfl rfl rfl (zad (.inl rfl) (ev1 rfl)) (by simp only [upd, zaa, zab]; exact rfl) ?_
  refine walk_k (gd_t (b := true) rfl rfl rfl) rfl rfl rfl (op_bs (ps := [(0, .const (.int .u8 0))]) rfl sl30 zr5 rfl (vc (ev1 rfl) vn) rfl (by decide) (by decide)) (by simp only [upd, zaa, zab]; exact rfl) ?_
  refine walk_k (gd_t (b := true) rfl rfl rfl) rfl rfl rfl ((zag [] [] [] rfl (ev1 rfl) (ec (ev2 rfl) (ec (ev2 rfl) en)) rfl rfl (equalB (rowL []) [0]) rfl rfl rfl rfl rfl rfl).cast (d' := .val (.bool true)) (by rw [rowL_nil]; rfl)) (by simp only [upd, zaa, zab]; exact rfl) ?_
  refine za rfl rfl rfl ((op_and rfl (ev1 rfl) (ev3 rfl (fun _ => rfl))).cast (d' := .val (.bool true)) (by rfl)) ?_
  refine za rfl rfl rfl (zad (.inr rfl) (ev1 rfl)) ?_
  refine zae ?_
  refine zan ?_
  refine kend0 (rs1 rfl (rv_t rfl)) rfl ?_
  rfl
end Go.Proofs.YtmacjicebemgoaaGreat
namespace Go.Proofs.YtmacjicebemgoaaGreat
set_option linter.unusedVariables false
set_option linter.unusedSimpArgs false
open Go.RowKit
open Go.ChangeShapes Go.WideShapes Go.ChangeAt Go.Joins Go.Deep
theorem fits_prim_i64 {v : Value} (h : (Prim.int .i64).is v) : ∃ a : Int, (-9223372036854775808 ≤ a ∧ a ≤ 9223372036854775807) ∧ v = .int .i64 a := by
  obtain ⟨x, rfl, w⟩ := h
  exact ⟨x, by simpa [Lit.wf, IntKind.min, IntKind.max, IntKind.signed, IntKind.bits] using w, rfl⟩
theorem fits_prim_u64 {v : Value} (h : (Prim.int .u64).is v) : ∃ a : Int, (0 ≤ a ∧ a ≤ 18446744073709551615) ∧ v = .int .u64 a := by
  obtain ⟨x, rfl, w⟩ := h
  exact ⟨x, by simpa [Lit.wf, IntKind.min, IntKind.max, IntKind.signed, IntKind.bits] using w, rfl⟩
theorem fitsP_cons {p : Prim} {ps : List Prim} {cs : List Value} (h : fitsP (p :: ps) cs) : ∃ v r, cs = v :: r ∧ p.is v ∧ fitsP ps r := by
  cases cs with
  | nil => cases h
  | cons v r => exact ⟨v, r, rfl, h.1, h.2⟩
theorem fitsP_nil {cs : List Value} (h : fitsP [] cs) : cs = [] := by
  cases cs with
  | nil => rfl
  | cons v r => cases h
theorem fits_nat {v : Value} (h : (Prim.int .u64).is v) : ∃ n : Nat, v = .int .u64 n := by
  obtain ⟨a, w, rfl⟩ := fits_prim_u64 h
  exact ⟨a.toNat, by rw [Int.toNat_of_nonneg w.1]⟩
abbrev k9 : List Prim := [.int .u64, .int .u64, .int .u64, .int .u64, .int .u64, .int .u64, .int .u64, .int .u64, .int .u64]
theorem fits_c9 (cs : List Value) (h : fitsP k9 cs) : ∃ v : Vec, True ∧ cs = c9 v := by
  obtain ⟨x0, r, rfl, h0, h⟩ := fitsP_cons h
  obtain ⟨x1, r, rfl, h1, h⟩ := fitsP_cons h
  obtain ⟨x2, r, rfl, h2, h⟩ := fitsP_cons h
  obtain ⟨x3, r, rfl, h3, h⟩ := fitsP_cons h
  obtain ⟨x4, r, rfl, h4, h⟩ := fitsP_cons h
  obtain ⟨x5, r, rfl, h5, h⟩ := fitsP_cons h
  obtain ⟨x6, r, rfl, h6, h⟩ := fitsP_cons h
  obtain ⟨x7, r, rfl, h7, h⟩ := fitsP_cons h
  obtain ⟨x8, r, rfl, h8, h⟩ := fitsP_cons h
  obtain rfl := fitsP_nil h
  obtain ⟨n0, rfl⟩ := fits_nat h0
  obtain ⟨n1, rfl⟩ := fits_nat h1
  obtain ⟨n2, rfl⟩ := fits_nat h2
  obtain ⟨n3, rfl⟩ := fits_nat h3
  obtain ⟨n4, rfl⟩ := fits_nat h4
  obtain ⟨n5, rfl⟩ := fits_nat h5
  obtain ⟨n6, rfl⟩ := fits_nat h6
  obtain ⟨n7, rfl⟩ := fits_nat h7
  obtain ⟨n8, rfl⟩ := fits_nat h8
  exact ⟨fun i => [n0, n1, n2, n3, n4, n5, n6, n7, n8].getD i 0, trivial, rfl⟩
theorem fits_b {v : Value} (h : (Prim.int .u8).is v) : ∃ a : Int, (0 ≤ a ∧ a ≤ 255) ∧ v = .int .u8 a := by
  obtain ⟨x, rfl, w⟩ := h
  exact ⟨x, by simpa [Lit.wf, IntKind.min, IntKind.max, IntKind.signed, IntKind.bits] using w, rfl⟩
theorem fits_id (cs : List Value) (h : fitsP [.int .u64, .int .i64, .int .u64] cs) : ∃ a : I3, True ∧ cs = idc a := by
  obtain ⟨x0, r, rfl, h0, h⟩ := fitsP_cons h
  obtain ⟨x1, r, rfl, h1, h⟩ := fitsP_cons h
  obtain ⟨x2, r, rfl, h2, h⟩ := fitsP_cons h
  obtain rfl := fitsP_nil h
  obtain ⟨a0, _, rfl⟩ := fits_prim_u64 h0
  obtain ⟨a1, _, rfl⟩ := fits_prim_i64 h1
  obtain ⟨a2, _, rfl⟩ := fits_prim_u64 h2
  exact ⟨⟨a0, a1, a2⟩, trivial, rfl⟩
theorem fits_c4 (cs : List Value) (h : fitsP [.int .u8, .int .u8, .int .u8, .int .u8] cs) : ∃ a : C4, okC a ∧ cs = c4 a := by
  obtain ⟨x0, r, rfl, h0, h⟩ := fitsP_cons h
  obtain ⟨x1, r, rfl, h1, h⟩ := fitsP_cons h
  obtain ⟨x2, r, rfl, h2, h⟩ := fitsP_cons h
  obtain ⟨x3, r, rfl, h3, h⟩ := fitsP_cons h
  obtain rfl := fitsP_nil h
  obtain ⟨a0, w0, rfl⟩ := fits_b h0
  obtain ⟨a1, w1, rfl⟩ := fits_b h1
  obtain ⟨a2, w2, rfl⟩ := fits_b h2
  obtain ⟨a3, w3, rfl⟩ := fits_b h3
  have e1 : ((256 ^ 1 : Nat) : Int) = 256 := by decide
  refine ⟨⟨a0, a1, a2, a3⟩, ?_, rfl⟩
  unfold okC
  rw [e1]
  exact ⟨⟨w0.1, show a0 < 256 by omega⟩, ⟨w1.1, show a1 < 256 by omega⟩, ⟨w2.1, show a2 < 256 by omega⟩, ⟨w3.1, show a3 < 256 by omega⟩⟩
theorem fits_i64 : ∀ cs, fitsP [.int .i64] cs → ∃ a : Int, (-9223372036854775808 ≤ a ∧ a ≤ 9223372036854775807) ∧ cs = inI a
  | [c0], h => by
    obtain ⟨h0, _⟩ := h
    obtain ⟨a, w, rfl⟩ := fits_prim_i64 h0
    exact ⟨a, w, rfl⟩
  | [], h => by cases h
  | _ :: _ :: _, h => by obtain ⟨_, h⟩ := h; cases h
theorem opens_i64 {w : World} : Opens Tryz.prog w 3 (fun a : Int => [.val (.int .i64 a)]) (fun a => -9223372036854775808 ≤ a ∧ a ≤ 9223372036854775807) := opens_flat 1 (fun a : Int => [.int .i64 a]) _ fits_i64 (by kernel_rfl)
theorem opens_id {w : World} : Opens Tryz.prog w 29 (fun a : I3 => (idc a).map .val) (fun _ => True) := opens_flat 4 idc _ fits_id (by kernel_rfl)
theorem opens_co {w : World} : Opens Tryz.prog w 42 (fun a : C4 => (c4 a).map .val) okC := opens_flat 4 c4 _ fits_c4 (by kernel_rfl)
theorem opens_px {w : World} : Opens Tryz.prog w 43 (fun l : List C4 => [.slf 4 l.length (l.flatMap c4)]) (fun l => ∀ x ∈ l, okC x) :=
  opens_row 4 c4 okC fits_c4 Tryz.underlying43 (show flatT Tryz.prog 4 42 = some [.int .u8, .int .u8, .int .u8, .int .u8] by kernel_rfl) (by kernel_rfl) (by decide) (fun _ => rfl)
theorem opens_st {w : World} : Opens Tryz.prog w 45 (fun a : Int × Int × List C4 => [iD a.1, iD a.2.1, pxD a.2.2]) (fun a => ∀ x ∈ a.2.2, okC x) :=
  opens_map (fun a : Int × Int × List C4 × Unit => (a.1, a.2.1, a.2.2.1)) (opens_struct Tryz.underlying45 (by kernel_rfl) (opensF_cons (k := 1) rfl (by kernel_rfl) opens_i64 (opensF_cons (k := 1) rfl (by kernel_rfl) opens_i64 (opensF_cons (k := 1) rfl (by kernel_rfl) opens_px opensF_nil)))) (fun _ => rfl) (fun _ h => h.2.2.1)
theorem opens_op {w : World} : Opens Tryz.prog w 47 opD okX :=
  opens_map (fun a : I3 × Int × Int × Int × Int × Int × Int × C4 × (Int × Int × List C4) × I3 × Unit => (⟨a.1, a.2.1, a.2.2.1, a.2.2.2.1, a.2.2.2.2.1, a.2.2.2.2.2.1, a.2.2.2.2.2.2.1, a.2.2.2.2.2.2.2.1, a.2.2.2.2.2.2.2.2.1.1, a.2.2.2.2.2.2.2.2.1.2.1, a.2.2.2.2.2.2.2.2.1.2.2, a.2.2.2.2.2.2.2.2.2.1⟩ : OpM)) (opens_struct Tryz.underlying47 (by kernel_rfl) (opensF_cons (k := 3) rfl (by kernel_rfl) opens_id (opensF_cons (k := 1) rfl (by kernel_rfl) opens_i64 (opensF_cons (k := 1) rfl (by kernel_rfl) opens_i64 (opensF_cons (k := 1) rfl (by kernel_rfl) opens_i64 (opensF_cons (k := 1) rfl (by kernel_rfl) opens_i64 (opensF_cons (k := 1) rfl (by kernel_rfl) opens_i64 (opensF_cons (k := 1) rfl (by kernel_rfl) opens_i64 (opensF_cons (k := 4) rfl (by kernel_rfl) opens_co (opensF_cons (k := 3) rfl (by kernel_rfl) opens_st (opensF_cons (k := 3) rfl (by kernel_rfl) opens_id opensF_nil))))))))))) (fun _ => rfl) (fun _ h => ⟨h.2.2.2.2.2.2.2.1, h.2.2.2.2.2.2.2.2.1⟩)
end Go.Proofs.YtmacjicebemgoaaGreat
