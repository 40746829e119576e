/- the law of what is proposed; logs that are opened. No condition. -/
import Derived.Test.YtnjnhghafjlmbaaGreatQPr1x1
import Derived.Test.YtnjnhghafjlmbaaGreatRows
namespace Go.Proofs.YtnjnhghafjlmbaaGreat
set_option linter.unusedVariables false
set_option linter.unusedSimpArgs false
open Go.RowKit
def cutL (x : LogM) : LogM := ⟨x.fo, x.bs, x.ops.take (min x.ops.length 40)⟩
set_option maxRecDepth 4000 in
set_option maxHeartbeats 1000000 in
theorem proposes_d (f : FrM) (x : LogM) (s : List Int) : DFun Tryz.prog 5 [.val (.agg (frC f).toArray), .agg (logD x), .slf 1 (s).length ((s).flatMap inI)] [] (.val (.bool true)) [] := by
  refine zba (N := 66) 0 (by kernel_rfl) Tryz.func5 rfl rfl rfl (by simp only [fr0, Nat.zero_add, Nat.reduceAdd]; exact rfl) rfl fun s0 hs0 => ?_
  refine dwp_len (t := 2) rfl fun hl2 hL2 => ?_
  refine zaf ?_
  refine zaj 2 (by simp only [holes, List.cons_append, List.nil_append]; exact rfl) ?_
  refine zac ?_
  refine zam rfl rfl rfl (op_boxa 0 rfl (ev1 rfl) rfl) (by simp only [upd, za, zaa]; exact rfl) ?_
  refine zam rfl rfl rfl (op_boxam 1 rfl (ev1 rfl) rfl) (by simp only [upd, za, zaa]; exact rfl) ?_
  refine zab rfl rfl rfl (zad (.inr rfl) (ev1 rfl)) ?_
  refine zae ?_
  refine zaf ?_
  refine zaf ?_
  refine zac ?_
  refine zab rfl rfl rfl (zah [] [] [] rfl (ev1 rfl) en rfl rfl (wakes_d) rfl rfl rfl rfl rfl rfl) ?_
  refine zab rfl rfl rfl (op_not rfl (ev1 rfl)) ?_
  refine zae ?_
  refine dwp_if_f rfl (rfl) ?_
  refine zak ?_
  refine zaf ?_
  refine zaj 1 (by simp only [holes, List.cons_append, List.nil_append]; exact rfl) ?_
  refine dwp_draw [([], []), ([1], []), ([], []), ([1], []), ([], []), ([1], []), ([], []), ([1], []), ([], []), ([], []), ([], []), ([], []), ([], []), ([2], [2]), ([2], [2])] mixed (by kernel_rfl) ?_
  refine lex_r rfl rfl (zap rfl fo58_0 (ev1 rfl)) ?_
  refine lex_r rfl rfl (zav rfl tb22 (ev1 rfl) rfl rfl) ?_
  refine lex_r rfl rfl (zap rfl fo58_1 (ev1 rfl)) ?_
  refine lex_r rfl rfl (op_ldmv (R := [_, _, _, _, _, _, _, _, _]) rfl tb24 (ev1 rfl) rfl rfl rfl) ?_
  refine lex_r rfl rfl (zap rfl fo58_2 (ev1 rfl)) ?_
  refine lex_r rfl rfl (zav rfl tb56 (ev1 rfl) rfl rfl) ?_
  refine lex_r rfl rfl (zap rfl fo58_2 (ev1 rfl)) ?_
  refine lex_r rfl rfl (zav rfl tb56 (ev1 rfl) rfl rfl) ?_
  refine lex_r rfl rfl (op_lenm rfl sl56 (ev1 rfl)) ?_
  refine lex_r rfl rfl (op_min rfl (ev1 rfl) (ev1 rfl)) ?_
  refine lex_r rfl rfl (op_slmtk (j := min x.ops.length 40) rfl sl56 (ev1 rfl) (bd_some (ev1 rfl)) (fun _ => by omega) (fun _ => by omega) (fun _ => rfl)) ?_
  refine lex_r rfl rfl (zah [] [] [] rfl (ev1 rfl) (ec (ev1 rfl) en) rfl rfl (cloneO _ (by rw [List.length_take]; omega)) rfl rfl rfl rfl rfl rfl) ?_
  refine lex_r rfl rfl (op_bldD (ps := [(0, .tmp 17), (1, .tmp 19), (2, .tmp 27)]) rfl fl58 zr58 (ec (ev1 rfl) (ec (ev1 rfl) (ec (ev1 rfl) en))) rfl rfl rfl) ?_
  refine lex_w rfl rfl (zaq 2 rfl zr58 rfl) rfl (by simp only [upd, za, zaa]; exact rfl) ?_
  refine lex_s rfl rfl (op_stam rfl tb58 (ev1 rfl) (ev1 rfl) rfl rfl rfl rfl) rfl (by simp only [upd, za, zaa]; exact rfl) ?_
  refine lex_nil ?_
  refine zaf ?_
  refine zaf ?_
  refine zac ?_
  refine zab rfl rfl rfl (zad (.inl rfl) (ev1 rfl)) ?_
  refine zab rfl rfl rfl (op_len rfl sl31 (ev1 rfl)) ?_
  refine zab rfl rfl rfl (zad (.inl rfl) (ev1 rfl)) ?_
  refine zae ?_
  refine zat ?_
  refine dwp_loopS ⟨hs0, rfl⟩ (α := Nat) (fun k => [(31, .val (.int .i64 (k : Int)))]) [(3, _), (7, _), (29, _), (30, _)] (fun k => []) [_, _, _] (fun k => k ≤ s.length) (fun k => s.length - k) 0 [0, 1, 2] (by omega) rfl ⟨rfl, rfl, rfl, rfl, trivial⟩ ⟨rfl, trivial⟩ ⟨rfl, rfl, rfl, trivial⟩ ?_
  intro k hx
  simp only [upd, za, zaa, List.cons_append, List.nil_append]
  have hk := hx
  refine zaf ?_
  refine zac ?_
  refine zab rfl rfl rfl (op_lss rfl (ev1 rfl) (ev1 rfl)) ?_
  refine zae ?_
  refine zaf ?_
  refine zaw rfl (fun c2 => ?_) (fun c2 => ?_)
  · try simp only [yg, ya, beq_iff_eq, bne_iff_ne, yb, yc, yf, ye, yh, yi, yd, ne_eq, yj, Int.not_lt, Int.not_le] at c2
    refine zak ?_
    refine zaf ?_
    refine zat ?_
    refine zaf ?_
    refine zac ?_
    refine zab rfl rfl rfl (zad (.inl rfl) (ev1 rfl)) ?_
    refine zab rfl rfl rfl (op_ixsr (j := k) rfl sl31 (ev1 rfl) (ev1 rfl) (fun _ => rfl) (by decide) (by omega) (by omega)) ?_
    refine zab rfl rfl rfl (op_ldod rfl tb3 (ev1 rfl) rfl) ?_
    refine zab rfl rfl rfl (zad (.inr rfl) (ev1 rfl)) ?_
    refine zab rfl rfl rfl (zad (.inr rfl) (ev1 rfl)) ?_
    refine zae ?_
    refine zaf ?_
    refine zaf ?_
    refine zac ?_
    refine zab rfl rfl rfl (zad (.inl rfl) (ev1 rfl)) ?_
    refine zab rfl rfl rfl (zb rfl (ev1 rfl) (ev1 rfl)) ?_
    refine zae ?_
    refine zaw rfl (fun c3 => ?_) (fun c3 => ?_)
    · try simp only [yg, ya, beq_iff_eq, bne_iff_ne, yb, yc, yf, ye, yh, yi, yd, ne_eq, yj, Int.not_lt, Int.not_le] at c3
      refine dwp_exit ?_
      refine zaf ?_
      refine zac ?_
      refine zab rfl rfl rfl (zad (.inr rfl) (ev1 rfl)) ?_
      refine zae ?_
      refine zau ?_
      refine kend0 (rs1 rfl (rv_t rfl)) rfl ?_
      rfl
    · try simp only [yg, ya, beq_iff_eq, bne_iff_ne, yb, yc, yf, ye, yh, yi, yd, ne_eq, yj, Int.not_lt, Int.not_le] at c3
      refine zak ?_
      refine zaf ?_
      refine zaj 1 (by simp only [holes, List.cons_append, List.nil_append]; exact rfl) ?_
      refine zac ?_
      refine zab rfl rfl rfl (zas rfl tb29 (ev1 rfl) rfl (zao _)) ?_
      refine zab rfl rfl rfl (op_ldmw rfl tb58 (ev1 rfl) rfl rfl) ?_
      refine zab rfl rfl rfl (zad (.inl rfl) (ev1 rfl)) ?_
      refine zab rfl rfl rfl (zah [] [] [] rfl (ev1 rfl) (ec (ev1 rfl) (ec (ev1 rfl) (ec (ev1 rfl) en))) rfl rfl (pro_d f (cutL x) (s[k])) rfl rfl rfl rfl rfl rfl) ?_
      refine zab rfl rfl rfl (zad (.inl rfl) (ev1 rfl)) ?_
      refine zab rfl rfl rfl (op_ext rfl (ev1 rfl) rfl) ?_
      refine zab rfl rfl rfl (op_ext rfl (ev1 rfl) rfl) ?_
      refine zam rfl rfl rfl (zaq 3 rfl zr29 rfl) (by simp only [upd, za, zaa]; exact rfl) ?_
      refine zax rfl rfl (op_stwa rfl tb29 (ev1 rfl) (ev1 rfl) rfl (zao _) (frC_oc _) rfl) (by simp only [upd, za, zaa]; exact rfl) ?_
      refine zab rfl rfl rfl (zad (.inr rfl) (ev1 rfl)) ?_
      refine zae ?_
      refine zaf ?_
      refine zaj 1 (by simp only [holes, List.cons_append, List.nil_append]; exact rfl) ?_
      refine zac ?_
      refine zam rfl rfl rfl (zaq 4 rfl zr29 rfl) (by simp only [upd, za, zaa]; exact rfl) ?_
      refine zae ?_
      refine zaf ?_
      refine zac ?_
      refine zab rfl rfl rfl (zad (.inr rfl) (ev1 rfl)) ?_
      refine zae ?_
      refine zaf ?_
      refine zaf ?_
      refine zac ?_
      refine zab rfl rfl rfl (zas rfl tb29 (ev1 rfl) rfl (zao _)) ?_
      refine zab rfl rfl rfl (zah [] [] [] rfl (ev1 rfl) (ec (ev1 rfl) en) rfl rfl (refFr_d _) rfl rfl rfl rfl rfl rfl) ?_
      refine zae ?_
      refine zaw rfl (fun hf => ?_) (fun hf => ?_)
      · refine zaf ?_
        refine zac ?_
        refine zab rfl rfl rfl (zad (.inr rfl) (ev1 rfl)) ?_
        refine zae ?_
        refine zaf ?_
        refine zac ?_
        refine zab rfl rfl rfl (op_ldmw rfl tb58 (ev1 rfl) rfl rfl) ?_
        refine zab rfl rfl rfl (zah [] [] [] rfl (ev1 rfl) (ec (ev1 rfl) en) rfl rfl (refLogB_d (cutL x)) rfl rfl rfl rfl rfl rfl) ?_
        refine zae ?_
        refine zaw rfl (fun hl => ?_) (fun hl => ?_)
        · refine zac ?_
          refine zab rfl rfl rfl (zas rfl tb29 (ev1 rfl) rfl (zao _)) ?_
          refine zab rfl rfl rfl (zap rfl fo58_2 (ev1 rfl)) ?_
          refine zab rfl rfl rfl (zav rfl tb56 (ev1 rfl) rfl rfl) ?_
          refine zab rfl rfl rfl (zad (.inl rfl) (ev1 rfl)) ?_
          refine zab rfl rfl rfl (zah [] [] [] rfl (ev1 rfl) (ec (ev1 rfl) (ec (ev1 rfl) (ec (ev1 rfl) en))) rfl rfl (refP_d f (cutL x).ops (s[k])) rfl rfl rfl rfl rfl rfl) ?_
          refine zab rfl rfl rfl (zad (.inl rfl) (ev1 rfl)) ?_
          refine zab rfl rfl rfl (op_ext rfl (ev1 rfl) rfl) ?_
          refine zab rfl rfl rfl (op_ext rfl (ev1 rfl) rfl) ?_
          refine zax rfl rfl (op_stwa rfl tb29 (ev1 rfl) (ev1 rfl) rfl (zao _) (frC_oc _) rfl) (by simp only [upd, za, zaa]; exact rfl) ?_
          refine zab rfl rfl rfl (zad (.inr rfl) (ev1 rfl)) ?_
          refine zae ?_
          refine zaf ?_
          refine zac ?_
          refine zab rfl rfl rfl (zas rfl tb29 (ev1 rfl) rfl (zao _)) ?_
          refine zab rfl rfl rfl (zas rfl tb29 (ev1 rfl) rfl (zao _)) ?_
          refine zab rfl rfl rfl (op_ner eq29 rfl gd29 tb29 (ev1 rfl) (ev1 rfl)) ?_
          refine zab rfl rfl rfl (zad (.inl rfl) (ev1 rfl)) ?_
          refine zag (zan rfl rfl rfl) rfl rfl rfl (zad (.inl rfl) (ev1 rfl)) ?_
          refine zag (zan rfl rfl rfl) rfl rfl rfl (zad (.inl rfl) (ev1 rfl)) ?_
          refine zag (zan rfl rfl rfl) rfl rfl rfl (op_neq rfl (ev2 rfl) (ev2 rfl)) ?_
          refine zab rfl rfl rfl (op_or rfl (ev1 rfl) (ev3 rfl id)) ?_
          refine zae ?_
          refine dwp_if_f rfl (by first | (rw [proF_nof hf]; simp [eqF_refl]; done) | (rw [proF_nol hf hl]; simp [eqF_refl]; done) | (rw [proF_ref hf hl]; simp [eqF_refl]; done)) ?_
          refine zak ?_
          refine zac ?_
          refine zab rfl rfl rfl (op_add' rfl (ev1 rfl) (ev1 rfl) (fun _ => IntWalk.i64_in _ (by omega))) ?_
          refine zab rfl rfl rfl (zad (.inl rfl) (ev1 rfl)) ?_
          refine zae ?_
          refine ⟨k + 1, [0, 1, 2], by omega, by simp only []; omega, rfl, ⟨rfl, rfl, rfl, rfl, rfl, trivial⟩, ⟨rfl, rfl, rfl, trivial⟩⟩
        · refine zak ?_
          refine zaf ?_
          refine zac ?_
          refine zab rfl rfl rfl (zas rfl tb29 (ev1 rfl) rfl (zao _)) ?_
          refine zab rfl rfl rfl (zas rfl tb29 (ev1 rfl) rfl (zao _)) ?_
          refine zab rfl rfl rfl (op_ner eq29 rfl gd29 tb29 (ev1 rfl) (ev1 rfl)) ?_
          refine zab rfl rfl rfl (zad (.inl rfl) (ev1 rfl)) ?_
          refine zag (zan rfl rfl rfl) rfl rfl rfl (zad (.inl rfl) (ev1 rfl)) ?_
          refine zag (zan rfl rfl rfl) rfl rfl rfl (zad (.inl rfl) (ev1 rfl)) ?_
          refine zag (zan rfl rfl rfl) rfl rfl rfl (op_neq rfl (ev2 rfl) (ev2 rfl)) ?_
          refine zab rfl rfl rfl (op_or rfl (ev1 rfl) (ev3 rfl id)) ?_
          refine zae ?_
          refine dwp_if_f rfl (by first | (rw [proF_nof hf]; simp [eqF_refl]; done) | (rw [proF_nol hf hl]; simp [eqF_refl]; done) | (rw [proF_ref hf hl]; simp [eqF_refl]; done)) ?_
          refine zak ?_
          refine zac ?_
          refine zab rfl rfl rfl (op_add' rfl (ev1 rfl) (ev1 rfl) (fun _ => IntWalk.i64_in _ (by omega))) ?_
          refine zab rfl rfl rfl (zad (.inl rfl) (ev1 rfl)) ?_
          refine zae ?_
          refine ⟨k + 1, [0, 1, 2], by omega, by simp only []; omega, rfl, ⟨rfl, rfl, rfl, rfl, rfl, trivial⟩, ⟨rfl, rfl, rfl, trivial⟩⟩
      · refine zak ?_
        refine zaf ?_
        refine zac ?_
        refine zab rfl rfl rfl (zas rfl tb29 (ev1 rfl) rfl (zao _)) ?_
        refine zab rfl rfl rfl (zas rfl tb29 (ev1 rfl) rfl (zao _)) ?_
        refine zab rfl rfl rfl (op_ner eq29 rfl gd29 tb29 (ev1 rfl) (ev1 rfl)) ?_
        refine zab rfl rfl rfl (zad (.inl rfl) (ev1 rfl)) ?_
        refine zag (zan rfl rfl rfl) rfl rfl rfl (zad (.inl rfl) (ev1 rfl)) ?_
        refine zag (zan rfl rfl rfl) rfl rfl rfl (zad (.inl rfl) (ev1 rfl)) ?_
        refine zag (zan rfl rfl rfl) rfl rfl rfl (op_neq rfl (ev2 rfl) (ev2 rfl)) ?_
        refine zab rfl rfl rfl (op_or rfl (ev1 rfl) (ev3 rfl id)) ?_
        refine zae ?_
        refine dwp_if_f rfl (by first | (rw [proF_nof hf]; simp [eqF_refl]; done) | (rw [proF_nol hf hl]; simp [eqF_refl]; done) | (rw [proF_ref hf hl]; simp [eqF_refl]; done)) ?_
        refine zak ?_
        refine zac ?_
        refine zab rfl rfl rfl (op_add' rfl (ev1 rfl) (ev1 rfl) (fun _ => IntWalk.i64_in _ (by omega))) ?_
        refine zab rfl rfl rfl (zad (.inl rfl) (ev1 rfl)) ?_
        refine zae ?_
        refine ⟨k + 1, [0, 1, 2], by omega, by simp only []; omega, rfl, ⟨rfl, rfl, rfl, rfl, rfl, trivial⟩, ⟨rfl, rfl, rfl, trivial⟩⟩
  · try simp only [yg, ya, beq_iff_eq, bne_iff_ne, yb, yc, yf, ye, yh, yi, yd, ne_eq, yj, Int.not_lt, Int.not_le] at c2
    refine dwp_exit ?_
    refine zaf ?_
    refine zac ?_
    refine zab rfl rfl rfl (zad (.inr rfl) (ev1 rfl)) ?_
    refine zae ?_
    refine zau ?_
    refine kend0 (rs1 rfl (rv_t rfl)) rfl ?_
    rfl
open Go.ChangeShapes Go.WideShapes Go.ChangeAt Go.Joins Go.Deep
theorem fits_u8 {v : Value} (h : (Prim.int .u8).is v) : ∃ a : Int, v = .int .u8 a := by
  obtain ⟨x, rfl, w⟩ := h
  exact ⟨x, rfl⟩
theorem fits_id (cs : List Value) (h : fitsP [.int .u64, .int .i64, .int .u64] cs) : ∃ a : I3, True ∧ cs = idc a := by
  obtain ⟨x0, r, rfl, h0, h⟩ := fitsP_cons h
  obtain ⟨x1, r, rfl, h1, h⟩ := fitsP_cons h
  obtain ⟨x2, r, rfl, h2, h⟩ := fitsP_cons h
  obtain rfl := fitsP_nil h
  obtain ⟨a0, _, rfl⟩ := fits_prim_u64 h0
  obtain ⟨a1, _, rfl⟩ := fits_prim_i64 h1
  obtain ⟨a2, _, rfl⟩ := fits_prim_u64 h2
  exact ⟨⟨a0, a1, a2⟩, trivial, rfl⟩
theorem fits_c4 (cs : List Value) (h : fitsP [.int .u8, .int .u8, .int .u8, .int .u8] cs) : ∃ a : C4, True ∧ cs = c4 a := by
  obtain ⟨x0, r, rfl, h0, h⟩ := fitsP_cons h
  obtain ⟨x1, r, rfl, h1, h⟩ := fitsP_cons h
  obtain ⟨x2, r, rfl, h2, h⟩ := fitsP_cons h
  obtain ⟨x3, r, rfl, h3, h⟩ := fitsP_cons h
  obtain rfl := fitsP_nil h
  obtain ⟨a0, rfl⟩ := fits_u8 h0
  obtain ⟨a1, rfl⟩ := fits_u8 h1
  obtain ⟨a2, rfl⟩ := fits_u8 h2
  obtain ⟨a3, rfl⟩ := fits_u8 h3
  exact ⟨⟨a0, a1, a2, a3⟩, trivial, rfl⟩
theorem fits_n1 (cs : List Value) (h : fitsP [.int .u64] cs) : ∃ a : Nat, True ∧ cs = [.int .u64 (a : Int)] := by
  obtain ⟨x0, r, rfl, h0, h⟩ := fitsP_cons h
  obtain rfl := fitsP_nil h
  obtain ⟨a0, rfl⟩ := fits_nat h0
  exact ⟨a0, trivial, rfl⟩
theorem opens_i64 {w : World} : Opens Tryz.prog w 3 (fun a : Int => [.val (.int .i64 a)]) (fun a => -9223372036854775808 ≤ a ∧ a ≤ 9223372036854775807) := opens_flat 1 (fun a : Int => [.int .i64 a]) _ fits_i64 (by kernel_rfl)
theorem opens_u64 {w : World} : Opens Tryz.prog w 22 (fun a : Nat => [.val (.int .u64 (a : Int))]) (fun _ => True) := opens_flat 1 (fun a : Nat => [.int .u64 (a : Int)]) _ fits_n1 (by kernel_rfl)
theorem opens_id {w : World} : Opens Tryz.prog w 61 (fun a : I3 => (idc a).map .val) (fun _ => True) := opens_flat 4 idc _ fits_id (by kernel_rfl)
theorem opens_co {w : World} : Opens Tryz.prog w 63 (fun a : C4 => (c4 a).map .val) (fun _ => True) := opens_flat 4 c4 _ fits_c4 (by kernel_rfl)
theorem opens_vec {w : World} : Opens Tryz.prog w 24 (fun a : Vec => (c9 a).map .val) (fun _ => True) := opens_flat 4 c9 _ fits_c9 (by kernel_rfl)
theorem opens_px {w : World} : Opens Tryz.prog w 64 (fun l : List C4 => [.slf 4 l.length (l.flatMap c4)]) (fun l => ∀ x ∈ l, True) :=
  opens_row 4 c4 (fun _ => True) fits_c4 Tryz.underlying64 (show flatT Tryz.prog 4 63 = some [.int .u8, .int .u8, .int .u8, .int .u8] by kernel_rfl) (by kernel_rfl) (by decide) (fun _ => rfl)
theorem opens_st {w : World} : Opens Tryz.prog w 66 (fun a : Int × Int × List C4 => [iD a.1, iD a.2.1, pxD a.2.2]) (fun _ => True) :=
  opens_map (fun a : Int × Int × List C4 × Unit => (a.1, a.2.1, a.2.2.1)) (opens_struct Tryz.underlying66 (by kernel_rfl) (opensF_cons (k := 1) rfl (by kernel_rfl) opens_i64 (opensF_cons (k := 1) rfl (by kernel_rfl) opens_i64 (opensF_cons (k := 1) rfl (by kernel_rfl) opens_px opensF_nil)))) (fun _ => rfl) (fun _ _ => trivial)
theorem opens_op {w : World} : Opens Tryz.prog w 68 opD (fun _ => True) :=
  opens_map (fun a : I3 × Int × Int × Int × Int × Int × Int × C4 × (Int × Int × List C4) × I3 × Unit => (⟨a.1, a.2.1, a.2.2.1, a.2.2.2.1, a.2.2.2.2.1, a.2.2.2.2.2.1, a.2.2.2.2.2.2.1, a.2.2.2.2.2.2.2.1, a.2.2.2.2.2.2.2.2.1.1, a.2.2.2.2.2.2.2.2.1.2.1, a.2.2.2.2.2.2.2.2.1.2.2, a.2.2.2.2.2.2.2.2.2.1⟩ : OpM)) (opens_struct Tryz.underlying68 (by kernel_rfl) (opensF_cons (k := 3) rfl (by kernel_rfl) opens_id (opensF_cons (k := 1) rfl (by kernel_rfl) opens_i64 (opensF_cons (k := 1) rfl (by kernel_rfl) opens_i64 (opensF_cons (k := 1) rfl (by kernel_rfl) opens_i64 (opensF_cons (k := 1) rfl (by kernel_rfl) opens_i64 (opensF_cons (k := 1) rfl (by kernel_rfl) opens_i64 (opensF_cons (k := 1) rfl (by kernel_rfl) opens_i64 (opensF_cons (k := 4) rfl (by kernel_rfl) opens_co (opensF_cons (k := 3) rfl (by kernel_rfl) opens_st (opensF_cons (k := 3) rfl (by kernel_rfl) opens_id opensF_nil))))))))))) (fun _ => rfl) (fun _ _ => trivial)
theorem opens_log {w : World} : Opens Tryz.prog w 58 logD (fun _ => True) :=
  opens_map (fun a : Nat × Vec × List OpM × Unit => (⟨a.1, a.2.1, a.2.2.1⟩ : LogM)) (opens_struct Tryz.underlying58 (by kernel_rfl) (opensF_cons (k := 1) rfl (by kernel_rfl) opens_u64 (opensF_cons (k := 9) rfl (by kernel_rfl) opens_vec (opensF_cons (k := 1) rfl (by kernel_rfl) (opens_rows (sz := 19) opens_op Tryz.underlying56 (by kernel_rfl) (by decide) (fun _ => rfl) (fun _ => rfl)) opensF_nil)))) (fun _ => rfl) (fun _ _ => trivial)
end Go.Proofs.YtnjnhghafjlmbaaGreat
