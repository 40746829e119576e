/- colours laid over colours; stamps laid on canvases: the dots; stamps laid on canvases; arguments that are opened; the layer does something; turned four times, flipped twice. No condition. -/
import Derived.Test.YtadjbiccndaclaaQ4
import Derived.Test.YtadjbiccndaclaaRows
namespace Go.Proofs.Ytadjbiccndaclaa
set_option maxRecDepth 4000
set_option linter.unusedVariables false
set_option linter.unusedSimpArgs false
open Go.RowKit
theorem ar152 : arE Try.prog 152 = some (4, 1) := by kernel_rfl
theorem ar154 : arE Try.prog 154 = some (4, 1) := by kernel_rfl
theorem fl148 : fdL Try.prog 148 = some [(0, 4)] := by kernel_rfl
theorem fo148_0 : fdO Try.prog 148 0 = some 0 := by kernel_rfl
theorem fo38_0 : fdO Try.prog 38 0 = some 0 := by kernel_rfl
theorem fo38_1 : fdO Try.prog 38 1 = some 1 := by kernel_rfl
theorem fo38_2 : fdO Try.prog 38 2 = some 2 := by kernel_rfl
theorem kn3 : knd Try.prog 3 = some .i64 := by kernel_rfl
theorem kn5 : knd Try.prog 5 = some .u8 := by kernel_rfl
theorem tb148 : tyB Try.prog 148 = some (true, 4) := by kernel_rfl
theorem tb152 : tyB Try.prog 152 = some (true, 4) := by kernel_rfl
theorem tb154 : tyB Try.prog 154 = some (true, 4) := by kernel_rfl
theorem ty3 : (tyB Try.prog 3).isSome = true := by kernel_rfl
theorem ty5 : (tyB Try.prog 5).isSome = true := by kernel_rfl
theorem zr148 : zrC Try.prog 148 = some [.int .u8 0, .int .u8 0, .int .u8 0, .int .u8 0] := by kernel_rfl
theorem zr152 : zrC Try.prog 152 = some [.int .u8 0, .int .u8 0, .int .u8 0, .int .u8 0] := by kernel_rfl
theorem zr154 : zrC Try.prog 154 = some [.int .u8 0, .int .u8 0, .int .u8 0, .int .u8 0] := by kernel_rfl
theorem zr5 : zrC Try.prog 5 = some [.int .u8 0] := by kernel_rfl
def cutB (w h x y a b : Int) : Bool := (sideB a && sideB b) && (decide (0 ≤ x) && decide (x ≤ w * 8 - a) && decide (0 ≤ y) && decide (y ≤ h * 8 - b))
theorem CutOk.b {w h x y : Int} {W H : Nat} (hk : CutOk w h x y W H) : cutB w h x y W H = true := by
  have h1 := hk.hw
  have h2 := hk.hh
  have h3 := hk.hx
  have h4 := hk.hy
  unfold cutB
  simp only [Bool.and_eq_true, sideB_iff, decide_eq_true_eq]
  omega
set_option maxRecDepth 4000 in
set_option maxHeartbeats 1000000 in
theorem cut_no (w h : Int) (ds : List D) (ts : List TL) (hr : RowOk ds ts) (hc : CvOk w h ts) (x y a b : Int) (hno : cutB w h x y a b = false) : DFun Try.prog 28 [cvD w h ds, .val (.int .i64 x), .val (.int .i64 y), .val (.int .i64 a), .val (.int .i64 b)] [] (.tup [.val (.agg #[.int .i64 0, .int .i64 0, .slice none 0 0]), .val (.int .i64 2)]) [] := by
  have hb := mayS_b hc.may
  refine dcalls_body (N := 95) 0 (by kernel_rfl) Try.func28 rfl rfl rfl (by simp only [fr0, Nat.zero_add, Nat.reduceAdd]; exact rfl) rfl fun s0 hs0 => ?_
  refine dbody_seq rfl hs0 ?_
  refine zai 2 (by simp only [holes, List.cons_append, List.nil_append]; exact rfl) ?_
  refine zad ?_
  refine zak rfl rfl rfl (zal 0 rfl zr24 rfl) (by simp only [upd, za, zaa]; exact rfl) ?_
  refine zak rfl rfl rfl (zal 1 rfl zr29 rfl) (by simp only [upd, za, zaa]; exact rfl) ?_
  refine zae ?_
  refine dbody_defer (l0 := [_]) rfl rfl rfl rfl rfl hs0 ?_
  refine zab rfl rfl rfl (op_mkf rfl en (ec (ev1 rfl) en)) ?_
  refine zae ⟨_, _, _, 2, ev1 rfl, Nat.le_trans hs0 (by decide), rfl, ?_⟩
  have hs1 : s0.M.length ≤ 2 := Nat.le_trans hs0 (by decide)
  refine dbody_end rfl hs0 ?_
  refine zaf ?_
  refine zaf ?_
  refine zad ?_
  refine zab rfl rfl rfl (zac (.inl rfl) (ev1 rfl)) ?_
  refine zab rfl rfl rfl (op_pnilm rfl pt62 (ev1 rfl)) ?_
  refine zae ?_
  refine dwp_if_f rfl (rfl) ?_
  refine dwp_skip ?_
  refine zaf ?_
  refine zad ?_
  refine zab rfl rfl rfl (zac (.inl rfl) (ev1 rfl)) ?_
  refine zab rfl rfl rfl (zaj [] [] [] rfl (ev1 rfl) (ec (ev1 rfl) en) rfl rfl (size_d w h ds ts hr hc) rfl rfl rfl rfl rfl rfl) ?_
  refine zab rfl rfl rfl (zac (.inl rfl) (ev1 rfl)) ?_
  refine zab rfl rfl rfl (op_ext rfl (ev1 rfl) rfl) ?_
  refine zab rfl rfl rfl (op_ext rfl (ev1 rfl) rfl) ?_
  refine zab rfl rfl rfl (zac (.inr rfl) (ev1 rfl)) ?_
  refine zab rfl rfl rfl (zac (.inr rfl) (ev1 rfl)) ?_
  refine zae ?_
  refine zaf ?_
  refine zaf ?_
  refine zad ?_
  refine zab rfl rfl rfl (zac (.inl rfl) (ev1 rfl)) ?_
  refine zab rfl rfl rfl (zaj [] [] [] rfl (ev1 rfl) (ec (ev1 rfl) en) rfl rfl (side_d _) rfl rfl rfl rfl rfl rfl) ?_
  refine zab rfl rfl rfl (op_not rfl (ev1 rfl)) ?_
  refine zab rfl rfl rfl (zac (.inl rfl) (ev1 rfl)) ?_
  refine zah (gd_f rfl rfl rfl) rfl rfl rfl (zac (.inl rfl) (ev1 rfl)) ?_
  refine zah (gd_f rfl rfl rfl) rfl rfl rfl (zaj [] [] [] rfl (ev1 rfl) (ec (ev2 rfl) en) rfl rfl (side_d _) rfl rfl rfl rfl rfl rfl) ?_
  refine zah (gd_f rfl rfl rfl) rfl rfl rfl (op_not rfl (ev2 rfl)) ?_
  refine zab rfl rfl rfl (op_or rfl (ev1 rfl) (ev3 rfl id)) ?_
  refine zab rfl rfl rfl (zac (.inl rfl) (ev1 rfl)) ?_
  refine zah (gd_f rfl rfl rfl) rfl rfl rfl (zac (.inl rfl) (ev1 rfl)) ?_
  refine zah (gd_f rfl rfl rfl) rfl rfl rfl (op_lss rfl (ev2 rfl) (ev1 rfl)) ?_
  refine zab rfl rfl rfl (op_or rfl (ev1 rfl) (ev3 rfl id)) ?_
  refine zab rfl rfl rfl (zac (.inl rfl) (ev1 rfl)) ?_
  refine zah (gd_f rfl rfl rfl) rfl rfl rfl (zac (.inl rfl) (ev1 rfl)) ?_
  refine zah (gd_f rfl rfl rfl) rfl rfl rfl (zac (.inl rfl) (ev1 rfl)) ?_
  refine zah (gd_f rfl rfl rfl) rfl rfl rfl (zac (.inl rfl) (ev1 rfl)) ?_
  refine zah (gd_f rfl rfl rfl) rfl rfl rfl (op_sub rfl (ev2 rfl) (ev2 rfl)) ?_
  refine zah (gd_f rfl rfl rfl) rfl rfl rfl (op_gtr rfl (ev2 rfl) (ev2 rfl)) ?_
  refine zab rfl rfl rfl (op_or rfl (ev1 rfl) (ev3 rfl id)) ?_
  refine zab rfl rfl rfl (zac (.inl rfl) (ev1 rfl)) ?_
  refine zah (gd_f rfl rfl rfl) rfl rfl rfl (zac (.inl rfl) (ev1 rfl)) ?_
  refine zah (gd_f rfl rfl rfl) rfl rfl rfl (op_lss rfl (ev2 rfl) (ev1 rfl)) ?_
  refine zab rfl rfl rfl (op_or rfl (ev1 rfl) (ev3 rfl id)) ?_
  refine zab rfl rfl rfl (zac (.inl rfl) (ev1 rfl)) ?_
  refine zah (gd_f rfl rfl rfl) rfl rfl rfl (zac (.inl rfl) (ev1 rfl)) ?_
  refine zah (gd_f rfl rfl rfl) rfl rfl rfl (zac (.inl rfl) (ev1 rfl)) ?_
  refine zah (gd_f rfl rfl rfl) rfl rfl rfl (zac (.inl rfl) (ev1 rfl)) ?_
  refine zah (gd_f rfl rfl rfl) rfl rfl rfl (op_sub rfl (ev2 rfl) (ev2 rfl)) ?_
  refine zah (gd_f rfl rfl rfl) rfl rfl rfl (op_gtr rfl (ev2 rfl) (ev2 rfl)) ?_
  refine zab rfl rfl rfl (op_or rfl (ev1 rfl) (ev3 rfl id)) ?_
  refine zae ?_
  refine dwp_if_t rfl (by
      unfold cutB at hno
      cases ha : sideB a with
      | false => rfl
      | true =>
        cases hb2 : sideB b with
        | false => rfl
        | true =>
          have h1 := sideB_iff.1 ha
          have h2 := sideB_iff.1 hb2
          rw [ha, hb2] at hno
          rw [IntWalk.i64_in _ (by omega), IntWalk.i64_in _ (by omega)]
          simp at hno
          simp
          omega) ?_
  refine zad ?_
  refine zab rfl rfl rfl (op_build (ps := [(0, .const (.int .i64 2))]) rfl fl92 zr92 (vc (ev1 rfl) vn) rfl rfl) ?_
  refine zab rfl rfl rfl (op_mi rfl ni92 (ev1 rfl)) ?_
  refine walk_p rfl (op_pan rfl (ev1 rfl)) rfl ?_
  refine kdef (dturn_caught [1] [] rfl rfl rfl (scut1_caught _ _) rfl rfl rfl rfl rfl) ?_
  refine kend0 (rs2 rfl (rv_w tb24 rfl rfl rfl) (rv_1 tb29 rfl rfl rfl)) rfl ?_
  rfl
def shU (a pa b pb : Int) : Int := (a * pa + b * pb + 127) / 255
theorem shU_in {a pa b pb : Int} (ha : 0 ≤ a ∧ a ≤ 255) (hb : 0 ≤ b ∧ b ≤ 255) (hp : 0 ≤ pa ∧ 0 ≤ pb ∧ pa + pb ≤ 255) : (0 ≤ a * pa ∧ a * pa ≤ 255 * 255) ∧ (0 ≤ b * pb ∧ b * pb ≤ 255 * 255) ∧ 0 ≤ shU a pa b pb ∧ shU a pa b pb ≤ pa + pb := by
  have h1 : 0 ≤ a * pa := Int.mul_nonneg ha.1 hp.1
  have h2 : 0 ≤ b * pb := Int.mul_nonneg hb.1 hp.2.1
  have h3 : a * pa ≤ 255 * pa := Int.mul_le_mul_of_nonneg_right ha.2 hp.1
  have h4 : b * pb ≤ 255 * pb := Int.mul_le_mul_of_nonneg_right hb.2 hp.2.1
  unfold shU
  omega
def overC (u o : C4) : C4 := ⟨shU o.r o.a u.r (255 - o.a), shU o.g o.a u.g (255 - o.a), shU o.b o.a u.b (255 - o.a), o.a + shU u.a (255 - o.a) 0 0⟩
theorem overC_rng {u o : C4} (hu : u.rng) (ho : o.rng) : (overC u o).rng := by
  obtain ⟨u1, u2, u3, u4⟩ := hu
  obtain ⟨o1, o2, o3, o4⟩ := ho
  have h1 := shU_in (pa := o.a) (pb := 255 - o.a) o1 u1 (by omega)
  have h2 := shU_in (pa := o.a) (pb := 255 - o.a) o2 u2 (by omega)
  have h3 := shU_in (pa := o.a) (pb := 255 - o.a) o3 u3 (by omega)
  have h4 := shU_in (pa := 255 - o.a) (pb := 0) (b := 0) u4 (by omega) (by omega)
  refine ⟨?_, ?_, ?_, ?_⟩
  · show 0 ≤ shU _ _ _ _ ∧ shU _ _ _ _ ≤ 255; omega
  · show 0 ≤ shU _ _ _ _ ∧ shU _ _ _ _ ≤ 255; omega
  · show 0 ≤ shU _ _ _ _ ∧ shU _ _ _ _ ≤ 255; omega
  · show 0 ≤ o.a + shU _ _ _ _ ∧ o.a + shU _ _ _ _ ≤ 255; omega
set_option maxRecDepth 4000 in
set_option maxHeartbeats 1000000 in
theorem share_d (a pa b pb : Int) (ha : 0 ≤ a ∧ a ≤ 255) (hb : 0 ≤ b ∧ b ≤ 255) (hp : 0 ≤ pa ∧ 0 ≤ pb ∧ pa + pb ≤ 255) : DFun Try.prog 95 [.val (.int .u8 a), .val (.int .u8 pa), .val (.int .u8 b), .val (.int .u8 pb)] [] (.val (.int .u8 (shU a pa b pb))) [] := by
  obtain ⟨h1, h2, h3⟩ := shU_in ha hb hp
  unfold shU at h3
  refine dcalls_go (N := 23) 0 (by kernel_rfl) Try.func95 rfl rfl rfl (by simp only [fr0, Nat.zero_add, Nat.reduceAdd]; exact rfl) rfl fun s0 hs0 => ?_
  refine zaf ?_
  refine zad ?_
  refine zab rfl rfl rfl (zac (.inr rfl) (ev1 rfl)) ?_
  refine zae ?_
  refine zaf ?_
  refine zad ?_
  refine zab rfl rfl rfl (zac (.inl rfl) (ev1 rfl)) ?_
  refine zab rfl rfl rfl (op_conv' ty5 kn3 rfl (ev1 rfl) (fun _ => IntWalk.i64_in _ (by omega))) ?_
  refine zab rfl rfl rfl (zac (.inl rfl) (ev1 rfl)) ?_
  refine zab rfl rfl rfl (op_conv' ty5 kn3 rfl (ev1 rfl) (fun _ => IntWalk.i64_in _ (by omega))) ?_
  refine zab rfl rfl rfl (op_mul' rfl (ev1 rfl) (ev1 rfl) (fun _ => IntWalk.i64_in _ (by omega))) ?_
  refine zab rfl rfl rfl (zac (.inl rfl) (ev1 rfl)) ?_
  refine zab rfl rfl rfl (op_conv' ty5 kn3 rfl (ev1 rfl) (fun _ => IntWalk.i64_in _ (by omega))) ?_
  refine zab rfl rfl rfl (zac (.inl rfl) (ev1 rfl)) ?_
  refine zab rfl rfl rfl (op_conv' ty5 kn3 rfl (ev1 rfl) (fun _ => IntWalk.i64_in _ (by omega))) ?_
  refine zab rfl rfl rfl (op_mul' rfl (ev1 rfl) (ev1 rfl) (fun _ => IntWalk.i64_in _ (by omega))) ?_
  refine zab rfl rfl rfl (op_add' rfl (ev1 rfl) (ev1 rfl) (fun _ => IntWalk.i64_in _ (by omega))) ?_
  refine zab rfl rfl rfl (op_add' rfl (ev1 rfl) (ev1 rfl) (fun _ => IntWalk.i64_in _ (by omega))) ?_
  refine zab rfl rfl rfl (op_quo' rfl (ev1 rfl) (ev1 rfl) (fun _ => ⟨by omega, by omega, IntWalk.i64_in _ (by omega)⟩)) ?_
  refine zab rfl rfl rfl (op_conv ty3 kn5 rfl (ev1 rfl)) ?_
  refine zab rfl rfl rfl (zac (.inr rfl) (ev1 rfl)) ?_
  refine zae ?_
  refine dwp_ret ?_
  refine kend0 (rs1 rfl (rv_t rfl)) rfl ?_
  rw [D.val.injEq, Value.int.injEq]
  exact ⟨rfl, by unfold shU; rw [IntWalk.u8_in _ (by omega)]⟩
set_option maxRecDepth 4000 in
set_option maxHeartbeats 1000000 in
theorem cov1_lt (i : Int) (u o a : Int) (hi : i < 3) (hu : 0 ≤ u ∧ u ≤ 255) (ho : 0 ≤ o ∧ o ≤ 255) (ha : 0 ≤ a ∧ a ≤ 255) : DFun Try.prog 94 [.val (.int .i64 i), .val (.int .u8 u), .val (.int .u8 o), .loc 0 0] [.flat 5 [.int .u8 a]] (.val (.int .u8 (shU o a u (255 - a)))) [.flat 5 [.int .u8 a]] := by
  refine dcalls_go (N := 22) 1 (by kernel_rfl) Try.func94 rfl rfl rfl (by simp only [fr0, Nat.zero_add, Nat.reduceAdd]; exact rfl) rfl fun s0 hs0 => ?_
  refine zaf ?_
  refine zad ?_
  refine zab rfl rfl rfl (zac (.inr rfl) (ev1 rfl)) ?_
  refine zae ?_
  refine zaf ?_
  refine zaf ?_
  refine zad ?_
  refine zab rfl rfl rfl (zac (.inl rfl) (ev1 rfl)) ?_
  refine zab rfl rfl rfl (op_lss rfl (ev1 rfl) (ev1 rfl)) ?_
  refine zae ?_
  refine dwp_if_t rfl (by simpa using hi) ?_
  refine zaf ?_
  refine zad ?_
  refine zab rfl rfl rfl (zac (.inl rfl) (ev1 rfl)) ?_
  refine zab rfl rfl rfl (op_ldo rfl tb5 (ev1 rfl) rfl rfl) ?_
  refine zab rfl rfl rfl (zac (.inl rfl) (ev1 rfl)) ?_
  refine zab rfl rfl rfl (op_ldo rfl tb5 (ev1 rfl) rfl rfl) ?_
  refine zab rfl rfl rfl (op_sub' rfl (ev1 rfl) (ev1 rfl) (fun _ => IntWalk.u8_in _ (by omega))) ?_
  refine zab rfl rfl rfl (zaj [] [] [] rfl (ev1 rfl) (ec (ev1 rfl) (ec (ev1 rfl) (ec (ev1 rfl) (ec (ev1 rfl) en)))) rfl rfl (share_d o a u (255 - a) ho hu (by omega)) rfl rfl rfl rfl rfl rfl) ?_
  refine zab rfl rfl rfl (zac (.inr rfl) (ev1 rfl)) ?_
  refine zae ?_
  refine dwp_ret ?_
  refine kend [0] (rs1 rfl (rv_t rfl)) rfl rfl ?_ ⟨rfl, trivial⟩
  rfl
set_option maxRecDepth 4000 in
set_option maxHeartbeats 1000000 in
theorem cov1_3 (u o a : Int) (hu : 0 ≤ u ∧ u ≤ 255) (ha : 0 ≤ a ∧ a ≤ 255) : DFun Try.prog 94 [.val (.int .i64 3), .val (.int .u8 u), .val (.int .u8 o), .loc 0 0] [.flat 5 [.int .u8 a]] (.val (.int .u8 (a + shU u (255 - a) 0 0))) [.flat 5 [.int .u8 a]] := by
  have h4 := shU_in (pa := 255 - a) (pb := 0) (b := 0) hu (by omega) (by omega)
  refine dcalls_go (N := 22) 1 (by kernel_rfl) Try.func94 rfl rfl rfl (by simp only [fr0, Nat.zero_add, Nat.reduceAdd]; exact rfl) rfl fun s0 hs0 => ?_
  refine zaf ?_
  refine zad ?_
  refine zab rfl rfl rfl (zac (.inr rfl) (ev1 rfl)) ?_
  refine zae ?_
  refine zaf ?_
  refine zaf ?_
  refine zad ?_
  refine zab rfl rfl rfl (zac (.inl rfl) (ev1 rfl)) ?_
  refine zab rfl rfl rfl (op_lss rfl (ev1 rfl) (ev1 rfl)) ?_
  refine zae ?_
  refine dwp_if_f rfl (by decide) ?_
  refine dwp_skip ?_
  refine zaf ?_
  refine dwp_draw [([0], []), ([], []), ([0], []), ([], []), ([], []), ([], []), ([], [])] mixed (by kernel_rfl) ?_
  refine zag rfl rfl (op_ldo rfl tb5 (ev1 rfl) rfl rfl) ?_
  refine zag rfl rfl (zac (.inl rfl) (ev1 rfl)) ?_
  refine zag rfl rfl (op_ldo rfl tb5 (ev1 rfl) rfl rfl) ?_
  refine zag rfl rfl (op_sub' rfl (ev1 rfl) (ev1 rfl) (fun _ => IntWalk.u8_in _ (by omega))) ?_
  refine zag rfl rfl (zaj [] [] [] rfl (ev1 rfl) (ec (ev1 rfl) (ec (ev1 rfl) (ec (ev1 rfl) (ec (ev1 rfl) en)))) rfl rfl (share_d u (255 - a) 0 0 hu (by omega) (by omega)) rfl rfl rfl rfl rfl rfl) ?_
  refine zag rfl rfl (op_add' rfl (ev1 rfl) (ev1 rfl) (fun _ => IntWalk.u8_in _ (by omega))) ?_
  refine zag rfl rfl (zac (.inr rfl) (ev1 rfl)) ?_
  refine lex_nil ?_
  refine dwp_ret ?_
  refine kend [0] (rs1 rfl (rv_t rfl)) rfl rfl ?_ ⟨rfl, trivial⟩
  rfl
set_option maxRecDepth 4000 in
set_option maxHeartbeats 1000000 in
theorem merged_d (u o : C4) (a : Int) (ha : 0 ≤ a ∧ a ≤ 255) (hu : u.rng) (ho : o.rng) : DFun Try.prog 92 [.val (.agg #[.int .u8 u.r, .int .u8 u.g, .int .u8 u.b, .int .u8 u.a]), .val (.agg #[.int .u8 o.r, .int .u8 o.g, .int .u8 o.b, .int .u8 o.a]), .fn (.func 94) [] [.loc 0 0]] [.flat 5 [.int .u8 a]] (.val (.agg #[.int .u8 (shU o.r a u.r (255 - a)), .int .u8 (shU o.g a u.g (255 - a)), .int .u8 (shU o.b a u.b (255 - a)), .int .u8 (a + shU u.a (255 - a) 0 0)])) [.flat 5 [.int .u8 a]] := by
  refine dcalls_go (N := 25) 1 (by kernel_rfl) Try.func92 rfl rfl rfl (by simp only [fr0, Nat.zero_add, Nat.reduceAdd]; exact rfl) rfl fun s0 hs0 => ?_
  refine zaf ?_
  refine zai 3 (by simp only [holes, List.cons_append, List.nil_append]; exact rfl) ?_
  refine zad ?_
  refine zak rfl rfl rfl (op_boxa 1 rfl (ev1 rfl) rfl) (by simp only [upd, za, zaa]; exact rfl) ?_
  refine zak rfl rfl rfl (op_boxa 2 rfl (ev1 rfl) rfl) (by simp only [upd, za, zaa]; exact rfl) ?_
  refine zak rfl rfl rfl (zal 3 rfl zr152 rfl) (by simp only [upd, za, zaa]; exact rfl) ?_
  refine zae ?_
  refine zaf ?_
  refine zai 1 (by simp only [holes, List.cons_append, List.nil_append]; exact rfl) ?_
  refine zad ?_
  refine zak rfl rfl rfl (zal 4 rfl zr152 rfl) (by simp only [upd, za, zaa]; exact rfl) ?_
  refine zae ?_
  refine zaf ?_
  refine zaf ?_
  refine zad ?_
  refine zab rfl rfl rfl (zac (.inl rfl) (ev1 rfl)) ?_
  refine zae ?_
  refine dwp_block ?_
  refine dwp_dloop (dloop_step ?_)
  refine zaf ?_
  refine zad ?_
  refine zab rfl rfl rfl ((op_lss rfl (ev1 rfl) (ev1 rfl)).cast (d' := .val (.bool true)) (by kernel_rfl)) ?_
  refine zae ?_
  refine zaf ?_
  refine dwp_if_t rfl (rfl) ?_
  refine dwp_skip ?_
  refine zaf ?_
  refine dwp_block ?_
  refine zaf ?_
  refine zad ?_
  refine zab rfl rfl rfl (zac (.inl rfl) (ev1 rfl)) ?_
  refine zab rfl rfl rfl (zac (.inr rfl) (ev1 rfl)) ?_
  refine zae ?_
  refine dwp_draw [([], []), ([], []), ([], []), ([], []), ([], []), ([1], []), ([], []), ([], []), ([2], []), ([0], [0]), ([], []), ([4], [4])] mixed (by kernel_rfl) ?_
  refine zag rfl rfl (zac (.inl rfl) (ev1 rfl)) ?_
  refine zag rfl rfl (zac (.inl rfl) (ev1 rfl)) ?_
  refine zag rfl rfl (zac (.inl rfl) (ev1 rfl)) ?_
  refine zag rfl rfl (zac (.inl rfl) (ev1 rfl)) ?_
  refine zag rfl rfl (op_ixl rfl ar152 (ev1 rfl) (ev1 rfl) (fun _ => by omega)) ?_
  refine zag rfl rfl (op_ldo rfl tb5 (ev1 rfl) rfl rfl) ?_
  refine zag rfl rfl (zac (.inl rfl) (ev1 rfl)) ?_
  refine zag rfl rfl (op_ixl rfl ar152 (ev1 rfl) (ev1 rfl) (fun _ => by omega)) ?_
  refine zag rfl rfl (op_ldo rfl tb5 (ev1 rfl) rfl rfl) ?_
  refine lex_w rfl rfl (zaj [0] [] [] rfl (ev1 rfl) (ec (ev1 rfl) (ec (ev1 rfl) (ec (ev1 rfl) en))) rfl rfl (cov1_lt _ u.r o.r a (by decide) hu.1 ho.1 ha) rfl rfl rfl rfl rfl rfl) rfl (by simp only [upd, za, zaa]; exact rfl) ?_
  refine zag rfl rfl (op_ixl rfl ar152 (ev1 rfl) (ev1 rfl) (fun _ => by omega)) ?_
  refine lex_s rfl rfl (op_st1 rfl tb5 (ev1 rfl) (ev1 rfl) rfl (Nat.le_of_ble_eq_true rfl) rfl) rfl (by simp only [upd, za, zaa]; exact rfl) ?_
  refine lex_nil ?_
  refine zad ?_
  refine zab rfl rfl rfl ((op_add' rfl (ev1 rfl) (ev1 rfl) (fun _ => IntWalk.i64_in _ (by omega))).cast (d' := .val (.int .i64 1)) (by kernel_rfl)) ?_
  refine zab rfl rfl rfl (zac (.inl rfl) (ev1 rfl)) ?_
  refine zae ?_
  refine dloop_step ?_
  refine zaf ?_
  refine zad ?_
  refine zab rfl rfl rfl ((op_lss rfl (ev1 rfl) (ev1 rfl)).cast (d' := .val (.bool true)) (by kernel_rfl)) ?_
  refine zae ?_
  refine zaf ?_
  refine dwp_if_t rfl (rfl) ?_
  refine dwp_skip ?_
  refine zaf ?_
  refine dwp_block ?_
  refine zaf ?_
  refine zad ?_
  refine zab rfl rfl rfl (zac (.inl rfl) (ev1 rfl)) ?_
  refine zab rfl rfl rfl (zac (.inr rfl) (ev1 rfl)) ?_
  refine zae ?_
  refine dwp_draw [([], []), ([], []), ([], []), ([], []), ([], []), ([1], []), ([], []), ([], []), ([2], []), ([0], [0]), ([], []), ([4], [4])] mixed (by kernel_rfl) ?_
  refine zag rfl rfl (zac (.inl rfl) (ev1 rfl)) ?_
  refine zag rfl rfl (zac (.inl rfl) (ev1 rfl)) ?_
  refine zag rfl rfl (zac (.inl rfl) (ev1 rfl)) ?_
  refine zag rfl rfl (zac (.inl rfl) (ev1 rfl)) ?_
  refine zag rfl rfl (op_ixl rfl ar152 (ev1 rfl) (ev1 rfl) (fun _ => by omega)) ?_
  refine zag rfl rfl (op_ldo rfl tb5 (ev1 rfl) rfl rfl) ?_
  refine zag rfl rfl (zac (.inl rfl) (ev1 rfl)) ?_
  refine zag rfl rfl (op_ixl rfl ar152 (ev1 rfl) (ev1 rfl) (fun _ => by omega)) ?_
  refine zag rfl rfl (op_ldo rfl tb5 (ev1 rfl) rfl rfl) ?_
  refine lex_w rfl rfl (zaj [0] [] [] rfl (ev1 rfl) (ec (ev1 rfl) (ec (ev1 rfl) (ec (ev1 rfl) en))) rfl rfl (cov1_lt _ u.g o.g a (by decide) hu.2.1 ho.2.1 ha) rfl rfl rfl rfl rfl rfl) rfl (by simp only [upd, za, zaa]; exact rfl) ?_
  refine zag rfl rfl (op_ixl rfl ar152 (ev1 rfl) (ev1 rfl) (fun _ => by omega)) ?_
  refine lex_s rfl rfl (op_st1 rfl tb5 (ev1 rfl) (ev1 rfl) rfl (Nat.le_of_ble_eq_true rfl) rfl) rfl (by simp only [upd, za, zaa]; exact rfl) ?_
  refine lex_nil ?_
  refine zad ?_
  refine zab rfl rfl rfl ((op_add' rfl (ev1 rfl) (ev1 rfl) (fun _ => IntWalk.i64_in _ (by omega))).cast (d' := .val (.int .i64 2)) (by kernel_rfl)) ?_
  refine zab rfl rfl rfl (zac (.inl rfl) (ev1 rfl)) ?_
  refine zae ?_
  refine dloop_step ?_
  refine zaf ?_
  refine zad ?_
  refine zab rfl rfl rfl ((op_lss rfl (ev1 rfl) (ev1 rfl)).cast (d' := .val (.bool true)) (by kernel_rfl)) ?_
  refine zae ?_
  refine zaf ?_
  refine dwp_if_t rfl (rfl) ?_
  refine dwp_skip ?_
  refine zaf ?_
  refine dwp_block ?_
  refine zaf ?_
  refine zad ?_
  refine zab rfl rfl rfl (zac (.inl rfl) (ev1 rfl)) ?_
  refine zab rfl rfl rfl (zac (.inr rfl) (ev1 rfl)) ?_
  refine zae ?_
  refine dwp_draw [([], []), ([], []), ([], []), ([], []), ([], []), ([1], []), ([], []), ([], []), ([2], []), ([0], [0]), ([], []), ([4], [4])] mixed (by kernel_rfl) ?_
  refine zag rfl rfl (zac (.inl rfl) (ev1 rfl)) ?_
  refine zag rfl rfl (zac (.inl rfl) (ev1 rfl)) ?_
  refine zag rfl rfl (zac (.inl rfl) (ev1 rfl)) ?_
  refine zag rfl rfl (zac (.inl rfl) (ev1 rfl)) ?_
  refine zag rfl rfl (op_ixl rfl ar152 (ev1 rfl) (ev1 rfl) (fun _ => by omega)) ?_
  refine zag rfl rfl (op_ldo rfl tb5 (ev1 rfl) rfl rfl) ?_
  refine zag rfl rfl (zac (.inl rfl) (ev1 rfl)) ?_
  refine zag rfl rfl (op_ixl rfl ar152 (ev1 rfl) (ev1 rfl) (fun _ => by omega)) ?_
  refine zag rfl rfl (op_ldo rfl tb5 (ev1 rfl) rfl rfl) ?_
  refine lex_w rfl rfl (zaj [0] [] [] rfl (ev1 rfl) (ec (ev1 rfl) (ec (ev1 rfl) (ec (ev1 rfl) en))) rfl rfl (cov1_lt _ u.b o.b a (by decide) hu.2.2.1 ho.2.2.1 ha) rfl rfl rfl rfl rfl rfl) rfl (by simp only [upd, za, zaa]; exact rfl) ?_
  refine zag rfl rfl (op_ixl rfl ar152 (ev1 rfl) (ev1 rfl) (fun _ => by omega)) ?_
  refine lex_s rfl rfl (op_st1 rfl tb5 (ev1 rfl) (ev1 rfl) rfl (Nat.le_of_ble_eq_true rfl) rfl) rfl (by simp only [upd, za, zaa]; exact rfl) ?_
  refine lex_nil ?_
  refine zad ?_
  refine zab rfl rfl rfl ((op_add' rfl (ev1 rfl) (ev1 rfl) (fun _ => IntWalk.i64_in _ (by omega))).cast (d' := .val (.int .i64 3)) (by kernel_rfl)) ?_
  refine zab rfl rfl rfl (zac (.inl rfl) (ev1 rfl)) ?_
  refine zae ?_
  refine dloop_step ?_
  refine zaf ?_
  refine zad ?_
  refine zab rfl rfl rfl ((op_lss rfl (ev1 rfl) (ev1 rfl)).cast (d' := .val (.bool true)) (by kernel_rfl)) ?_
  refine zae ?_
  refine zaf ?_
  refine dwp_if_t rfl (rfl) ?_
  refine dwp_skip ?_
  refine zaf ?_
  refine dwp_block ?_
  refine zaf ?_
  refine zad ?_
  refine zab rfl rfl rfl (zac (.inl rfl) (ev1 rfl)) ?_
  refine zab rfl rfl rfl (zac (.inr rfl) (ev1 rfl)) ?_
  refine zae ?_
  refine dwp_draw [([], []), ([], []), ([], []), ([], []), ([], []), ([1], []), ([], []), ([], []), ([2], []), ([0], [0]), ([], []), ([4], [4])] mixed (by kernel_rfl) ?_
  refine zag rfl rfl (zac (.inl rfl) (ev1 rfl)) ?_
  refine zag rfl rfl (zac (.inl rfl) (ev1 rfl)) ?_
  refine zag rfl rfl (zac (.inl rfl) (ev1 rfl)) ?_
  refine zag rfl rfl (zac (.inl rfl) (ev1 rfl)) ?_
  refine zag rfl rfl (op_ixl rfl ar152 (ev1 rfl) (ev1 rfl) (fun _ => by omega)) ?_
  refine zag rfl rfl (op_ldo rfl tb5 (ev1 rfl) rfl rfl) ?_
  refine zag rfl rfl (zac (.inl rfl) (ev1 rfl)) ?_
  refine zag rfl rfl (op_ixl rfl ar152 (ev1 rfl) (ev1 rfl) (fun _ => by omega)) ?_
  refine zag rfl rfl (op_ldo rfl tb5 (ev1 rfl) rfl rfl) ?_
  refine lex_w rfl rfl (zaj [0] [] [] rfl (ev1 rfl) (ec (ev1 rfl) (ec (ev1 rfl) (ec (ev1 rfl) en))) rfl rfl (cov1_3 u.a o.a a hu.2.2.2 ha) rfl rfl rfl rfl rfl rfl) rfl (by simp only [upd, za, zaa]; exact rfl) ?_
  refine zag rfl rfl (op_ixl rfl ar152 (ev1 rfl) (ev1 rfl) (fun _ => by omega)) ?_
  refine lex_s rfl rfl (op_st1 rfl tb5 (ev1 rfl) (ev1 rfl) rfl (Nat.le_of_ble_eq_true rfl) rfl) rfl (by simp only [upd, za, zaa]; exact rfl) ?_
  refine lex_nil ?_
  refine zad ?_
  refine zab rfl rfl rfl ((op_add' rfl (ev1 rfl) (ev1 rfl) (fun _ => IntWalk.i64_in _ (by omega))).cast (d' := .val (.int .i64 4)) (by kernel_rfl)) ?_
  refine zab rfl rfl rfl (zac (.inl rfl) (ev1 rfl)) ?_
  refine zae ?_
  refine dloop_step ?_
  refine zaf ?_
  refine zad ?_
  refine zab rfl rfl rfl ((op_lss rfl (ev1 rfl) (ev1 rfl)).cast (d' := .val (.bool false)) (by kernel_rfl)) ?_
  refine zae ?_
  refine zaf ?_
  refine dwp_if_f rfl (rfl) ?_
  refine dwp_exit ?_
  refine zaf ?_
  refine zad ?_
  refine zab rfl rfl rfl (op_ldw rfl tb152 (ev1 rfl) rfl rfl) ?_
  refine walk_s rfl rfl (op_stwa rfl tb152 (ev1 rfl) (ev1 rfl) rfl rfl rfl rfl) (by simp only [upd, za, zaa]; exact rfl) ?_
  refine zae ?_
  refine dwp_ret ?_
  refine kend [0] (rs1 rfl (rv_w tb152 rfl rfl rfl)) rfl rfl ?_ ⟨rfl, trivial⟩
  rfl
set_option maxRecDepth 4000 in
set_option maxHeartbeats 1000000 in
theorem partsOf_d (u : C4) : DFun Try.prog 93 [.val (.agg #[.int .u8 u.r, .int .u8 u.g, .int .u8 u.b, .int .u8 u.a])] [] (.val (.agg #[.int .u8 u.r, .int .u8 u.g, .int .u8 u.b, .int .u8 u.a])) [] := by
  refine dcalls_go (N := 12) 0 (by kernel_rfl) Try.func93 rfl rfl rfl (by simp only [fr0, Nat.zero_add, Nat.reduceAdd]; exact rfl) rfl fun s0 hs0 => ?_
  refine zaf ?_
  refine zai 2 (by simp only [holes, List.cons_append, List.nil_append]; exact rfl) ?_
  refine zad ?_
  refine zak rfl rfl rfl (op_boxa 0 rfl (ev1 rfl) rfl) (by simp only [upd, za, zaa]; exact rfl) ?_
  refine zak rfl rfl rfl (zal 1 rfl zr154 rfl) (by simp only [upd, za, zaa]; exact rfl) ?_
  refine zae ?_
  refine zaf ?_
  refine zad ?_
  refine zab rfl rfl rfl (op_fa rfl fo38_0 (ev1 rfl)) ?_
  refine zab rfl rfl rfl (op_ldo rfl tb5 (ev1 rfl) rfl rfl) ?_
  refine zab rfl rfl rfl (op_fa rfl fo38_1 (ev1 rfl)) ?_
  refine zab rfl rfl rfl (op_ldo rfl tb5 (ev1 rfl) rfl rfl) ?_
  refine zab rfl rfl rfl (op_fa rfl fo38_2 (ev1 rfl)) ?_
  refine zab rfl rfl rfl (op_ldo rfl tb5 (ev1 rfl) rfl rfl) ?_
  refine zab rfl rfl rfl (op_fa rfl fo38_3 (ev1 rfl)) ?_
  refine zab rfl rfl rfl (op_ldo rfl tb5 (ev1 rfl) rfl rfl) ?_
  refine zab rfl rfl rfl ((op_bldaD (ps := [(0, .tmp 4), (1, .tmp 6), (2, .tmp 8), (3, .tmp 10)]) rfl ar154 zr154 (ec (ev1 rfl) (ec (ev1 rfl) (ec (ev1 rfl) (ec (ev1 rfl) en)))) rfl rfl rfl rfl).wk (by exact Wk.aggv [.int .u8 u.r, .int .u8 u.g, .int .u8 u.b, .int .u8 u.a] : Wk _ (.val (.agg #[.int .u8 u.r, .int .u8 u.g, .int .u8 u.b, .int .u8 u.a])))) ?_
  refine walk_s rfl rfl (op_stwa rfl tb154 (ev1 rfl) (ev1 rfl) rfl rfl rfl rfl) (by simp only [upd, za, zaa]; exact rfl) ?_
  refine zae ?_
  refine dwp_ret ?_
  refine kend0 (rs1 rfl (rv_w tb154 rfl rfl rfl)) rfl ?_
  rfl
set_option maxRecDepth 4000 in
set_option maxHeartbeats 1000000 in
theorem colorOf_d (a b c d : Int) : DFun Try.prog 91 [.val (.agg #[.int .u8 a, .int .u8 b, .int .u8 c, .int .u8 d])] [] (.val (.agg #[.int .u8 a, .int .u8 b, .int .u8 c, .int .u8 d])) [] := by
  refine dcalls_go (N := 12) 0 (by kernel_rfl) Try.func91 rfl rfl rfl (by simp only [fr0, Nat.zero_add, Nat.reduceAdd]; exact rfl) rfl fun s0 hs0 => ?_
  refine zaf ?_
  refine zai 2 (by simp only [holes, List.cons_append, List.nil_append]; exact rfl) ?_
  refine zad ?_
  refine zak rfl rfl rfl (op_boxa 0 rfl (ev1 rfl) rfl) (by simp only [upd, za, zaa]; exact rfl) ?_
  refine zak rfl rfl rfl (zal 1 rfl zr38 rfl) (by simp only [upd, za, zaa]; exact rfl) ?_
  refine zae ?_
  refine zaf ?_
  refine zad ?_
  refine zab rfl rfl rfl (op_ixl rfl ar154 (ev1 rfl) (ev1 rfl) (fun _ => by omega)) ?_
  refine zab rfl rfl rfl (op_ldo rfl tb5 (ev1 rfl) rfl rfl) ?_
  refine zab rfl rfl rfl (op_ixl rfl ar154 (ev1 rfl) (ev1 rfl) (fun _ => by omega)) ?_
  refine zab rfl rfl rfl (op_ldo rfl tb5 (ev1 rfl) rfl rfl) ?_
  refine zab rfl rfl rfl (op_ixl rfl ar154 (ev1 rfl) (ev1 rfl) (fun _ => by omega)) ?_
  refine zab rfl rfl rfl (op_ldo rfl tb5 (ev1 rfl) rfl rfl) ?_
  refine zab rfl rfl rfl (op_ixl rfl ar154 (ev1 rfl) (ev1 rfl) (fun _ => by omega)) ?_
  refine zab rfl rfl rfl (op_ldo rfl tb5 (ev1 rfl) rfl rfl) ?_
  refine zab rfl rfl rfl (op_build (ps := [(0, .tmp 4), (1, .tmp 6), (2, .tmp 8), (3, .tmp 10)]) rfl fl38 zr38 (vc (ev1 rfl) (vc (ev1 rfl) (vc (ev1 rfl) (vc (ev1 rfl) vn)))) rfl rfl) ?_
  refine walk_s rfl rfl (op_stwa rfl tb38 (ev1 rfl) (ev1 rfl) rfl rfl rfl rfl) (by simp only [upd, za, zaa]; exact rfl) ?_
  refine zae ?_
  refine dwp_ret ?_
  refine kend0 (rs1 rfl (rv_w tb38 rfl rfl rfl)) rfl ?_
  rfl
set_option maxRecDepth 4000 in
set_option maxHeartbeats 1000000 in
theorem cover_d (u o : C4) (hu : u.rng) (ho : o.rng) : DFun Try.prog 90 [.loc 0 0, .val (.agg #[.int .u8 o.r, .int .u8 o.g, .int .u8 o.b, .int .u8 o.a])] [.flat 148 (c4 u)] (.tup []) [.flat 148 (c4 (overC u o))] := by
  refine dcalls_go (N := 20) 1 (by kernel_rfl) Try.func90 rfl rfl rfl (by simp only [fr0, Nat.zero_add, Nat.reduceAdd]; exact rfl) rfl fun s0 hs0 => ?_
  refine zaf ?_
  refine zai 1 (by simp only [holes, List.cons_append, List.nil_append]; exact rfl) ?_
  refine zad ?_
  refine zak rfl rfl rfl (op_boxa 1 rfl (ev1 rfl) rfl) (by simp only [upd, za, zaa]; exact rfl) ?_
  refine zae ?_
  refine zaf ?_
  refine zai 1 (by simp only [holes, List.cons_append, List.nil_append]; exact rfl) ?_
  refine zad ?_
  refine zab rfl rfl rfl (op_fa rfl fo38_3 (ev1 rfl)) ?_
  refine zab rfl rfl rfl (op_ldo rfl tb5 (ev1 rfl) rfl rfl) ?_
  refine zak rfl rfl rfl (zal 2 rfl zr5 rfl) (by simp only [upd, za, zaa]; exact rfl) ?_
  refine walk_s rfl rfl (op_stwi rfl tb5 (ev1 rfl) (ev1 rfl) rfl) (by simp only [upd, za, zaa]; exact rfl) ?_
  refine zae ?_
  refine dwp_draw [([], []), ([], []), ([], []), ([], []), ([0], []), ([], []), ([1], []), ([], []), ([], []), ([2], [2]), ([], []), ([], []), ([], []), ([0], [0])] mixed (by kernel_rfl) ?_
  refine zag rfl rfl (zac (.inl rfl) (ev1 rfl)) ?_
  refine zag rfl rfl (zac (.inl rfl) (ev1 rfl)) ?_
  refine zag rfl rfl (op_nc rfl (ev1 rfl) (fun s v h => by cases h; exact ⟨_, rfl⟩)) ?_
  refine zag rfl rfl (op_fa rfl fo148_0 (ev1 rfl)) ?_
  refine zag rfl rfl (op_ldw rfl tb38 (ev1 rfl) rfl rfl) ?_
  refine zag rfl rfl (zaj [] [] [] rfl (ev1 rfl) (ec (ev1 rfl) en) rfl rfl (partsOf_d u) rfl rfl rfl rfl rfl rfl) ?_
  refine zag rfl rfl (op_ldw rfl tb38 (ev1 rfl) rfl rfl) ?_
  refine zag rfl rfl (zaj [] [] [] rfl (ev1 rfl) (ec (ev1 rfl) en) rfl rfl (partsOf_d o) rfl rfl rfl rfl rfl rfl) ?_
  refine zag rfl rfl (op_mkf rfl en (ec (ev1 rfl) en)) ?_
  refine lex_w rfl rfl (zaj [2] [] [] rfl (ev1 rfl) (ec (ev1 rfl) (ec (ev1 rfl) (ec (ev1 rfl) en))) rfl rfl (merged_d u o o.a ho.2.2.2 hu ho) rfl rfl rfl rfl rfl rfl) rfl (by simp only [upd, za, zaa]; exact rfl) ?_
  refine zag rfl rfl (zaj [] [] [] rfl (ev1 rfl) (ec (ev1 rfl) en) rfl rfl (colorOf_d _ _ _ _) rfl rfl rfl rfl rfl rfl) ?_
  refine zag rfl rfl (op_nc rfl (ev1 rfl) (fun s v h => by cases h; exact ⟨_, rfl⟩)) ?_
  refine zag rfl rfl (op_fa rfl fo148_0 (ev1 rfl)) ?_
  refine lex_s rfl rfl (op_stwa rfl tb38 (ev1 rfl) (ev1 rfl) rfl rfl rfl rfl) rfl (by simp only [upd, za, zaa]; exact rfl) ?_
  refine lex_nil ?_
  refine kend [0] (res_none rfl) rfl rfl ?_ ⟨rfl, trivial⟩
  rfl
set_option maxRecDepth 4000 in
set_option maxHeartbeats 1000000 in
theorem over_d (u o : C4) (hu : u.rng) (ho : o.rng) : DFun Try.prog 81 [.val (.agg (c4 u).toArray), .val (.agg (c4 o).toArray)] [] (.val (.agg (c4 (overC u o)).toArray)) [] := by
  refine dcalls_go (N := 12) 0 (by kernel_rfl) Try.func81 rfl rfl rfl (by simp only [fr0, Nat.zero_add, Nat.reduceAdd]; exact rfl) rfl fun s0 hs0 => ?_
  refine zaf ?_
  refine zai 3 (by simp only [holes, List.cons_append, List.nil_append]; exact rfl) ?_
  refine zad ?_
  refine zak rfl rfl rfl (op_boxa 0 rfl (ev1 rfl) rfl) (by simp only [upd, za, zaa]; exact rfl) ?_
  refine zak rfl rfl rfl (op_boxa 1 rfl (ev1 rfl) rfl) (by simp only [upd, za, zaa]; exact rfl) ?_
  refine zak rfl rfl rfl (zal 2 rfl zr38 rfl) (by simp only [upd, za, zaa]; exact rfl) ?_
  refine zae ?_
  refine zaf ?_
  refine zai 1 (by simp only [holes, List.cons_append, List.nil_append]; exact rfl) ?_
  refine zad ?_
  refine zab rfl rfl rfl (op_ldw rfl tb38 (ev1 rfl) rfl rfl) ?_
  refine zab rfl rfl rfl (op_build (ps := [(0, .tmp 6)]) rfl fl148 zr148 (vc (ev1 rfl) vn) rfl rfl) ?_
  refine zak rfl rfl rfl (zal 3 rfl zr148 rfl) (by simp only [upd, za, zaa]; exact rfl) ?_
  refine walk_s rfl rfl (op_stwa rfl tb148 (ev1 rfl) (ev1 rfl) rfl rfl rfl rfl) (by simp only [upd, za, zaa]; exact rfl) ?_
  refine zae ?_
  refine zaf ?_
  refine zad ?_
  refine zab rfl rfl rfl (op_ldw rfl tb38 (ev1 rfl) rfl rfl) ?_
  refine zak rfl rfl rfl (zaj [3] [] [] rfl (ev1 rfl) (ec (ev1 rfl) (ec (ev1 rfl) en)) rfl rfl (cover_d u o hu ho) rfl rfl rfl rfl rfl rfl) (by simp only [upd, za, zaa]; exact rfl) ?_
  refine zae ?_
  refine zaf ?_
  refine zad ?_
  refine zab rfl rfl rfl (op_fa rfl fo148_0 (ev1 rfl)) ?_
  refine zab rfl rfl rfl (op_ldw rfl tb38 (ev1 rfl) rfl rfl) ?_
  refine walk_s rfl rfl (op_stwa rfl tb38 (ev1 rfl) (ev1 rfl) rfl rfl rfl rfl) (by simp only [upd, za, zaa]; exact rfl) ?_
  refine zae ?_
  refine dwp_ret ?_
  refine kend0 (rs1 rfl (rv_w tb38 rfl rfl rfl)) rfl ?_
  rfl
end Go.Proofs.Ytadjbiccndaclaa
namespace Go.Proofs.Ytadjbiccndaclaa
set_option maxRecDepth 4000
set_option linter.unusedVariables false
set_option linter.unusedSimpArgs false
open Go.RowKit
theorem fl112 : fdL Try.prog 112 = some [(0, 1), (1, 1), (2, 4)] := by kernel_rfl
theorem tb97 : tyB Try.prog 97 = some (false, 1) := by kernel_rfl
theorem zr97 : zrC Try.prog 97 = some [.slice none 0 0] := by kernel_rfl
abbrev wr (n : Int) : Int := IntKind.i64.wrap n
abbrev rowDt (l : List Dt) : Mem := .arr 112 6 l.length (l.flatMap dtC)
def fmD (l : List Dt) : List Mem := List.replicate l.length .gone ++ [rowDt l]
theorem fmD_at (l : List Dt) : (fmD l)[l.length]? = some (rowDt l) := by
  unfold fmD
  rw [List.getElem?_append_right (by simp)]
  simp
theorem fmD_len (l : List Dt) : (fmD l).length = (l.length) + 1 := by simp [fmD]
theorem fmD_add (l : List Dt) (p : Dt) : (fmD l).set l.length .gone ++ [Mem.arr 112 6 (l.length + 1) (l.flatMap dtC ++ dtC p)] = fmD (l ++ [p]) := by
  unfold fmD
  rw [List.set_append_right _ _ (by simp), List.length_append, List.length_replicate, Nat.sub_self, show l.length + [p].length = l.length + 1 from rfl, List.replicate_succ']
  simp [rowDt, List.flatMap_append]
def ovP (w h : Int) (ts : List TL) (X Y : Int) (W : Nat) (l : List C4) (i : Nat) : List Dt :=
  if onS w h (wr (X + (i % W : Nat))) (wr (Y + (i / W : Nat))) = true then [⟨wr (X + (i % W : Nat)), wr (Y + (i / W : Nat)), overC (getC w ts (wr (X + (i % W : Nat))) (wr (Y + (i / W : Nat)))) (l.getD i zC4)⟩] else []
def ovL (w h : Int) (ts : List TL) (X Y : Int) (W : Nat) (l : List C4) (k : Nat) : List Dt := (List.range k).flatMap (ovP w h ts X Y W l)
theorem ovL_succ (w h : Int) (ts : List TL) (X Y : Int) (W : Nat) (l : List C4) (k : Nat) : ovL w h ts X Y W l (k + 1) = ovL w h ts X Y W l k ++ ovP w h ts X Y W l k := by
  unfold ovL
  rw [List.range_succ, List.flatMap_append, List.flatMap_cons, List.flatMap_nil, List.append_nil]
theorem ovP_len (w h : Int) (ts : List TL) (X Y : Int) (W : Nat) (l : List C4) (i : Nat) : (ovP w h ts X Y W l i).length ≤ 1 := by unfold ovP; split <;> simp
theorem ovL_len (w h : Int) (ts : List TL) (X Y : Int) (W : Nat) (l : List C4) : ∀ k, (ovL w h ts X Y W l k).length ≤ k
  | 0 => by simp [ovL]
  | k + 1 => by
    rw [ovL_succ, List.length_append]
    have := ovL_len w h ts X Y W l k
    have := ovP_len w h ts X Y W l k
    omega
theorem ovP_at {w h : Int} {ts : List TL} {X Y : Int} {W H : Nat} {l : List C4} (hs : StOk W H l) {x y : Nat} (hx : x < W) (hy : y < H) (hl : x < (rwL W l y).length) : ovP w h ts X Y W l (y * W + x) = if onS w h (wr (X + (x : Int))) (wr (Y + (y : Int))) = true then [⟨wr (X + (x : Int)), wr (Y + (y : Int)), overC (getC w ts (wr (X + (x : Int))) (wr (Y + (y : Int)))) (rwL W l y)[x]⟩] else [] := by
  rw [rwL_el hs hx hy hl]
  unfold ovP getS
  rw [ix_div hx, ix_mod hx]
def goY (h Y : Int) (n : Nat) : Bool := (List.range n).all fun j => decide (wr (Y + (j : Int)) < h * 8)
theorem goY_succ (h Y : Int) (n : Nat) : goY h Y (n + 1) = (goY h Y n && decide (wr (Y + (n : Int)) < h * 8)) := by
  unfold goY
  rw [List.range_succ, List.all_append]
  simp
theorem goY_no {h Y : Int} {n j : Nat} (hj : j < n) (hs : ¬ wr (Y + (j : Int)) < h * 8) : goY h Y n = false := by
  rw [← Bool.not_eq_true]
  intro h1
  have h2 := List.all_eq_true.1 h1 j (List.mem_range.2 hj)
  exact hs (by simpa using h2)
theorem ov_stop {w h : Int} {ts : List TL} {X Y : Int} {W : Nat} {l : List C4} {y : Nat} (hm : mayS w h = true) (hY : -9223372036854775808 ≤ Y ∧ Y ≤ 9223372036854775807) (hW : 1 ≤ W) (hy : y < 8) (hs : ¬ wr (Y + (y : Int)) < h * 8) : ∀ (N k : Nat), y * W ≤ k → k ≤ N → N ≤ 8 * W → ovL w h ts X Y W l N = ovL w h ts X Y W l k
  | 0, k, _, h2, _ => by rw [show k = 0 by omega]
  | N + 1, k, h1, h2, h3 => by
    by_cases e : k = N + 1
    · rw [e]
    · rw [ovL_succ, ov_stop hm hY hW hy hs N k h1 (by omega) (by omega)]
      have hq : y ≤ N / W := (Nat.le_div_iff_mul_le (by omega)).2 (by omega)
      have hq8 : N / W < 8 := Nat.div_lt_of_lt_mul (by rw [Nat.mul_comm]; omega)
      have hb := mayS_b hm
      have ho : onS w h (wr (X + (N % W : Nat))) (wr (Y + (N / W : Nat))) = false := by
        rw [onS_no]
        rintro ⟨_, h5⟩
        unfold wr at hs h5
        rw [IntKind.wrap_i64] at hs h5
        omega
      have : ovP w h ts X Y W l N = [] := by unfold ovP; rw [if_neg (by rw [ho]; decide)]
      rw [this, List.append_nil]
def tsRng (ts : List TL) : Prop := ∀ t ∈ ts, ∀ c ∈ t.l, c.rng
theorem zC4_rng : zC4.rng := by unfold C4.rng zC4; decide
theorem tl_rng {t : TL} (h : ∀ c ∈ t.l, c.rng) (q : Nat) : (t.get q).rng := by
  unfold TL.get
  rw [List.getD_eq_getElem?_getD]
  by_cases hq : q < t.l.length
  · rw [List.getElem?_eq_getElem hq]; exact h _ (List.getElem_mem hq)
  · rw [List.getElem?_eq_none (by omega)]; exact zC4_rng
theorem getC_rng {ts : List TL} (h : tsRng ts) (w x y : Int) : (getC w ts x y).rng := by
  unfold getC
  refine tl_rng (fun c hc => ?_) _
  rw [List.getD_eq_getElem?_getD] at hc
  by_cases hp : plN w x y < ts.length
  · rw [List.getElem?_eq_getElem hp] at hc; exact h _ (List.getElem_mem hp) c hc
  · rw [List.getElem?_eq_none (by omega)] at hc
    have : c ∈ zT.l := hc
    rw [show c = zC4 from List.eq_of_mem_replicate this]
    exact zC4_rng
noncomputable def ovrA : Code := rfA (pth [1, 0, 1, 1, 1, 0, 1, 0] (bodyOf Try.f57))
noncomputable def ovrB : Code := rfB (pth [1, 0, 1, 1, 1, 0, 1, 0] (bodyOf Try.f57))
set_option maxRecDepth 4000 in
set_option maxHeartbeats 1000000 in
theorem ovrRound_on (w h : Int) (ds : List D) (ts : List TL) (hr : RowOk ds ts) (hc : CvOk w h ts) (hg : tsRng ts) (X Y : Int) (x y : Nat) (c : C4) (hcr : c.rng) (l : List Dt) (hl : l.length ≤ 5000) (hgo : (wr (Y + (y : Int))) < h * 8) (ho : onS w h (wr (X + (x : Int))) (wr (Y + (y : Int))) = true) : DRound Try.prog 0 [.val (.agg #[.int .i64 (x : Int), .int .i64 (y : Int)]), .val (.agg (c4 c).toArray)] [.lp 56 [(4, .loc 1 0), (5, .loc 2 0), (7, .loc 3 0), (9, .loc 4 0)] #[23, 24] ovrA ovrB .ready none, .mix 62 [cvD w h ds], .flat 36 [.int .i64 X, .int .i64 Y], .mix 97 [.farr 5 (l).length], .flat 3 [.int .i64 (h * 8)], .fam (fmD (l))] true [.lp 56 [(4, .loc 1 0), (5, .loc 2 0), (7, .loc 3 0), (9, .loc 4 0)] #[23, 24] ovrA ovrB .ready none, .mix 62 [cvD w h ds], .flat 36 [.int .i64 X, .int .i64 Y], .mix 97 [.farr 5 (l ++ [(⟨(wr (X + (x : Int))), (wr (Y + (y : Int))), overC (getC w ts (wr (X + (x : Int))) (wr (Y + (y : Int)))) c⟩ : Dt)]).length], .flat 3 [.int .i64 (h * 8)], .fam (fmD (l ++ [(⟨(wr (X + (x : Int))), (wr (Y + (y : Int))), overC (getC w ts (wr (X + (x : Int))) (wr (Y + (y : Int)))) c⟩ : Dt)]))] := by
  refine dround_go 6 rfl rfl (by simp) rfl rfl fun s0 hs0 => ?_
  refine zaf ?_
  refine zai 1 (by simp only [holes, List.cons_append, List.nil_append]; exact rfl) ?_
  refine zad ?_
  refine zak rfl rfl rfl (zal 6 rfl zr36 rfl) (by simp only [upd, za, zaa]; exact rfl) ?_
  refine walk_s rfl rfl (op_stwa rfl tb36 (ev1 rfl) (ev1 rfl) rfl rfl rfl rfl) (by simp only [upd, za, zaa]; exact rfl) ?_
  refine zae ?_
  refine zai 1 (by simp only [holes, List.cons_append, List.nil_append]; exact rfl) ?_
  refine zad ?_
  refine zak rfl rfl rfl (zal 7 rfl zr38 rfl) (by simp only [upd, za, zaa]; exact rfl) ?_
  refine walk_s rfl rfl (op_stwa rfl tb38 (ev1 rfl) (ev1 rfl) rfl rfl rfl rfl) (by simp only [upd, za, zaa]; exact rfl) ?_
  refine zae ?_
  refine ⟨rfl, ?_⟩
  simp only [za, zaa]
  refine dwp_block ?_
  refine zaf ?_
  refine dwp_draw [([], []), ([2], []), ([], []), ([6], []), ([], []), ([], []), ([2], []), ([], []), ([6], []), ([], []), ([], []), ([], [])] mixed (by kernel_rfl) ?_
  refine zag rfl rfl (op_fa rfl fo36_0 (ev1 rfl)) ?_
  refine zag rfl rfl (op_ldo rfl tb3 (ev1 rfl) rfl rfl) ?_
  refine zag rfl rfl (op_fa rfl fo36_0 (ev1 rfl)) ?_
  refine zag rfl rfl (op_ldo rfl tb3 (ev1 rfl) rfl rfl) ?_
  refine zag rfl rfl (op_add rfl (ev1 rfl) (ev1 rfl)) ?_
  refine zag rfl rfl (op_fa rfl fo36_1 (ev1 rfl)) ?_
  refine zag rfl rfl (op_ldo rfl tb3 (ev1 rfl) rfl rfl) ?_
  refine zag rfl rfl (op_fa rfl fo36_1 (ev1 rfl)) ?_
  refine zag rfl rfl (op_ldo rfl tb3 (ev1 rfl) rfl rfl) ?_
  refine zag rfl rfl (op_add rfl (ev1 rfl) (ev1 rfl)) ?_
  refine zag rfl rfl (zac (.inr rfl) (ev1 rfl)) ?_
  refine zag rfl rfl (zac (.inr rfl) (ev1 rfl)) ?_
  refine lex_nil ?_
  refine zaf ?_
  refine zaf ?_
  refine zad ?_
  refine zab rfl rfl rfl (zac (.inl rfl) (ev1 rfl)) ?_
  refine zab rfl rfl rfl (op_ldo rfl tb3 (ev1 rfl) rfl rfl) ?_
  refine zab rfl rfl rfl (op_geq rfl (ev1 rfl) (ev1 rfl)) ?_
  refine zae ?_
  refine dwp_if_f rfl (by simp at hgo ⊢; omega) ?_
  refine dwp_skip ?_
  refine zaf ?_
  refine zai 1 (by simp only [holes, List.cons_append, List.nil_append]; exact rfl) ?_
  refine zad ?_
  refine zab rfl rfl rfl (op_ldm rfl tb62 (ev1 rfl) rfl rfl) ?_
  refine zab rfl rfl rfl (zac (.inl rfl) (ev1 rfl)) ?_
  refine zab rfl rfl rfl (zac (.inl rfl) (ev1 rfl)) ?_
  refine zab rfl rfl rfl (zaj [] [] [] rfl (ev1 rfl) (ec (ev1 rfl) (ec (ev1 rfl) (ec (ev1 rfl) en))) rfl rfl (at_d w h ds ts hr hc (wr (X + (x : Int))) (wr (Y + (y : Int)))) rfl rfl rfl rfl rfl rfl) ?_
  refine zab rfl rfl rfl (zac (.inl rfl) (ev1 rfl)) ?_
  refine zab rfl rfl rfl ((op_ext rfl (ev1 rfl) rfl).cast (d' := .val (.agg (c4 (getC w ts (wr (X + (x : Int))) (wr (Y + (y : Int))))).toArray)) (by rw [if_pos ho])) ?_
  refine zab rfl rfl rfl (op_ext rfl (ev1 rfl) rfl) ?_
  refine zak rfl rfl rfl (zal 8 rfl zr38 rfl) (by simp only [upd, za, zaa]; exact rfl) ?_
  refine walk_s rfl rfl (op_stwa rfl tb38 (ev1 rfl) (ev1 rfl) rfl rfl rfl rfl) (by simp only [upd, za, zaa]; exact rfl) ?_
  refine zab rfl rfl rfl (zac (.inr rfl) (ev1 rfl)) ?_
  refine zae ?_
  refine zaf ?_
  refine zad ?_
  refine zab rfl rfl rfl (zac (.inl rfl) (ev1 rfl)) ?_
  refine zae ?_
  refine dwp_if_t rfl (by simp [ho]) ?_
  refine zai 2 (by simp only [holes, List.cons_append, List.nil_append]; exact rfl) ?_
  refine dwp_draw [([3], []), ([], []), ([], []), ([8], []), ([7], []), ([], []), ([], []), ([], []), ([5, 9, 10], [5, 9, 10]), ([3], [3])] mixed (by kernel_rfl) ?_
  refine zag rfl rfl (op_ldm rfl tb97 (ev1 rfl) rfl rfl) ?_
  refine zag rfl rfl (zac (.inl rfl) (ev1 rfl)) ?_
  refine zag rfl rfl (zac (.inl rfl) (ev1 rfl)) ?_
  refine zag rfl rfl (op_ldw rfl tb38 (ev1 rfl) rfl rfl) ?_
  refine zag rfl rfl (op_ldw rfl tb38 (ev1 rfl) rfl rfl) ?_
  refine zag rfl rfl (zaj [] [] [] rfl (ev1 rfl) (ec (ev1 rfl) (ec (ev1 rfl) en)) rfl rfl (over_d (getC w ts (wr (X + (x : Int))) (wr (Y + (y : Int)))) c (getC_rng hg _ _ _) hcr) rfl rfl rfl rfl rfl rfl) ?_
  refine zag rfl rfl (op_build (ps := [(0, .tmp 47), (1, .tmp 48), (2, .tmp 51)]) rfl fl112 zr112 (vc (ev1 rfl) (vc (ev1 rfl) (vc (ev1 rfl) vn))) rfl rfl) ?_
  refine zag rfl rfl (op_bs (ps := [(0, .tmp 52)]) rfl sl97 zr112 rfl (vc (ev1 rfl) vn) rfl (by decide) (by decide)) ?_
  refine lex_w rfl rfl (op_appF (j1 := 9) (j2 := 10) rfl rfl sl97 zr112 rfl (ev1 rfl) (ev1 rfl) rfl (fmD_at l) rfl rfl rfl (fun _ => rfl) (fun _ => ⟨by omega, by omega⟩)) rfl (by simp only [upd, za, zaa]; exact rfl) ?_
  refine lex_s rfl rfl (op_stm rfl tb97 (ev1 rfl) (ev1 rfl) (fun s v h => by cases h <;> exact ⟨rfl, rfl⟩) rfl (by first | decide | exact Nat.le_of_ble_eq_true rfl | simp)) rfl (by simp only [upd, za, zaa]; exact rfl) ?_
  refine lex_nil ?_
  refine ⟨by first | rfl | assumption | simp_all, rfl, [0, 1, 2, 3, 4, 5], rfl, ⟨rfl, rfl, rfl, by rw [fmD_len, List.length_append]; rfl, rfl, by rw [← fmD_add]; rfl, trivial⟩⟩
set_option maxRecDepth 4000 in
set_option maxHeartbeats 1000000 in
theorem ovrRound_off (w h : Int) (ds : List D) (ts : List TL) (hr : RowOk ds ts) (hc : CvOk w h ts) (hg : tsRng ts) (X Y : Int) (x y : Nat) (c : C4) (hcr : c.rng) (l : List Dt) (hl : l.length ≤ 5000) (hgo : (wr (Y + (y : Int))) < h * 8) (ho : onS w h (wr (X + (x : Int))) (wr (Y + (y : Int))) = false) : DRound Try.prog 0 [.val (.agg #[.int .i64 (x : Int), .int .i64 (y : Int)]), .val (.agg (c4 c).toArray)] [.lp 56 [(4, .loc 1 0), (5, .loc 2 0), (7, .loc 3 0), (9, .loc 4 0)] #[23, 24] ovrA ovrB .ready none, .mix 62 [cvD w h ds], .flat 36 [.int .i64 X, .int .i64 Y], .mix 97 [.farr 5 (l).length], .flat 3 [.int .i64 (h * 8)], .fam (fmD (l))] true [.lp 56 [(4, .loc 1 0), (5, .loc 2 0), (7, .loc 3 0), (9, .loc 4 0)] #[23, 24] ovrA ovrB .ready none, .mix 62 [cvD w h ds], .flat 36 [.int .i64 X, .int .i64 Y], .mix 97 [.farr 5 (l).length], .flat 3 [.int .i64 (h * 8)], .fam (fmD (l))] := by
  refine dround_go 6 rfl rfl (by simp) rfl rfl fun s0 hs0 => ?_
  refine zaf ?_
  refine zai 1 (by simp only [holes, List.cons_append, List.nil_append]; exact rfl) ?_
  refine zad ?_
  refine zak rfl rfl rfl (zal 6 rfl zr36 rfl) (by simp only [upd, za, zaa]; exact rfl) ?_
  refine walk_s rfl rfl (op_stwa rfl tb36 (ev1 rfl) (ev1 rfl) rfl rfl rfl rfl) (by simp only [upd, za, zaa]; exact rfl) ?_
  refine zae ?_
  refine zai 1 (by simp only [holes, List.cons_append, List.nil_append]; exact rfl) ?_
  refine zad ?_
  refine zak rfl rfl rfl (zal 7 rfl zr38 rfl) (by simp only [upd, za, zaa]; exact rfl) ?_
  refine walk_s rfl rfl (op_stwa rfl tb38 (ev1 rfl) (ev1 rfl) rfl rfl rfl rfl) (by simp only [upd, za, zaa]; exact rfl) ?_
  refine zae ?_
  refine ⟨rfl, ?_⟩
  simp only [za, zaa]
  refine dwp_block ?_
  refine zaf ?_
  refine dwp_draw [([], []), ([2], []), ([], []), ([6], []), ([], []), ([], []), ([2], []), ([], []), ([6], []), ([], []), ([], []), ([], [])] mixed (by kernel_rfl) ?_
  refine zag rfl rfl (op_fa rfl fo36_0 (ev1 rfl)) ?_
  refine zag rfl rfl (op_ldo rfl tb3 (ev1 rfl) rfl rfl) ?_
  refine zag rfl rfl (op_fa rfl fo36_0 (ev1 rfl)) ?_
  refine zag rfl rfl (op_ldo rfl tb3 (ev1 rfl) rfl rfl) ?_
  refine zag rfl rfl (op_add rfl (ev1 rfl) (ev1 rfl)) ?_
  refine zag rfl rfl (op_fa rfl fo36_1 (ev1 rfl)) ?_
  refine zag rfl rfl (op_ldo rfl tb3 (ev1 rfl) rfl rfl) ?_
  refine zag rfl rfl (op_fa rfl fo36_1 (ev1 rfl)) ?_
  refine zag rfl rfl (op_ldo rfl tb3 (ev1 rfl) rfl rfl) ?_
  refine zag rfl rfl (op_add rfl (ev1 rfl) (ev1 rfl)) ?_
  refine zag rfl rfl (zac (.inr rfl) (ev1 rfl)) ?_
  refine zag rfl rfl (zac (.inr rfl) (ev1 rfl)) ?_
  refine lex_nil ?_
  refine zaf ?_
  refine zaf ?_
  refine zad ?_
  refine zab rfl rfl rfl (zac (.inl rfl) (ev1 rfl)) ?_
  refine zab rfl rfl rfl (op_ldo rfl tb3 (ev1 rfl) rfl rfl) ?_
  refine zab rfl rfl rfl (op_geq rfl (ev1 rfl) (ev1 rfl)) ?_
  refine zae ?_
  refine dwp_if_f rfl (by simp at hgo ⊢; omega) ?_
  refine dwp_skip ?_
  refine zaf ?_
  refine zai 1 (by simp only [holes, List.cons_append, List.nil_append]; exact rfl) ?_
  refine zad ?_
  refine zab rfl rfl rfl (op_ldm rfl tb62 (ev1 rfl) rfl rfl) ?_
  refine zab rfl rfl rfl (zac (.inl rfl) (ev1 rfl)) ?_
  refine zab rfl rfl rfl (zac (.inl rfl) (ev1 rfl)) ?_
  refine zab rfl rfl rfl (zaj [] [] [] rfl (ev1 rfl) (ec (ev1 rfl) (ec (ev1 rfl) (ec (ev1 rfl) en))) rfl rfl (at_d w h ds ts hr hc (wr (X + (x : Int))) (wr (Y + (y : Int)))) rfl rfl rfl rfl rfl rfl) ?_
  refine zab rfl rfl rfl (zac (.inl rfl) (ev1 rfl)) ?_
  refine zab rfl rfl rfl (op_ext rfl (ev1 rfl) rfl) ?_
  refine zab rfl rfl rfl (op_ext rfl (ev1 rfl) rfl) ?_
  refine zak rfl rfl rfl (zal 8 rfl zr38 rfl) (by simp only [upd, za, zaa]; exact rfl) ?_
  refine walk_s rfl rfl (op_stwa rfl tb38 (ev1 rfl) (ev1 rfl) rfl rfl rfl rfl) (by simp only [upd, za, zaa]; exact rfl) ?_
  refine zab rfl rfl rfl (zac (.inr rfl) (ev1 rfl)) ?_
  refine zae ?_
  refine zaf ?_
  refine zad ?_
  refine zab rfl rfl rfl (zac (.inl rfl) (ev1 rfl)) ?_
  refine zae ?_
  refine dwp_if_f rfl (by simp [ho]) ?_
  refine dwp_skip ?_
  refine ⟨by first | rfl | assumption | simp_all, rfl, [0, 1, 2, 3, 4, 5], rfl, ⟨rfl, rfl, rfl, rfl, rfl, rfl, trivial⟩⟩
set_option maxRecDepth 4000 in
set_option maxHeartbeats 1000000 in
theorem ovrRound_stop (w h : Int) (ds : List D) (ts : List TL) (hr : RowOk ds ts) (hc : CvOk w h ts) (hg : tsRng ts) (X Y : Int) (x y : Nat) (c : C4) (hcr : c.rng) (l : List Dt) (hl : l.length ≤ 5000) (hgo : ¬ (wr (Y + (y : Int))) < h * 8) : DRound Try.prog 0 [.val (.agg #[.int .i64 (x : Int), .int .i64 (y : Int)]), .val (.agg (c4 c).toArray)] [.lp 56 [(4, .loc 1 0), (5, .loc 2 0), (7, .loc 3 0), (9, .loc 4 0)] #[23, 24] ovrA ovrB .ready none, .mix 62 [cvD w h ds], .flat 36 [.int .i64 X, .int .i64 Y], .mix 97 [.farr 5 (l).length], .flat 3 [.int .i64 (h * 8)], .fam (fmD (l))] false [.lp 56 [(4, .loc 1 0), (5, .loc 2 0), (7, .loc 3 0), (9, .loc 4 0)] #[23, 24] ovrA ovrB .done (some (.exit 0)), .mix 62 [cvD w h ds], .flat 36 [.int .i64 X, .int .i64 Y], .mix 97 [.farr 5 (l).length], .flat 3 [.int .i64 (h * 8)], .fam (fmD (l))] := by
  refine dround_go 6 rfl rfl (by simp) rfl rfl fun s0 hs0 => ?_
  refine zaf ?_
  refine zai 1 (by simp only [holes, List.cons_append, List.nil_append]; exact rfl) ?_
  refine zad ?_
  refine zak rfl rfl rfl (zal 6 rfl zr36 rfl) (by simp only [upd, za, zaa]; exact rfl) ?_
  refine walk_s rfl rfl (op_stwa rfl tb36 (ev1 rfl) (ev1 rfl) rfl rfl rfl rfl) (by simp only [upd, za, zaa]; exact rfl) ?_
  refine zae ?_
  refine zai 1 (by simp only [holes, List.cons_append, List.nil_append]; exact rfl) ?_
  refine zad ?_
  refine zak rfl rfl rfl (zal 7 rfl zr38 rfl) (by simp only [upd, za, zaa]; exact rfl) ?_
  refine walk_s rfl rfl (op_stwa rfl tb38 (ev1 rfl) (ev1 rfl) rfl rfl rfl rfl) (by simp only [upd, za, zaa]; exact rfl) ?_
  refine zae ?_
  refine ⟨rfl, ?_⟩
  simp only [za, zaa]
  refine dwp_block ?_
  refine zaf ?_
  refine dwp_draw [([], []), ([2], []), ([], []), ([6], []), ([], []), ([], []), ([2], []), ([], []), ([6], []), ([], []), ([], []), ([], [])] mixed (by kernel_rfl) ?_
  refine zag rfl rfl (op_fa rfl fo36_0 (ev1 rfl)) ?_
  refine zag rfl rfl (op_ldo rfl tb3 (ev1 rfl) rfl rfl) ?_
  refine zag rfl rfl (op_fa rfl fo36_0 (ev1 rfl)) ?_
  refine zag rfl rfl (op_ldo rfl tb3 (ev1 rfl) rfl rfl) ?_
  refine zag rfl rfl (op_add rfl (ev1 rfl) (ev1 rfl)) ?_
  refine zag rfl rfl (op_fa rfl fo36_1 (ev1 rfl)) ?_
  refine zag rfl rfl (op_ldo rfl tb3 (ev1 rfl) rfl rfl) ?_
  refine zag rfl rfl (op_fa rfl fo36_1 (ev1 rfl)) ?_
  refine zag rfl rfl (op_ldo rfl tb3 (ev1 rfl) rfl rfl) ?_
  refine zag rfl rfl (op_add rfl (ev1 rfl) (ev1 rfl)) ?_
  refine zag rfl rfl (zac (.inr rfl) (ev1 rfl)) ?_
  refine zag rfl rfl (zac (.inr rfl) (ev1 rfl)) ?_
  refine lex_nil ?_
  refine zaf ?_
  refine zaf ?_
  refine zad ?_
  refine zab rfl rfl rfl (zac (.inl rfl) (ev1 rfl)) ?_
  refine zab rfl rfl rfl (op_ldo rfl tb3 (ev1 rfl) rfl rfl) ?_
  refine zab rfl rfl rfl (op_geq rfl (ev1 rfl) (ev1 rfl)) ?_
  refine zae ?_
  refine dwp_if_t rfl (by simp at hgo ⊢; omega) ?_
  refine dwp_exit ?_
  refine ⟨by first | rfl | assumption | simp_all, rfl, [0, 1, 2, 3, 4, 5], rfl, ⟨rfl, rfl, rfl, rfl, rfl, rfl, trivial⟩⟩
set_option maxRecDepth 4000 in
set_option maxHeartbeats 1000000 in
theorem px_over (w h : Int) (ds : List D) (ts : List TL) (hr : RowOk ds ts) (hc : CvOk w h ts) (hg : tsRng ts) (X Y : Int) (hY : -9223372036854775808 ≤ Y ∧ Y ≤ 9223372036854775807) (W H : Nat) (l : List C4) (hs : StOk W H l) (hlr : ∀ c ∈ l, c.rng) : DFun Try.prog 71 [.yld 0, .loc 6 0] [.lp 56 [(4, .loc 1 0), (5, .loc 2 0), (7, .loc 3 0), (9, .loc 4 0)] #[23, 24] ovrA ovrB .ready none, .mix 62 [cvD w h ds], .flat 36 [.int .i64 X, .int .i64 Y], .mix 97 [.farr 5 (([] : List Dt)).length], .flat 3 [.int .i64 (h * 8)], .fam (fmD (([] : List Dt))), .mix 83 [.val (.int .i64 (W : Int)), .val (.int .i64 (H : Int)), .slf 4 l.length (l.flatMap c4)]] (.tup []) [.lp 56 [(4, .loc 1 0), (5, .loc 2 0), (7, .loc 3 0), (9, .loc 4 0)] #[23, 24] ovrA ovrB (rst (goY h Y H)) (rpe (.exit 0) (goY h Y H)), .mix 62 [cvD w h ds], .flat 36 [.int .i64 X, .int .i64 Y], .mix 97 [.farr 5 (ovL w h ts X Y W l (W * H)).length], .flat 3 [.int .i64 (h * 8)], .fam (fmD (ovL w h ts X Y W l (W * H))), .mix 83 [.val (.int .i64 (W : Int)), .val (.int .i64 (H : Int)), .slf 4 l.length (l.flatMap c4)]] := by
  have hln := hs.len
  have hmw := hs.w
  have hmh := hs.h
  have hle := hs.le
  have hb := mayS_b hc.may
  refine dcalls_go (N := 30) 7 (by kernel_rfl) Try.func71 rfl rfl rfl (by simp only [fr0, Nat.zero_add, Nat.reduceAdd]; exact rfl) rfl fun s0 hs0 => ?_
  refine zaf ?_
  refine zad ?_
  refine zab rfl rfl rfl (op_fa rfl fo83_0 (ev1 rfl)) ?_
  refine zab rfl rfl rfl (op_fa rfl fo24_1 (ev1 rfl)) ?_
  refine zab rfl rfl rfl (op_ldm rfl tb3 (ev1 rfl) rfl rfl) ?_
  refine zab rfl rfl rfl (zac (.inl rfl) (ev1 rfl)) ?_
  refine zae ?_
  refine dwp_block ?_
  refine dwp_loopS ⟨hs0, rfl⟩ (α := Nat) (fun y => [(9, .val (.int .i64 (y : Int)))]) [(0, _), (1, _), (8, _)] (fun y => [(3, .mix 97 [.farr 5 (ovL w h ts X Y W l (y * W)).length]), (5, .fam (fmD (ovL w h ts X Y W l (y * W))))]) [_, _, _, .hole, _, .hole, _] (fun y => y ≤ H ∧ goY h Y y = true) (fun y => H - y) 0 [0, 1, 2, 3, 4, 5, 6] (⟨Nat.zero_le _, rfl⟩) rfl ⟨rfl, rfl, rfl, trivial⟩ ⟨rfl, trivial⟩ ⟨rfl, rfl, rfl, by rw [Nat.zero_mul]; rfl, rfl, by rw [Nat.zero_mul]; rfl, rfl, trivial⟩ ?_
  intro y hx
  simp only [upd, za, zaa, List.cons_append, List.nil_append]
  obtain ⟨hy0, hgy⟩ := hx
  refine zaf ?_
  refine zad ?_
  refine zab rfl rfl rfl (op_lss rfl (ev1 rfl) (ev1 rfl)) ?_
  refine zae ?_
  refine zaf ?_
  refine dwp_cond rfl (fun hcy => ?_) (fun hcy => ?_)
  · try simp only [decide_eq_true_eq, decide_eq_false_iff_not, beq_iff_eq, bne_iff_ne, beq_eq_false_iff_ne, bne_eq_false_iff_eq, Bool.not_eq_true', Bool.not_eq_false', Bool.and_eq_true, Bool.or_eq_true, Bool.or_eq_false_iff, ne_eq, Decidable.not_not, Int.not_lt, Int.not_le] at hcy
    refine dwp_skip ?_
    refine zaf ?_
    refine dwp_block ?_
    refine zaf ?_
    refine zad ?_
    refine zab rfl rfl rfl (zac (.inl rfl) (ev1 rfl)) ?_
    refine zab rfl rfl rfl (zac (.inr rfl) (ev1 rfl)) ?_
    refine zae ?_
    refine zaf ?_
    have hy : y < H := by omega
    have hrl := rwL_len hs hy
    refine zad ?_
    refine zab rfl rfl rfl (op_ldmw rfl tb83 (ev1 rfl) rfl rfl) ?_
    refine zab rfl rfl rfl (zac (.inl rfl) (ev1 rfl)) ?_
    refine zab rfl rfl rfl (zaj [] [] [] rfl (ev1 rfl) (ec (ev1 rfl) (ec (ev1 rfl) en)) rfl rfl (row_d W H l hs y hy) rfl rfl rfl rfl rfl rfl) ?_
    refine zab rfl rfl rfl (op_len rfl sl22 (ev1 rfl)) ?_
    refine zab rfl rfl rfl (zac (.inl rfl) (ev1 rfl)) ?_
    refine zae ?_
    refine dwp_block ?_
    refine dwp_loopS ⟨hs0, rfl⟩ (α := Nat) (fun x => [(16, .val (.int .i64 (x : Int)))]) [(0, _), (1, _), (3, _), (8, _), (9, _), (14, _), (15, _)] (fun x => [(3, .mix 97 [.farr 5 (ovL w h ts X Y W l (y * W + x)).length]), (5, .fam (fmD (ovL w h ts X Y W l (y * W + x))))]) [_, _, _, .hole, _, .hole, _] (fun x => x ≤ W ∧ (0 < x → (wr (Y + (y : Int))) < h * 8)) (fun x => W - x) 0 [0, 1, 2, 3, 4, 5, 6] (⟨Nat.zero_le _, fun h => by omega⟩) rfl ⟨rfl, rfl, rfl, rfl, rfl, rfl, rfl, trivial⟩ ⟨rfl, trivial⟩ ⟨rfl, rfl, rfl, by rw [Nat.add_zero]; rfl, rfl, by rw [Nat.add_zero]; rfl, rfl, trivial⟩ ?_
    intro x hx
    simp only [upd, za, zaa, List.cons_append, List.nil_append]
    obtain ⟨hx0, hgx⟩ := hx
    have hol := ovL_len w h ts X Y W l (y * W + x)
    refine zaf ?_
    refine zad ?_
    refine zab rfl rfl rfl (op_lss rfl (ev1 rfl) (ev1 rfl)) ?_
    refine zae ?_
    refine zaf ?_
    refine dwp_cond rfl (fun hcx => ?_) (fun hcx => ?_)
    · try simp only [decide_eq_true_eq, decide_eq_false_iff_not, beq_iff_eq, bne_iff_ne, beq_eq_false_iff_ne, bne_eq_false_iff_eq, Bool.not_eq_true', Bool.not_eq_false', Bool.and_eq_true, Bool.or_eq_true, Bool.or_eq_false_iff, ne_eq, Decidable.not_not, Int.not_lt, Int.not_le] at hcx
      refine dwp_skip ?_
      refine zaf ?_
      refine dwp_block ?_
      refine zaf ?_
      have hx : x < W := by omega
      have hxl : x < (rwL W l y).length := by omega
      have hij := ix_lt hx hy
      have hw64 := mul_le64 hmw.2 hmh.2
      have hop := ovP_at (w := w) (h := h) (ts := ts) (X := X) (Y := Y) hs hx hy hxl
      have hcr : ((rwL W l y)[x]).rng := by
        obtain ⟨h2, e⟩ := rw_el hs hx hy hxl
        rw [e]
        exact hlr _ (List.getElem_mem _)
      refine zai 1 (by simp only [holes, List.cons_append, List.nil_append]; exact rfl) ?_
      refine zad ?_
      refine zab rfl rfl rfl (zac (.inl rfl) (ev1 rfl)) ?_
      refine zab rfl rfl rfl (op_ixsr (j := x) rfl sl22 (ev1 rfl) (ev1 rfl) (fun _ => rfl) (by decide) (by omega) (by omega)) ?_
      refine zab rfl rfl rfl (op_ldwd rfl tb38 (ev1 rfl) rfl) ?_
      refine zak rfl rfl rfl (zal 7 rfl zr38 rfl) (by simp only [upd, za, zaa]; exact rfl) ?_
      refine zab rfl rfl rfl (zac (.inr rfl) (ev1 rfl)) ?_
      refine walk_s rfl rfl (op_stwa rfl tb38 (ev1 rfl) (ev1 rfl) rfl rfl rfl rfl) (by simp only [upd, za, zaa]; exact rfl) ?_
      refine zae ?_
      refine zaf ?_
      by_cases hgo : (wr (Y + (y : Int))) < h * 8
      · by_cases hon : onS w h (wr (X + (x : Int))) (wr (Y + (y : Int))) = true
        · refine zad ?_
          refine zab rfl rfl rfl (zac (.inl rfl) (ev1 rfl)) ?_
          refine zab rfl rfl rfl (zac (.inl rfl) (ev1 rfl)) ?_
          refine zab rfl rfl rfl (zac (.inl rfl) (ev1 rfl)) ?_
          refine zab rfl rfl rfl (op_build (ps := [(0, .tmp 22), (1, .tmp 23)]) rfl fl36 zr36 (vc (ev1 rfl) (vc (ev1 rfl) vn)) rfl rfl) ?_
          refine zab rfl rfl rfl (op_ldw rfl tb38 (ev1 rfl) rfl rfl) ?_
          refine zak rfl rfl rfl (op_y (i := 0) [0, 1, 2, 3, 4, 5] [] [] rfl (ev1 rfl) (ec (ev1 rfl) (ec (ev1 rfl) en)) rfl rfl rfl (ovrRound_on w h ds ts hr hc hg X Y x y _ hcr _ (by omega) hgo hon) rfl rfl rfl rfl rfl) (by simp only [upd, za, zaa]; exact rfl) ?_
          refine zab rfl rfl rfl (op_not rfl (ev1 rfl)) ?_
          refine zae ?_
          refine dwp_if_f rfl (rfl) ?_
          refine dwp_skip ?_
          refine zad ?_
          refine zab rfl rfl rfl (op_add' rfl (ev1 rfl) (ev1 rfl) (fun _ => IntWalk.i64_in _ (by omega))) ?_
          refine zab rfl rfl rfl (zac (.inl rfl) (ev1 rfl)) ?_
          refine zae ?_
          refine ⟨x + 1, [0, 1, 2, 3, 4, 5, 6], ⟨by omega, fun _ => hgo⟩, by simp only []; omega, rfl, ⟨rfl, rfl, rfl, rfl, rfl, rfl, rfl, rfl, trivial⟩, ⟨rfl, rfl, rfl, by rw [← Nat.add_assoc, ovL_succ, hop, if_pos hon]; rfl, rfl, by rw [← Nat.add_assoc, ovL_succ, hop, if_pos hon]; rfl, rfl, trivial⟩⟩
        · refine zad ?_
          refine zab rfl rfl rfl (zac (.inl rfl) (ev1 rfl)) ?_
          refine zab rfl rfl rfl (zac (.inl rfl) (ev1 rfl)) ?_
          refine zab rfl rfl rfl (zac (.inl rfl) (ev1 rfl)) ?_
          refine zab rfl rfl rfl (op_build (ps := [(0, .tmp 22), (1, .tmp 23)]) rfl fl36 zr36 (vc (ev1 rfl) (vc (ev1 rfl) vn)) rfl rfl) ?_
          refine zab rfl rfl rfl (op_ldw rfl tb38 (ev1 rfl) rfl rfl) ?_
          refine zak rfl rfl rfl (op_y (i := 0) [0, 1, 2, 3, 4, 5] [] [] rfl (ev1 rfl) (ec (ev1 rfl) (ec (ev1 rfl) en)) rfl rfl rfl (ovrRound_off w h ds ts hr hc hg X Y x y _ hcr _ (by omega) hgo (by simpa using hon)) rfl rfl rfl rfl rfl) (by simp only [upd, za, zaa]; exact rfl) ?_
          refine zab rfl rfl rfl (op_not rfl (ev1 rfl)) ?_
          refine zae ?_
          refine dwp_if_f rfl (rfl) ?_
          refine dwp_skip ?_
          refine zad ?_
          refine zab rfl rfl rfl (op_add' rfl (ev1 rfl) (ev1 rfl) (fun _ => IntWalk.i64_in _ (by omega))) ?_
          refine zab rfl rfl rfl (zac (.inl rfl) (ev1 rfl)) ?_
          refine zae ?_
          refine ⟨x + 1, [0, 1, 2, 3, 4, 5, 6], ⟨by omega, fun _ => hgo⟩, by simp only []; omega, rfl, ⟨rfl, rfl, rfl, rfl, rfl, rfl, rfl, rfl, trivial⟩, ⟨rfl, rfl, rfl, by rw [← Nat.add_assoc, ovL_succ, hop, if_neg hon, List.append_nil]; rfl, rfl, by rw [← Nat.add_assoc, ovL_succ, hop, if_neg hon, List.append_nil]; rfl, rfl, trivial⟩⟩
      · refine zad ?_
        refine zab rfl rfl rfl (zac (.inl rfl) (ev1 rfl)) ?_
        refine zab rfl rfl rfl (zac (.inl rfl) (ev1 rfl)) ?_
        refine zab rfl rfl rfl (zac (.inl rfl) (ev1 rfl)) ?_
        refine zab rfl rfl rfl (op_build (ps := [(0, .tmp 22), (1, .tmp 23)]) rfl fl36 zr36 (vc (ev1 rfl) (vc (ev1 rfl) vn)) rfl rfl) ?_
        refine zab rfl rfl rfl (op_ldw rfl tb38 (ev1 rfl) rfl rfl) ?_
        refine zak rfl rfl rfl (op_y (i := 0) [0, 1, 2, 3, 4, 5] [] [] rfl (ev1 rfl) (ec (ev1 rfl) (ec (ev1 rfl) en)) rfl rfl rfl (ovrRound_stop w h ds ts hr hc hg X Y x y _ hcr _ (by omega) hgo) rfl rfl rfl rfl rfl) (by simp only [upd, za, zaa]; exact rfl) ?_
        refine zab rfl rfl rfl (op_not rfl (ev1 rfl)) ?_
        refine zae ?_
        refine dwp_if_t rfl (rfl) ?_
        refine dwp_ret ?_
        have e2 : goY h Y H = false := goY_no hy hgo
        have e3 := ov_stop (ts := ts) (X := X) (l := l) hc.may hY hmw.1 (Nat.lt_of_lt_of_le hy hmh.2) hgo (W * H) (y * W + x) (by omega) (by omega) (by rw [Nat.mul_comm W H]; exact Nat.mul_le_mul_right _ hmh.2)
        rw [e2, e3]
        refine kend [0, 1, 2, 3, 4, 5, 6] (res_none rfl) rfl rfl ?_ ⟨rfl, rfl, rfl, rfl, rfl, rfl, rfl, trivial⟩
        rfl
    · try simp only [decide_eq_true_eq, decide_eq_false_iff_not, beq_iff_eq, bne_iff_ne, beq_eq_false_iff_ne, bne_eq_false_iff_eq, Bool.not_eq_true', Bool.not_eq_false', Bool.and_eq_true, Bool.or_eq_true, Bool.or_eq_false_iff, ne_eq, Decidable.not_not, Int.not_lt, Int.not_le] at hcx
      refine dwp_exit ?_
      refine zad ?_
      refine zab rfl rfl rfl (op_add' rfl (ev1 rfl) (ev1 rfl) (fun _ => IntWalk.i64_in _ (by omega))) ?_
      refine zab rfl rfl rfl (zac (.inl rfl) (ev1 rfl)) ?_
      refine zae ?_
      obtain rfl : x = W := by omega
      refine ⟨y + 1, [0, 1, 2, 3, 4, 5, 6], ⟨by omega, by rw [goY_succ, hgy]; simpa using hgx (by omega)⟩, by simp only []; omega, rfl, ⟨rfl, rfl, rfl, rfl, trivial⟩, ⟨rfl, rfl, rfl, by rw [Nat.succ_mul]; rfl, rfl, by rw [Nat.succ_mul]; rfl, rfl, trivial⟩⟩
  · try simp only [decide_eq_true_eq, decide_eq_false_iff_not, beq_iff_eq, bne_iff_ne, beq_eq_false_iff_ne, bne_eq_false_iff_eq, Bool.not_eq_true', Bool.not_eq_false', Bool.and_eq_true, Bool.or_eq_true, Bool.or_eq_false_iff, ne_eq, Decidable.not_not, Int.not_lt, Int.not_le] at hcy
    refine dwp_exit ?_
    obtain rfl : y = H := by omega
    rw [hgy, Nat.mul_comm W y]
    refine kend [0, 1, 2, 3, 4, 5, 6] (res_none rfl) rfl rfl ?_ ⟨rfl, rfl, rfl, rfl, rfl, rfl, rfl, trivial⟩
    rfl
set_option maxRecDepth 4000 in
set_option maxHeartbeats 1000000 in
theorem over_l (w h : Int) (ds : List D) (ts : List TL) (hr : RowOk ds ts) (hc : CvOk w h ts) (hg : tsRng ts) (X Y : Int) (hY : -9223372036854775808 ≤ Y ∧ Y ≤ 9223372036854775807) (W H : Nat) (l : List C4) (hs : StOk W H l) (hlr : ∀ c ∈ l, c.rng) : DFun Try.prog 57 [.agg [.val (.int .i64 (W : Int)), .val (.int .i64 (H : Int)), .slf 4 l.length (l.flatMap c4)], cvD w h ds, .val (.agg #[.int .i64 X, .int .i64 Y])] [] (.slf 6 (ovL w h ts X Y W l (W * H)).length ((ovL w h ts X Y W l (W * H)).flatMap dtC)) [] := by
  refine dcalls_go (N := 56) 0 (by kernel_rfl) Try.func57 rfl rfl rfl (by simp only [fr0, Nat.zero_add, Nat.reduceAdd]; exact rfl) rfl fun s0 hs0 => ?_
  refine zaf ?_
  refine zai 3 (by simp only [holes, List.cons_append, List.nil_append]; exact rfl) ?_
  refine zad ?_
  refine zak rfl rfl rfl (op_boxam 0 rfl (ev1 rfl) rfl) (by simp only [upd, za, zaa]; exact rfl) ?_
  refine zak rfl rfl rfl (op_boxm 1 rfl (ev1 rfl) (fun s v h => by cases h <;> rfl) rfl) (by simp only [upd, za, zaa]; exact rfl) ?_
  refine zak rfl rfl rfl (op_boxa 2 rfl (ev1 rfl) rfl) (by simp only [upd, za, zaa]; exact rfl) ?_
  refine zab rfl rfl rfl (zac (.inr rfl) (ev1 rfl)) ?_
  refine zae ?_
  refine dwp_scope ?_
  refine zaf ?_
  refine zai 1 (by simp only [holes, List.cons_append, List.nil_append]; exact rfl) ?_
  refine zad ?_
  refine zak rfl rfl rfl (zal 3 rfl zr97 rfl) (by simp only [upd, za, zaa]; exact rfl) ?_
  refine zae ?_
  refine zaf ?_
  refine zai 1 (by simp only [holes, List.cons_append, List.nil_append]; exact rfl) ?_
  refine zad ?_
  refine zab rfl rfl rfl (op_ldm rfl tb62 (ev1 rfl) rfl rfl) ?_
  refine zab rfl rfl rfl (zaj [] [] [] rfl (ev1 rfl) (ec (ev1 rfl) en) rfl rfl (size_d w h ds ts hr hc) rfl rfl rfl rfl rfl rfl) ?_
  refine zab rfl rfl rfl (zac (.inl rfl) (ev1 rfl)) ?_
  refine zab rfl rfl rfl (op_ext rfl (ev1 rfl) rfl) ?_
  refine zab rfl rfl rfl (op_ext rfl (ev1 rfl) rfl) ?_
  refine zak rfl rfl rfl (zal 4 rfl zr3 rfl) (by simp only [upd, za, zaa]; exact rfl) ?_
  refine zab rfl rfl rfl (zac (.inr rfl) (ev1 rfl)) ?_
  refine walk_s rfl rfl (op_stwi rfl tb3 (ev1 rfl) (ev1 rfl) rfl) (by simp only [upd, za, zaa]; exact rfl) ?_
  refine zae ?_
  refine zaf ?_
  refine dwp_label ?_
  refine zaf ?_
  refine zaf ?_
  refine zai 1 (by simp only [holes, List.cons_append, List.nil_append]; exact rfl) ?_
  refine zad ?_
  refine zab rfl rfl rfl (op_ldmw rfl tb83 (ev1 rfl) rfl rfl) ?_
  refine zak rfl rfl rfl (zaj [] [] [5] rfl (ev1 rfl) (ec (ev1 rfl) en) rfl rfl (pixels_d W H l) rfl rfl rfl rfl rfl rfl) (by simp only [upd, za, zaa]; exact rfl) ?_
  refine zae ?_
  refine dwp_block ?_
  refine dwp_adoptm 3 112 6 rfl (by simp only [List.cons_append, List.nil_append, za, zaa, List.length_cons, List.length_nil, Nat.zero_add, Nat.reduceAdd]; exact rfl) ?_
  refine dwp_hole ?_
  refine dwp_fam 7 rfl (by simp only [List.cons_append, List.nil_append, za, zaa]; exact rfl) ?_
  refine dwp_absc 3 0 7 rfl rfl rfl rfl (by simp only [List.cons_append, List.nil_append, za, zaa]; exact rfl) ?_
  refine dwp_hole ?_
  simp only [List.cons_append, List.nil_append]
  refine dwp_rf (FL := [(4, _), (5, _), (7, _), (9, _)]) (st := (rst (goY h Y H))) (pe := (rpe (.exit 0) (goY h Y H))) [8, 1, 2, 3, 4, 7, 5] [] [] 8 rfl rfl (ev1 rfl) rfl (subF_lk ⟨rfl, rfl, rfl, rfl, trivial⟩) rfl rfl rfl (px_over w h ds ts hr hc hg X Y hY W H l hs hlr) rfl rfl rfl rfl rfl rfl rfl (rst_busy _) (fun e => ?_) (fun c e => ?_)
  · simp only [upd, za, zaa]
    refine zaf ?_
    refine zad ?_
    refine zab rfl rfl rfl (op_ldm rfl tb97 (ev1 rfl) rfl rfl) ?_
    refine zab rfl rfl rfl (zac (.inr rfl) (ev1 rfl)) ?_
    refine zae ?_
    refine dwp_hole ?_
    refine dwp_rel 6 7 (j := 9) rfl rfl (fmD_at _) rfl (by simp only [List.cons_append, List.nil_append, za, zaa]; exact rfl) ?_
    refine dwp_giveA 6 rfl rfl (by simp only [List.cons_append, List.nil_append, za, zaa]; exact rfl) ?_
    refine dwp_ret ?_
    refine kend0 (rs1 rfl (rv_t rfl)) rfl ?_
    rfl
  · obtain ⟨e1, rfl⟩ : goY h Y H = false ∧ c = .exit 0 := by
      cases h : goY h Y H <;> simp_all [rpe]
    simp only [upd, za, zaa]
    refine dwp_exit ?_
    refine zaf ?_
    refine zad ?_
    refine zab rfl rfl rfl (op_ldm rfl tb97 (ev1 rfl) rfl rfl) ?_
    refine zab rfl rfl rfl (zac (.inr rfl) (ev1 rfl)) ?_
    refine zae ?_
    refine dwp_hole ?_
    refine dwp_rel 6 7 (j := 9) rfl rfl (fmD_at _) rfl (by simp only [List.cons_append, List.nil_append, za, zaa]; exact rfl) ?_
    refine dwp_giveA 6 rfl rfl (by simp only [List.cons_append, List.nil_append, za, zaa]; exact rfl) ?_
    refine dwp_ret ?_
    refine kend0 (rs1 rfl (rv_t rfl)) rfl ?_
    rfl
end Go.Proofs.Ytadjbiccndaclaa
namespace Go.Proofs.Ytadjbiccndaclaa
set_option maxRecDepth 4000
set_option linter.unusedVariables false
set_option linter.unusedSimpArgs false
open Go.RowKit
def layC (w h : Int) (ts : List TL) (W H : Nat) (l : List C4) (p : P2) : List TL := putsC w h ts (ovL w h ts p.x p.y W l (W * H))
def laysC (w h : Int) (ts : List TL) (W H : Nat) (l : List C4) (ps : List P2) : List TL := ps.foldl (fun ts p => layC w h ts W H l p) ts
theorem laysC_add {w h : Int} {ts : List TL} {W H : Nat} {l : List C4} {ps : List P2} {k : Nat} (hk : k < ps.length) : laysC w h ts W H l (ps.take (k + 1)) = layC w h (laysC w h ts W H l (ps.take k)) W H l ps[k] := by
  rw [List.take_succ_eq_append_getElem hk, laysC, List.foldl_append]; rfl
theorem putC_rng {w h : Int} {ts : List TL} {d : Dt} (ht : tsRng ts) (hd : d.c.rng) : tsRng (putC w h ts d) := by
  unfold putC
  split
  · intro t hm c hc
    obtain ⟨i, hi, rfl⟩ := List.getElem_of_mem hm
    by_cases e : plN w d.x d.y = i
    · subst e
      rw [List.getElem_set_self] at hc
      unfold TL.set at hc
      rcases List.mem_or_eq_of_mem_set hc with hc | rfl
      · rw [List.length_set] at hi
        rw [tl_at hi] at hc
        exact ht _ (List.getElem_mem hi) c hc
      · exact hd
    · rw [List.getElem_set_ne e] at hc
      exact ht _ (List.getElem_mem _) c hc
  · exact ht
theorem putsC_rng {w h : Int} : ∀ (l : List Dt) {ts : List TL}, tsRng ts → (∀ d ∈ l, d.c.rng) → tsRng (putsC w h ts l)
  | [], _, ht, _ => ht
  | d :: l, _, ht, hd => by
    rw [putsC, List.foldl_cons]
    exact putsC_rng l (putC_rng ht (hd d (by simp))) fun e he => hd e (List.mem_cons_of_mem _ he)
theorem ovP_rng {w h : Int} {ts : List TL} {X Y : Int} {W : Nat} {l : List C4} (ht : tsRng ts) (hl : ∀ c ∈ l, c.rng) {i : Nat} {d : Dt} (hd : d ∈ ovP w h ts X Y W l i) : d.c.rng := by
  unfold ovP at hd
  split at hd
  · rw [List.mem_singleton] at hd
    subst hd
    refine overC_rng (getC_rng ht _ _ _) ?_
    rw [List.getD_eq_getElem?_getD]
    by_cases hq : i < l.length
    · rw [List.getElem?_eq_getElem hq]; exact hl _ (List.getElem_mem hq)
    · rw [List.getElem?_eq_none (by omega)]; exact zC4_rng
  · cases hd
theorem layC_rng {w h : Int} {ts : List TL} {W H : Nat} {l : List C4} (p : P2) (ht : tsRng ts) (hl : ∀ c ∈ l, c.rng) : tsRng (layC w h ts W H l p) := by
  refine putsC_rng _ ht fun d hd => ?_
  unfold ovL at hd
  obtain ⟨i, _, hi⟩ := List.mem_flatMap.1 hd
  exact ovP_rng ht hl hi
theorem CvOk.lay {w h : Int} {ts : List TL} (hc : CvOk w h ts) (W H : Nat) (l : List C4) (p : P2) : CvOk w h (layC w h ts W H l p) := hc.puts _
theorem lays_ok {w h : Int} {ts : List TL} (hc : CvOk w h ts) (W H : Nat) (l : List C4) : ∀ ps : List P2, CvOk w h (laysC w h ts W H l ps) := fun ps => by
  induction ps generalizing ts with
  | nil => exact hc
  | cons p ps ih => exact ih (hc.lay W H l p)
theorem lays_rng {w h : Int} {W H : Nat} {l : List C4} (hl : ∀ c ∈ l, c.rng) : ∀ (ps : List P2) {ts : List TL}, tsRng ts → tsRng (laysC w h ts W H l ps)
  | [], _, ht => ht
  | p :: ps, _, ht => by rw [laysC, List.foldl_cons]; exact lays_rng hl ps (layC_rng p ht hl)
def P2.rng (p : P2) : Prop := (-9223372036854775808 ≤ p.x ∧ p.x ≤ 9223372036854775807) ∧ (-9223372036854775808 ≤ p.y ∧ p.y ≤ 9223372036854775807)
set_option maxRecDepth 4000 in
set_option maxHeartbeats 1000000 in
theorem lay_d (w h : Int) (ds : List D) (ts : List TL) (hr : RowOk ds ts) (hc : CvOk w h ts) (hg : tsRng ts) (W H : Nat) (l : List C4) (hs : StOk W H l) (hlr : ∀ c ∈ l, c.rng) (ps : List P2) (hp : ∀ p ∈ ps, p.rng) (hpn : ps.length ≤ 5000) : DFun Try.prog 29 [cvD w h ds, .agg [.val (.int .i64 (W : Int)), .val (.int .i64 (H : Int)), .slf 4 l.length (l.flatMap c4)], .slf 2 ps.length (ps.flatMap p2)] [] (.tup [cvD w h (dpR (laysC w h ts W H l ps)), .val (.int .i64 0)]) [] := by
  refine dcalls_body (N := 32) 0 (by kernel_rfl) Try.func29 rfl rfl rfl (by simp only [fr0, Nat.zero_add, Nat.reduceAdd]; exact rfl) rfl fun s0 hs0 => ?_
  refine dbody_seq rfl hs0 ?_
  refine zai 2 (by simp only [holes, List.cons_append, List.nil_append]; exact rfl) ?_
  refine zad ?_
  refine zak rfl rfl rfl (op_boxam 0 rfl (ev1 rfl) rfl) (by simp only [upd, za, zaa]; exact rfl) ?_
  refine zab rfl rfl rfl (zac (.inr rfl) (ev1 rfl)) ?_
  refine zak rfl rfl rfl (zal 1 rfl zr29 rfl) (by simp only [upd, za, zaa]; exact rfl) ?_
  refine zae ?_
  refine dbody_defer (l0 := [_]) rfl rfl rfl rfl rfl hs0 ?_
  refine zab rfl rfl rfl (op_mkf rfl en (ec (ev1 rfl) en)) ?_
  refine zae ⟨_, _, _, 2, ev1 rfl, Nat.le_trans hs0 (by decide), rfl, ?_⟩
  have hs1 : s0.M.length ≤ 2 := Nat.le_trans hs0 (by decide)
  refine dbody_end rfl hs0 ?_
  refine zaf ?_
  refine zaf ?_
  refine zad ?_
  refine zab rfl rfl rfl (zac (.inl rfl) (ev1 rfl)) ?_
  refine zab rfl rfl rfl (op_pnilm rfl pt62 (ev1 rfl)) ?_
  refine zae ?_
  refine dwp_if_f rfl (rfl) ?_
  refine dwp_skip ?_
  refine zaf ?_
  refine zai 1 (by simp only [holes, List.cons_append, List.nil_append]; exact rfl) ?_
  refine zad ?_
  refine zab rfl rfl rfl (op_ldmw rfl tb24 (ev1 rfl) rfl rfl) ?_
  refine zab rfl rfl rfl (zaj [] [] [] rfl (ev1 rfl) (ec (ev1 rfl) en) rfl rfl (wOf_d W H l hs) rfl rfl rfl rfl rfl rfl) ?_
  refine zak rfl rfl rfl (zal 2 rfl zr83 rfl) (by simp only [upd, za, zaa]; exact rfl) ?_
  refine walk_s rfl rfl (op_stam rfl tb83 (ev1 rfl) (ev1 rfl) rfl rfl rfl rfl) (by simp only [upd, za, zaa]; exact rfl) ?_
  refine zae ?_
  refine zaf ?_
  refine zaf ?_
  refine zad ?_
  refine zab rfl rfl rfl (zac (.inl rfl) (ev1 rfl)) ?_
  refine zab rfl rfl rfl (op_len rfl sl25 (ev1 rfl)) ?_
  refine zab rfl rfl rfl (zac (.inl rfl) (ev1 rfl)) ?_
  refine zae ?_
  refine dwp_block ?_
  refine dwp_wk 0 rfl (hr.wkd w h) ?_
  refine dwp_loopS ⟨hs1, rfl⟩ (α := Nat) (fun k => [(0, cvD w h (dpR (laysC w h ts W H l (ps.take k)))), (20, .val (.int .i64 (k : Int)))]) [(7, _), (8, _), (18, _), (19, _)] (fun k => []) [_, _, _] (fun k => k ≤ ps.length) (fun k => ps.length - k) 0 [0, 1, 2] (Nat.zero_le _) rfl ⟨rfl, rfl, rfl, rfl, trivial⟩ ⟨rfl, rfl, trivial⟩ ⟨rfl, rfl, rfl, trivial⟩ ?_
  intro k hx
  simp only [upd, za, zaa, List.cons_append, List.nil_append]
  have hk := hx
  have hcu := lays_ok hc W H l (ps.take k)
  have hgu := lays_rng (w := w) (h := h) (W := W) (H := H) hlr (ps.take k) hg
  refine zaf ?_
  refine zad ?_
  refine zab rfl rfl rfl (op_lss rfl (ev1 rfl) (ev1 rfl)) ?_
  refine zae ?_
  refine zaf ?_
  refine dwp_cond rfl (fun c2 => ?_) (fun c2 => ?_)
  · try simp only [decide_eq_true_eq, decide_eq_false_iff_not, beq_iff_eq, bne_iff_ne, beq_eq_false_iff_ne, bne_eq_false_iff_eq, Bool.not_eq_true', Bool.not_eq_false', Bool.and_eq_true, Bool.or_eq_true, Bool.or_eq_false_iff, ne_eq, Decidable.not_not, Int.not_lt, Int.not_le] at c2
    refine dwp_skip ?_
    refine zaf ?_
    refine dwp_block ?_
    refine zaf ?_
    refine zai 1 (by simp only [holes, List.cons_append, List.nil_append]; exact rfl) ?_
    refine zad ?_
    refine zab rfl rfl rfl (op_ixsr (j := k) rfl sl25 (ev1 rfl) (ev1 rfl) (fun _ => rfl) (by decide) (by omega) (by omega)) ?_
    refine zab rfl rfl rfl (op_ldwd rfl tb36 (ev1 rfl) rfl) ?_
    refine zak rfl rfl rfl (zal 3 rfl zr36 rfl) (by simp only [upd, za, zaa]; exact rfl) ?_
    refine walk_s rfl rfl (op_stwa rfl tb36 (ev1 rfl) (ev1 rfl) rfl rfl rfl rfl) (by simp only [upd, za, zaa]; exact rfl) ?_
    refine zae ?_
    have hpk := hp ps[k] (List.getElem_mem _)
    refine zad ?_
    refine zab rfl rfl rfl (zac (.inl rfl) (ev1 rfl)) ?_
    refine zab rfl rfl rfl (op_ldmw rfl tb83 (ev1 rfl) rfl rfl) ?_
    refine zab rfl rfl rfl (zac (.inl rfl) (ev1 rfl)) ?_
    refine zab rfl rfl rfl (op_ldw rfl tb36 (ev1 rfl) rfl rfl) ?_
    refine zab rfl rfl rfl (zaj [] [] [] rfl (ev1 rfl) (ec (ev1 rfl) (ec (ev1 rfl) (ec (ev1 rfl) en))) rfl rfl (over_l w h _ _ (dpR_ok _) hcu hgu ps[k].x ps[k].y hpk.2 W H l hs hlr) rfl rfl rfl rfl rfl rfl) ?_
    refine zab rfl rfl rfl (zaj [] [] [] rfl (ev1 rfl) (ec (ev1 rfl) (ec (ev1 rfl) en)) rfl rfl (with_d w h _ _ (dpR_ok _) hcu _) rfl rfl rfl rfl rfl rfl) ?_
    refine zab rfl rfl rfl (zac (.inr rfl) (ev1 rfl)) ?_
    refine zae ?_
    refine zad ?_
    refine zab rfl rfl rfl (op_add' rfl (ev1 rfl) (ev1 rfl) (fun _ => IntWalk.i64_in _ (by omega))) ?_
    refine zab rfl rfl rfl (zac (.inl rfl) (ev1 rfl)) ?_
    refine zae ?_
    refine ⟨k + 1, [0, 1, 2], by omega, by simp only []; omega, rfl, ⟨by rw [laysC_add (by omega)]; rfl, rfl, rfl, rfl, rfl, rfl, trivial⟩, ⟨rfl, rfl, rfl, trivial⟩⟩
  · try simp only [decide_eq_true_eq, decide_eq_false_iff_not, beq_iff_eq, bne_iff_ne, beq_eq_false_iff_ne, bne_eq_false_iff_eq, Bool.not_eq_true', Bool.not_eq_false', Bool.and_eq_true, Bool.or_eq_true, Bool.or_eq_false_iff, ne_eq, Decidable.not_not, Int.not_lt, Int.not_le] at c2
    refine dwp_exit ?_
    refine zaf ?_
    refine zad ?_
    refine zab rfl rfl rfl (zac (.inl rfl) (ev1 rfl)) ?_
    refine zab rfl rfl rfl (zac (.inr rfl) (ev1 rfl)) ?_
    refine walk_s rfl rfl (op_stwi rfl tb29 (ev1 rfl) (ev1 rfl) rfl) (by simp only [upd, za, zaa]; exact rfl) ?_
    refine zae ?_
    refine dwp_ret ?_
    rw [List.take_of_length_le (by omega)]
    refine kdef (dturn_idle [1] [] rfl rfl (slay1_idle _) rfl rfl rfl rfl rfl) ?_
    refine kend0 (rs2 rfl (rv_t rfl) (rv_1 tb29 rfl rfl rfl)) rfl ?_
    rfl
end Go.Proofs.Ytadjbiccndaclaa
namespace Go.Proofs.Ytadjbiccndaclaa
set_option maxRecDepth 4000
set_option linter.unusedVariables false
set_option linter.unusedSimpArgs false
open Go.RowKit
open Go.ChangeShapes Go.WideShapes Go.ChangeAt Go.Joins Go.Deep
theorem fits_prim_i64 {v : Value} (h : (Prim.int .i64).is v) : ∃ a : Int, (-9223372036854775808 ≤ a ∧ a ≤ 9223372036854775807) ∧ v = .int .i64 a := by
  obtain ⟨x, rfl, w⟩ := h
  exact ⟨x, by simpa [Lit.wf, IntKind.min, IntKind.max, IntKind.signed, IntKind.bits] using w, rfl⟩
theorem fitsP_cons {p : Prim} {ps : List Prim} {cs : List Value} (h : fitsP (p :: ps) cs) : ∃ v r, cs = v :: r ∧ p.is v ∧ fitsP ps r := by
  cases cs with
  | nil => cases h
  | cons v r => exact ⟨v, r, rfl, h.1, h.2⟩
theorem fitsP_nil {cs : List Value} (h : fitsP [] cs) : cs = [] := by
  cases cs with
  | nil => rfl
  | cons v r => cases h
theorem fits_i64 : ∀ cs, fitsP [.int .i64] cs → ∃ a : Int, (-9223372036854775808 ≤ a ∧ a ≤ 9223372036854775807) ∧ cs = [.int .i64 a]
  | [c0], h => by
    obtain ⟨h0, _⟩ := h
    obtain ⟨a, w, rfl⟩ := fits_prim_i64 h0
    exact ⟨a, w, rfl⟩
  | [], h => by cases h
  | _ :: _ :: _, h => by obtain ⟨_, h⟩ := h; cases h
theorem fits_u8 {v : Value} (h : (Prim.int .u8).is v) : ∃ a : Int, (0 ≤ a ∧ a ≤ 255) ∧ v = .int .u8 a := by
  obtain ⟨x, rfl, w⟩ := h
  exact ⟨x, by simpa [Lit.wf, IntKind.min, IntKind.max, IntKind.signed, IntKind.bits] using w, rfl⟩
theorem fits_c4 (cs : List Value) (h : fitsP [.int .u8, .int .u8, .int .u8, .int .u8] cs) : ∃ a : C4, a.rng ∧ cs = c4 a := by
  obtain ⟨x0, r, rfl, h0, h⟩ := fitsP_cons h
  obtain ⟨x1, r, rfl, h1, h⟩ := fitsP_cons h
  obtain ⟨x2, r, rfl, h2, h⟩ := fitsP_cons h
  obtain ⟨x3, r, rfl, h3, h⟩ := fitsP_cons h
  obtain rfl := fitsP_nil h
  obtain ⟨a0, w0, rfl⟩ := fits_u8 h0
  obtain ⟨a1, w1, rfl⟩ := fits_u8 h1
  obtain ⟨a2, w2, rfl⟩ := fits_u8 h2
  obtain ⟨a3, w3, rfl⟩ := fits_u8 h3
  exact ⟨⟨a0, a1, a2, a3⟩, ⟨w0, w1, w2, w3⟩, rfl⟩
theorem opens_i64 {w : World} : Opens Try.prog w 3 (fun a : Int => [.val (.int .i64 a)]) (fun a => -9223372036854775808 ≤ a ∧ a ≤ 9223372036854775807) := opens_flat 1 (fun a : Int => [.int .i64 a]) _ fits_i64 (by kernel_rfl)
theorem opens_px {w : World} : Opens Try.prog w 22 (fun l : List C4 => [.slf 4 l.length (l.flatMap c4)]) (fun l => ∀ x ∈ l, x.rng) :=
  opens_row 4 c4 C4.rng fits_c4 Try.underlying22 (show flatT Try.prog 4 38 = some [.int .u8, .int .u8, .int .u8, .int .u8] by kernel_rfl) (by kernel_rfl) (by decide) (fun _ => rfl)
abbrev stL (a : Int × Int × List C4) : List D := [.val (.int .i64 a.1), .val (.int .i64 a.2.1), .slf 4 a.2.2.length (a.2.2.flatMap c4)]
theorem opens_stm {w : World} : Opens Try.prog w 24 stL (fun a => ∀ c ∈ a.2.2, c.rng) :=
  opens_map (fun a : Int × Int × List C4 × Unit => (a.1, a.2.1, a.2.2.1)) (opens_struct Try.underlying24 (by kernel_rfl) (opensF_cons (k := 1) rfl (by kernel_rfl) opens_i64 (opensF_cons (k := 1) rfl (by kernel_rfl) opens_i64 (opensF_cons (k := 1) rfl (by kernel_rfl) opens_px opensF_nil)))) (fun _ => rfl) (fun _ h => h.2.2.1)
end Go.Proofs.Ytadjbiccndaclaa
namespace Go.Proofs.Ytadjbiccndaclaa
set_option maxRecDepth 4000
set_option linter.unusedVariables false
set_option linter.unusedSimpArgs false
open Go.RowKit
theorem turn_d (s : StM) (hs : s.ok) (q : Int) : DFun Try.prog 19 [.agg [.val (.int .i64 (s.W : Int)), .val (.int .i64 (s.H : Int)), .slf 4 s.l.length (s.l.flatMap c4)], .val (.int .i64 q)] [] (.tup [.agg [.val (.int .i64 ((turnN (qN q) s).W : Int)), .val (.int .i64 ((turnN (qN q) s).H : Int)), .slf 4 (turnN (qN q) s).l.length ((turnN (qN q) s).l.flatMap c4)], .val (.int .i64 0)]) [] := freeze (turn_o s hs q) rfl
theorem flip_d (s : StM) (hs : s.ok) : DFun Try.prog 16 [.agg [.val (.int .i64 (s.W : Int)), .val (.int .i64 (s.H : Int)), .slf 4 s.l.length (s.l.flatMap c4)]] [] (.tup [.agg [.val (.int .i64 ((flipS s).W : Int)), .val (.int .i64 ((flipS s).H : Int)), .slf 4 (flipS s).l.length ((flipS s).l.flatMap c4)], .val (.int .i64 0)]) [] := freeze (flip_o s.W s.H s.l hs) rfl
theorem sof_d (W H : Nat) (l : List C4) (hs : StOk W H l) : DFun Try.prog 25 [.val (.int .i64 (W : Int)), .slf 4 l.length (l.flatMap c4)] [] (.tup [.agg [.val (.int .i64 (W : Int)), .val (.int .i64 (H : Int)), .slf 4 l.length (l.flatMap c4)], .val (.int .i64 0)]) [] := freeze (sof_o W H l hs) rfl
theorem cut_d (w h : Int) (ds : List D) (ts : List TL) (hr : RowOk ds ts) (hc : CvOk w h ts) (x y : Int) (W H : Nat) (hk : CutOk w h x y W H) : DFun Try.prog 28 [cvD w h ds, .val (.int .i64 x), .val (.int .i64 y), .val (.int .i64 (W : Int)), .val (.int .i64 (H : Int))] [] (.tup [.agg [.val (.int .i64 (W : Int)), .val (.int .i64 (H : Int)), .slf 4 (cutL w ts x y W H).length ((cutL w ts x y W H).flatMap c4)], .val (.int .i64 0)]) [] := freeze (cut_o w h ds ts hr hc x y W H hk) rfl
def wkL : List C4 := [⟨1, 0, 0, 255⟩, ⟨0, 1, 0, 255⟩, ⟨0, 0, 1, 255⟩, ⟨0, 0, 0, 255⟩]
def wkS : StM := ⟨2, 2, wkL⟩
theorem wkS_ok : wkS.ok := ⟨by decide, by decide, by decide⟩
theorem wkL_rng : ∀ c ∈ wkL, c.rng := by unfold wkL C4.rng; decide
def wkT : List TL := List.replicate 1 (nT zC4)
theorem wkT_ok : CvOk 1 1 wkT := ⟨by decide, by decide⟩
theorem wkT_rng : tsRng wkT := fun t ht c hc => by
  rw [show t = nT zC4 from List.eq_of_mem_replicate ht] at hc
  rw [show c = zC4 from List.eq_of_mem_replicate hc]
  exact zC4_rng
def wkU : List TL := laysC 1 1 wkT 2 2 wkL [⟨7, 0⟩]
theorem wkU_ok : CvOk 1 1 wkU := lays_ok wkT_ok 2 2 wkL [⟨7, 0⟩]
theorem wk_turn : (turnN (qN 1) wkS).l = [⟨0, 0, 1, 255⟩, ⟨1, 0, 0, 255⟩, ⟨0, 0, 0, 255⟩, ⟨0, 1, 0, 255⟩] := by kernel_rfl
theorem wk_flip : (flipS wkS).l = [⟨0, 1, 0, 255⟩, ⟨1, 0, 0, 255⟩, ⟨0, 0, 0, 255⟩, ⟨0, 0, 1, 255⟩] := by kernel_rfl
theorem wk_cut : cutL 1 wkU 7 0 1 2 = [⟨1, 0, 0, 255⟩, ⟨0, 0, 1, 255⟩] := by kernel_rfl
theorem wk_dif : (difC 1 1 wkT wkU).length = 2 := by kernel_rfl
theorem okd_wk {I : Nat → Prop} {w h : Int} {ts : List TL} {d : D} (hf : Okd (NewCv I w h ts) d) : Wk d (.tup [cvD w h (dpR ts), .val (.int .i64 0)]) := by
  obtain ⟨_, ⟨A, hA, _, rfl⟩, rfl⟩ := hf
  exact Wk.tup (.cons ((pinsR_ok hA).wkd w h) (.cons (.refl _) .nil))
theorem cnew_d (w h : Int) (n : Nat) (hm : mayS w h = true) (hn : w * h = (n : Int)) : DFun Try.prog 39 [.val (.int .i64 w), .val (.int .i64 h)] [] (.tup [cvD w h (dpR (List.replicate n (nT zC4))), .val (.int .i64 0)]) [] := (cnew_i w h n hm hn).fun fun I d hf => okd_wk hf
set_option maxRecDepth 4000 in
set_option maxHeartbeats 1000000 in
theorem swakes_d : DFun Try.prog 8 [] [] (.val (.bool true)) [] := by
  refine dcalls_go (N := 130) 0 (by kernel_rfl) Try.func8 rfl rfl rfl (by simp only [fr0, Nat.zero_add, Nat.reduceAdd]; exact rfl) rfl fun s0 hs0 => ?_
  refine zaf ?_
  refine zad ?_
  refine zab rfl rfl rfl (zac (.inr rfl) (ev1 rfl)) ?_
  refine zae ?_
  refine zaf ?_
  refine zai 4 (by simp only [holes, List.cons_append, List.nil_append]; exact rfl) ?_
  refine zad ?_
  refine zab rfl rfl rfl (op_build (ps := [(0, .const (.int .u8 1)), (3, .const (.int .u8 255))]) rfl fl38 zr38 (vc (ev1 rfl) (vc (ev1 rfl) vn)) rfl rfl) ?_
  refine zab rfl rfl rfl (op_build (ps := [(1, .const (.int .u8 1)), (3, .const (.int .u8 255))]) rfl fl38 zr38 (vc (ev1 rfl) (vc (ev1 rfl) vn)) rfl rfl) ?_
  refine zab rfl rfl rfl (op_build (ps := [(2, .const (.int .u8 1)), (3, .const (.int .u8 255))]) rfl fl38 zr38 (vc (ev1 rfl) (vc (ev1 rfl) vn)) rfl rfl) ?_
  refine zab rfl rfl rfl (op_build (ps := [(3, .const (.int .u8 255))]) rfl fl38 zr38 (vc (ev1 rfl) vn) rfl rfl) ?_
  refine zak rfl rfl rfl (zal 0 rfl zr38 rfl) (by simp only [upd, za, zaa]; exact rfl) ?_
  refine zak rfl rfl rfl (zal 1 rfl zr38 rfl) (by simp only [upd, za, zaa]; exact rfl) ?_
  refine zak rfl rfl rfl (zal 2 rfl zr38 rfl) (by simp only [upd, za, zaa]; exact rfl) ?_
  refine zak rfl rfl rfl (zal 3 rfl zr38 rfl) (by simp only [upd, za, zaa]; exact rfl) ?_
  refine walk_s rfl rfl (op_stwa rfl tb38 (ev1 rfl) (ev1 rfl) rfl rfl rfl rfl) (by simp only [upd, za, zaa]; exact rfl) ?_
  refine walk_s rfl rfl (op_stwa rfl tb38 (ev1 rfl) (ev1 rfl) rfl rfl rfl rfl) (by simp only [upd, za, zaa]; exact rfl) ?_
  refine walk_s rfl rfl (op_stwa rfl tb38 (ev1 rfl) (ev1 rfl) rfl rfl rfl rfl) (by simp only [upd, za, zaa]; exact rfl) ?_
  refine walk_s rfl rfl (op_stwa rfl tb38 (ev1 rfl) (ev1 rfl) rfl rfl rfl rfl) (by simp only [upd, za, zaa]; exact rfl) ?_
  refine zae ?_
  refine zaf ?_
  refine zai 1 (by simp only [holes, List.cons_append, List.nil_append]; exact rfl) ?_
  refine zad ?_
  refine zab rfl rfl rfl (op_ldw rfl tb38 (ev1 rfl) rfl rfl) ?_
  refine zab rfl rfl rfl (op_ldw rfl tb38 (ev1 rfl) rfl rfl) ?_
  refine zab rfl rfl rfl (op_ldw rfl tb38 (ev1 rfl) rfl rfl) ?_
  refine zab rfl rfl rfl (op_ldw rfl tb38 (ev1 rfl) rfl rfl) ?_
  refine zab rfl rfl rfl (op_bs (ps := [(0, .tmp 24), (1, .tmp 25), (2, .tmp 26), (3, .tmp 27)]) rfl sl22 zr38 rfl (vc (ev1 rfl) (vc (ev1 rfl) (vc (ev1 rfl) (vc (ev1 rfl) vn)))) rfl (by decide) (by decide)) ?_
  refine zab rfl rfl rfl (zaj [] [] [] rfl (ev1 rfl) (ec (ev1 rfl) (ec (ev1 rfl) en)) rfl rfl (sof_d 2 2 wkL wkS_ok) rfl rfl rfl rfl rfl rfl) ?_
  refine zab rfl rfl rfl (zac (.inl rfl) (ev1 rfl)) ?_
  refine zab rfl rfl rfl (op_ext rfl (ev1 rfl) rfl) ?_
  refine zab rfl rfl rfl (op_ext rfl (ev1 rfl) rfl) ?_
  refine zak rfl rfl rfl (zal 4 rfl zr24 rfl) (by simp only [upd, za, zaa]; exact rfl) ?_
  refine walk_s rfl rfl (op_stam rfl tb24 (ev1 rfl) (ev1 rfl) rfl rfl rfl rfl) (by simp only [upd, za, zaa]; exact rfl) ?_
  refine zab rfl rfl rfl (zac (.inr rfl) (ev1 rfl)) ?_
  refine zae ?_
  refine zaf ?_
  refine zai 1 (by simp only [holes, List.cons_append, List.nil_append]; exact rfl) ?_
  refine zad ?_
  refine zab rfl rfl rfl (op_ldmw rfl tb24 (ev1 rfl) rfl rfl) ?_
  refine zab rfl rfl rfl (zaj [] [] [] rfl (ev1 rfl) (ec (ev1 rfl) (ec (ev1 rfl) en)) rfl rfl (turn_d wkS wkS_ok 1) rfl rfl rfl rfl rfl rfl) ?_
  refine zab rfl rfl rfl (zac (.inl rfl) (ev1 rfl)) ?_
  refine zab rfl rfl rfl (op_ext rfl (ev1 rfl) rfl) ?_
  refine zab rfl rfl rfl (op_ext rfl (ev1 rfl) rfl) ?_
  refine zak rfl rfl rfl (zal 5 rfl zr24 rfl) (by simp only [upd, za, zaa]; exact rfl) ?_
  refine walk_s rfl rfl (op_stam rfl tb24 (ev1 rfl) (ev1 rfl) rfl rfl rfl rfl) (by simp only [upd, za, zaa]; exact rfl) ?_
  refine zab rfl rfl rfl (zac (.inr rfl) (ev1 rfl)) ?_
  refine zae ?_
  refine zaf ?_
  refine zai 1 (by simp only [holes, List.cons_append, List.nil_append]; exact rfl) ?_
  refine zad ?_
  refine zab rfl rfl rfl (op_ldmw rfl tb24 (ev1 rfl) rfl rfl) ?_
  refine zab rfl rfl rfl (zaj [] [] [] rfl (ev1 rfl) (ec (ev1 rfl) en) rfl rfl (flip_d wkS wkS_ok) rfl rfl rfl rfl rfl rfl) ?_
  refine zab rfl rfl rfl (zac (.inl rfl) (ev1 rfl)) ?_
  refine zab rfl rfl rfl (op_ext rfl (ev1 rfl) rfl) ?_
  refine zab rfl rfl rfl (op_ext rfl (ev1 rfl) rfl) ?_
  refine zak rfl rfl rfl (zal 6 rfl zr24 rfl) (by simp only [upd, za, zaa]; exact rfl) ?_
  refine walk_s rfl rfl (op_stam rfl tb24 (ev1 rfl) (ev1 rfl) rfl rfl rfl rfl) (by simp only [upd, za, zaa]; exact rfl) ?_
  refine zab rfl rfl rfl (zac (.inr rfl) (ev1 rfl)) ?_
  refine zae ?_
  refine zaf ?_
  refine zad ?_
  refine zab rfl rfl rfl (zaj [] [] [] rfl (ev1 rfl) (ec (ev1 rfl) (ec (ev1 rfl) en)) rfl rfl (cnew_d 1 1 1 (by decide) (by decide)) rfl rfl rfl rfl rfl rfl) ?_
  refine zab rfl rfl rfl (zac (.inl rfl) (ev1 rfl)) ?_
  refine zab rfl rfl rfl (op_ext rfl (ev1 rfl) rfl) ?_
  refine zab rfl rfl rfl (op_ext rfl (ev1 rfl) rfl) ?_
  refine zab rfl rfl rfl (zac (.inr rfl) (ev1 rfl)) ?_
  refine zab rfl rfl rfl (zac (.inr rfl) (ev1 rfl)) ?_
  refine zae ?_
  refine zaf ?_
  refine zad ?_
  refine zab rfl rfl rfl (zac (.inl rfl) (ev1 rfl)) ?_
  refine zab rfl rfl rfl (op_ldmw rfl tb24 (ev1 rfl) rfl rfl) ?_
  refine zab rfl rfl rfl (op_build (ps := [(0, .const (.int .i64 7))]) rfl fl36 zr36 (vc (ev1 rfl) vn) rfl rfl) ?_
  refine zab rfl rfl rfl (op_bs (ps := [(0, .tmp 49)]) rfl sl25 zr36 rfl (vc (ev1 rfl) vn) rfl (by decide) (by decide)) ?_
  refine zab rfl rfl rfl (zaj [] [] [] rfl (ev1 rfl) (ec (ev1 rfl) (ec (ev1 rfl) (ec (ev1 rfl) en))) rfl rfl (lay_d 1 1 _ wkT (dpR_ok _) wkT_ok wkT_rng 2 2 wkL wkS_ok wkL_rng [⟨7, 0⟩] (by intro p hp; rw [List.mem_singleton] at hp; subst hp; unfold P2.rng; decide) (by decide)) rfl rfl rfl rfl rfl rfl) ?_
  refine zab rfl rfl rfl (zac (.inl rfl) (ev1 rfl)) ?_
  refine zab rfl rfl rfl (op_ext rfl (ev1 rfl) rfl) ?_
  refine zab rfl rfl rfl (op_ext rfl (ev1 rfl) rfl) ?_
  refine zab rfl rfl rfl (zac (.inr rfl) (ev1 rfl)) ?_
  refine zab rfl rfl rfl (zac (.inr rfl) (ev1 rfl)) ?_
  refine zae ?_
  refine zaf ?_
  refine zai 1 (by simp only [holes, List.cons_append, List.nil_append]; exact rfl) ?_
  refine zad ?_
  refine zab rfl rfl rfl (zac (.inl rfl) (ev1 rfl)) ?_
  refine zab rfl rfl rfl (zaj [] [] [] rfl (ev1 rfl) (ec (ev1 rfl) (ec (ev1 rfl) (ec (ev1 rfl) (ec (ev1 rfl) (ec (ev1 rfl) en))))) rfl rfl (cut_d 1 1 _ wkU (dpR_ok _) wkU_ok 7 0 1 2 ⟨by decide, by decide, by decide, by decide⟩) rfl rfl rfl rfl rfl rfl) ?_
  refine zab rfl rfl rfl (zac (.inl rfl) (ev1 rfl)) ?_
  refine zab rfl rfl rfl (op_ext rfl (ev1 rfl) rfl) ?_
  refine zab rfl rfl rfl (op_ext rfl (ev1 rfl) rfl) ?_
  refine zak rfl rfl rfl (zal 7 rfl zr24 rfl) (by simp only [upd, za, zaa]; exact rfl) ?_
  refine walk_s rfl rfl (op_stam rfl tb24 (ev1 rfl) (ev1 rfl) rfl rfl rfl rfl) (by simp only [upd, za, zaa]; exact rfl) ?_
  refine zab rfl rfl rfl (zac (.inr rfl) (ev1 rfl)) ?_
  refine zae ?_
  refine zaf ?_
  refine zai 1 (by simp only [holes, List.cons_append, List.nil_append]; exact rfl) ?_
  refine zad ?_
  refine zab rfl rfl rfl (zac (.inl rfl) (ev1 rfl)) ?_
  refine zab rfl rfl rfl (zaj [] [] [] rfl (ev1 rfl) (ec (ev1 rfl) (ec (ev1 rfl) (ec (ev1 rfl) (ec (ev1 rfl) (ec (ev1 rfl) en))))) rfl rfl (cut_no 1 1 _ wkU (dpR_ok _) wkU_ok 7 0 2 1 (by decide)) rfl rfl rfl rfl rfl rfl) ?_
  refine zab rfl rfl rfl (zac (.inl rfl) (ev1 rfl)) ?_
  refine zab rfl rfl rfl (op_ext rfl (ev1 rfl) rfl) ?_
  refine zab rfl rfl rfl (op_ext rfl (ev1 rfl) rfl) ?_
  refine zak rfl rfl rfl (zal 8 rfl zr24 rfl) (by simp only [upd, za, zaa]; exact rfl) ?_
  refine walk_s rfl rfl (op_stwa rfl tb24 (ev1 rfl) (ev1 rfl) rfl rfl rfl rfl) (by simp only [upd, za, zaa]; exact rfl) ?_
  refine zab rfl rfl rfl (zac (.inr rfl) (ev1 rfl)) ?_
  refine zae ?_
  refine zaf ?_
  refine zad ?_
  refine zab rfl rfl rfl (zac (.inl rfl) (ev1 rfl)) ?_
  refine zab rfl rfl rfl (op_eql rfl (ev1 rfl) (ev1 rfl)) ?_
  refine zab rfl rfl rfl (zac (.inl rfl) (ev1 rfl)) ?_
  refine zah (gd_t rfl rfl rfl) rfl rfl rfl (zac (.inl rfl) (ev1 rfl)) ?_
  refine zah (gd_t rfl rfl rfl) rfl rfl rfl (op_eql rfl (ev2 rfl) (ev1 rfl)) ?_
  refine zab rfl rfl rfl (op_and rfl (ev1 rfl) (ev3 rfl id)) ?_
  refine zab rfl rfl rfl (zac (.inl rfl) (ev1 rfl)) ?_
  refine zah (gd_t rfl rfl rfl) rfl rfl rfl (zac (.inl rfl) (ev1 rfl)) ?_
  refine zah (gd_t rfl rfl rfl) rfl rfl rfl (op_eql rfl (ev2 rfl) (ev1 rfl)) ?_
  refine zab rfl rfl rfl (op_and rfl (ev1 rfl) (ev3 rfl id)) ?_
  refine zab rfl rfl rfl (zac (.inl rfl) (ev1 rfl)) ?_
  refine zah (gd_t rfl rfl rfl) rfl rfl rfl (zac (.inl rfl) (ev1 rfl)) ?_
  refine zah (gd_t rfl rfl rfl) rfl rfl rfl (op_eql rfl (ev2 rfl) (ev1 rfl)) ?_
  refine zab rfl rfl rfl (op_and rfl (ev1 rfl) (ev3 rfl id)) ?_
  refine zab rfl rfl rfl (zac (.inl rfl) (ev1 rfl)) ?_
  refine zah (gd_t rfl rfl rfl) rfl rfl rfl (zac (.inl rfl) (ev1 rfl)) ?_
  refine zah (gd_t rfl rfl rfl) rfl rfl rfl (op_eql rfl (ev2 rfl) (ev1 rfl)) ?_
  refine zab rfl rfl rfl (op_and rfl (ev1 rfl) (ev3 rfl id)) ?_
  refine zab rfl rfl rfl (zac (.inl rfl) (ev1 rfl)) ?_
  refine zah (gd_t rfl rfl rfl) rfl rfl rfl (zac (.inl rfl) (ev1 rfl)) ?_
  refine zah (gd_t rfl rfl rfl) rfl rfl rfl (op_eql rfl (ev2 rfl) (ev1 rfl)) ?_
  refine zab rfl rfl rfl (op_and rfl (ev1 rfl) (ev3 rfl id)) ?_
  refine zab rfl rfl rfl (zac (.inl rfl) (ev1 rfl)) ?_
  refine zah (gd_t rfl rfl rfl) rfl rfl rfl (zac (.inl rfl) (ev1 rfl)) ?_
  refine zah (gd_t rfl rfl rfl) rfl rfl rfl (op_eql rfl (ev2 rfl) (ev1 rfl)) ?_
  refine zab rfl rfl rfl (op_and rfl (ev1 rfl) (ev3 rfl id)) ?_
  refine zab rfl rfl rfl (zac (.inl rfl) (ev1 rfl)) ?_
  refine zah (gd_t rfl rfl rfl) rfl rfl rfl (op_fa rfl fo24_2 (ev1 rfl)) ?_
  refine zah (gd_t rfl rfl rfl) rfl rfl rfl (op_ldm rfl tb22 (ev2 rfl) rfl rfl) ?_
  refine zah (gd_t rfl rfl rfl) rfl rfl rfl (op_ldw rfl tb38 (ev1 rfl) rfl rfl) ?_
  refine zah (gd_t rfl rfl rfl) rfl rfl rfl (op_ldw rfl tb38 (ev1 rfl) rfl rfl) ?_
  refine zah (gd_t rfl rfl rfl) rfl rfl rfl (op_ldw rfl tb38 (ev1 rfl) rfl rfl) ?_
  refine zah (gd_t rfl rfl rfl) rfl rfl rfl (op_ldw rfl tb38 (ev1 rfl) rfl rfl) ?_
  refine zah (gd_t rfl rfl rfl) rfl rfl rfl (op_bs (ps := [(0, .tmp 93), (1, .tmp 94), (2, .tmp 95), (3, .tmp 96)]) rfl sl22 zr38 rfl (vc (ev2 rfl) (vc (ev2 rfl) (vc (ev2 rfl) (vc (ev2 rfl) vn)))) rfl (by decide) (by decide)) ?_
  refine zah (gd_t rfl rfl rfl) rfl rfl rfl (zaj [] [] [] rfl (ev1 rfl) (ec (ev2 rfl) (ec (ev2 rfl) en)) rfl rfl (equalC _ [⟨0, 0, 1, 255⟩, ⟨1, 0, 0, 255⟩, ⟨0, 0, 0, 255⟩, ⟨0, 1, 0, 255⟩]) rfl rfl rfl rfl rfl rfl) ?_
  refine zab rfl rfl rfl (op_and rfl (ev1 rfl) (ev3 rfl id)) ?_
  refine zab rfl rfl rfl (zac (.inl rfl) (ev1 rfl)) ?_
  refine zah (gd_t rfl rfl rfl) rfl rfl rfl (op_fa rfl fo24_2 (ev1 rfl)) ?_
  refine zah (gd_t rfl rfl rfl) rfl rfl rfl (op_ldm rfl tb22 (ev2 rfl) rfl rfl) ?_
  refine zah (gd_t rfl rfl rfl) rfl rfl rfl (op_ldw rfl tb38 (ev1 rfl) rfl rfl) ?_
  refine zah (gd_t rfl rfl rfl) rfl rfl rfl (op_ldw rfl tb38 (ev1 rfl) rfl rfl) ?_
  refine zah (gd_t rfl rfl rfl) rfl rfl rfl (op_ldw rfl tb38 (ev1 rfl) rfl rfl) ?_
  refine zah (gd_t rfl rfl rfl) rfl rfl rfl (op_ldw rfl tb38 (ev1 rfl) rfl rfl) ?_
  refine zah (gd_t rfl rfl rfl) rfl rfl rfl (op_bs (ps := [(0, .tmp 103), (1, .tmp 104), (2, .tmp 105), (3, .tmp 106)]) rfl sl22 zr38 rfl (vc (ev2 rfl) (vc (ev2 rfl) (vc (ev2 rfl) (vc (ev2 rfl) vn)))) rfl (by decide) (by decide)) ?_
  refine zah (gd_t rfl rfl rfl) rfl rfl rfl (zaj [] [] [] rfl (ev1 rfl) (ec (ev2 rfl) (ec (ev2 rfl) en)) rfl rfl (equalC _ [⟨0, 1, 0, 255⟩, ⟨1, 0, 0, 255⟩, ⟨0, 0, 0, 255⟩, ⟨0, 0, 1, 255⟩]) rfl rfl rfl rfl rfl rfl) ?_
  refine zab rfl rfl rfl (op_and rfl (ev1 rfl) (ev3 rfl id)) ?_
  refine zab rfl rfl rfl (zac (.inl rfl) (ev1 rfl)) ?_
  refine zah (gd_t rfl rfl rfl) rfl rfl rfl (op_fa rfl fo24_2 (ev1 rfl)) ?_
  refine zah (gd_t rfl rfl rfl) rfl rfl rfl (op_ldm rfl tb22 (ev2 rfl) rfl rfl) ?_
  refine zah (gd_t rfl rfl rfl) rfl rfl rfl (op_ldw rfl tb38 (ev1 rfl) rfl rfl) ?_
  refine zah (gd_t rfl rfl rfl) rfl rfl rfl (op_ldw rfl tb38 (ev1 rfl) rfl rfl) ?_
  refine zah (gd_t rfl rfl rfl) rfl rfl rfl (op_bs (ps := [(0, .tmp 113), (1, .tmp 114)]) rfl sl22 zr38 rfl (vc (ev2 rfl) (vc (ev2 rfl) vn)) rfl (by decide) (by decide)) ?_
  refine zah (gd_t rfl rfl rfl) rfl rfl rfl (zaj [] [] [] rfl (ev1 rfl) (ec (ev2 rfl) (ec (ev2 rfl) en)) rfl rfl (equalC _ [⟨1, 0, 0, 255⟩, ⟨0, 0, 1, 255⟩]) rfl rfl rfl rfl rfl rfl) ?_
  refine zab rfl rfl rfl (op_and rfl (ev1 rfl) (ev3 rfl id)) ?_
  refine zab rfl rfl rfl (zac (.inl rfl) (ev1 rfl)) ?_
  refine zah (gd_t rfl rfl rfl) rfl rfl rfl (zac (.inl rfl) (ev1 rfl)) ?_
  refine zah (gd_t rfl rfl rfl) rfl rfl rfl (zac (.inl rfl) (ev1 rfl)) ?_
  refine zah (gd_t rfl rfl rfl) rfl rfl rfl (zaj [] [] [] rfl (ev1 rfl) (ec (ev2 rfl) (ec (ev2 rfl) en)) rfl rfl (differ_d 1 1 _ _ wkT wkU (dpR_ok _) (dpR_ok _) wkT_ok wkU_ok) rfl rfl rfl rfl rfl rfl) ?_
  refine zah (gd_t rfl rfl rfl) rfl rfl rfl (op_len rfl sl25 (ev2 rfl)) ?_
  refine zah (gd_t rfl rfl rfl) rfl rfl rfl (op_eql rfl (ev2 rfl) (ev1 rfl)) ?_
  refine zab rfl rfl rfl (op_and rfl (ev1 rfl) (ev3 rfl id)) ?_
  refine zab rfl rfl rfl (zac (.inl rfl) (ev1 rfl)) ?_
  refine zah (gd_t rfl rfl rfl) rfl rfl rfl (op_ldmw rfl tb24 (ev1 rfl) rfl rfl) ?_
  refine zah (gd_t rfl rfl rfl) rfl rfl rfl (zaj [] [] [] rfl (ev1 rfl) (ec (ev2 rfl) en) rfl rfl (wears_ok 2 2 wkL wkS_ok) rfl rfl rfl rfl rfl rfl) ?_
  refine zah (gd_t rfl rfl rfl) rfl rfl rfl (op_eql rfl (ev2 rfl) (ev1 rfl)) ?_
  refine zab rfl rfl rfl (op_and rfl (ev1 rfl) (ev3 rfl id)) ?_
  refine zab rfl rfl rfl (zac (.inr rfl) (ev1 rfl)) ?_
  refine zae ?_
  refine dwp_ret ?_
  refine kend0 (rs1 rfl (rv_t rfl)) rfl ?_
  rw [wk_turn, wk_flip, wk_cut, wk_dif]
  kernel_rfl
end Go.Proofs.Ytadjbiccndaclaa
namespace Go.Proofs.Ytadjbiccndaclaa
set_option maxRecDepth 4000
set_option linter.unusedVariables false
set_option linter.unusedSimpArgs false
open Go.RowKit
theorem tkmin {α : Type} (l : List α) (n : Nat) : l.take (min l.length n) = l.take n := by
  rcases Nat.le_total l.length n with h | h
  · rw [Nat.min_eq_left h, List.take_length, List.take_of_length_le h]
  · rw [Nat.min_eq_right h]
set_option maxRecDepth 4000 in
set_option maxHeartbeats 1000000 in
theorem sown_d (w h : Int) (l : List C4) : DFun Try.prog 9 [.agg [.val (.int .i64 w), .val (.int .i64 h), .slf 4 l.length (l.flatMap c4)]] [] (.agg [.val (.int .i64 w), .val (.int .i64 h), .slf 4 (l.take 66).length ((l.take 66).flatMap c4)]) [] := by
  refine dcalls_go (N := 13) 0 (by kernel_rfl) Try.func9 rfl rfl rfl (by simp only [fr0, Nat.zero_add, Nat.reduceAdd]; exact rfl) rfl fun s0 hs0 => ?_
  refine zaf ?_
  refine zai 2 (by simp only [holes, List.cons_append, List.nil_append]; exact rfl) ?_
  refine zad ?_
  refine zak rfl rfl rfl (op_boxam 0 rfl (ev1 rfl) rfl) (by simp only [upd, za, zaa]; exact rfl) ?_
  refine zak rfl rfl rfl (zal 1 rfl zr24 rfl) (by simp only [upd, za, zaa]; exact rfl) ?_
  refine zae ?_
  refine zaf ?_
  refine zad ?_
  refine zab rfl rfl rfl (op_fa rfl fo24_2 (ev1 rfl)) ?_
  refine zab rfl rfl rfl (op_ldm rfl tb22 (ev1 rfl) rfl rfl) ?_
  refine zab rfl rfl rfl (op_fa rfl fo24_2 (ev1 rfl)) ?_
  refine zab rfl rfl rfl (op_ldm rfl tb22 (ev1 rfl) rfl rfl) ?_
  refine zab rfl rfl rfl (op_len rfl sl22 (ev1 rfl)) ?_
  refine zab rfl rfl rfl (op_min rfl (ev1 rfl) (ev1 rfl)) ?_
  refine zab rfl rfl rfl (op_sltk (j := min l.length 66) rfl sl22 (ev1 rfl) (bd_some (ev1 rfl)) (fun _ => by omega) (fun _ => by omega) (fun _ => rfl)) ?_
  refine zab rfl rfl rfl (zaj [] [] [] rfl (ev1 rfl) (ec (ev1 rfl) en) rfl rfl (cloneC_f _ (by rw [List.length_take]; omega)) rfl rfl rfl rfl rfl rfl) ?_
  refine zab rfl rfl rfl (op_fa rfl fo24_2 (ev1 rfl)) ?_
  refine walk_s rfl rfl (op_stm rfl tb22 (ev1 rfl) (ev1 rfl) (fun s v h => by cases h <;> exact ⟨rfl, rfl⟩) rfl (by first | decide | exact Nat.le_of_ble_eq_true rfl | simp)) (by simp only [upd, za, zaa]; exact rfl) ?_
  refine zae ?_
  refine zaf ?_
  refine zad ?_
  refine zab rfl rfl rfl (op_ldmw rfl tb24 (ev1 rfl) rfl rfl) ?_
  refine walk_s rfl rfl (op_stam rfl tb24 (ev1 rfl) (ev1 rfl) rfl rfl rfl rfl) (by simp only [upd, za, zaa]; exact rfl) ?_
  refine zae ?_
  refine dwp_ret ?_
  refine kend0 (rs1 rfl (rv_mw tb24 rfl rfl rfl)) rfl ?_
  rw [tkmin]
theorem wk_zst (e : Int) : Wk (.tup [.val (.agg #[.int .i64 0, .int .i64 0, .slice none 0 0]), .val (.int .i64 e)]) (.tup [.agg [.val (.int .i64 0), .val (.int .i64 0), .slf 4 ([] : List C4).length (([] : List C4).flatMap c4)], .val (.int .i64 e)]) := Wk.tup (.cons ((Wk.vagg _).trans (Wk.agg (.cons (.refl _) (.cons (.refl _) (.cons (Wk.slf0 4) .nil))))) (.cons (.refl _) .nil))
end Go.Proofs.Ytadjbiccndaclaa
