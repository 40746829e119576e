/- canvases with dots; canvases with dots, as they show; canvases compared, point by point; where canvases differ; what the laws begin with; the layer does something. No condition. -/
import Derived.Test.YtkhlobbkoodkmaaQ3
import Derived.Test.YtkhlobbkoodkmaaRows
namespace Go.Proofs.Ytkhlobbkoodkmaa
set_option linter.unusedVariables false
set_option linter.unusedSimpArgs false
open Go.RowKit
theorem fl89 : fdL Try.prog 89 = some [(0, 2), (2, 1), (3, 1), (4, 1)] := by kernel_rfl
theorem zr89 : zrC Try.prog 89 = some [.int .i64 0, .int .i64 0, .nilFunc, .slice none 0 0, .map none] := by kernel_rfl
theorem rowS_fits {f g n : Nat} {ts es : List TL} {ds : List D} {ks seen : List Nat} {σ : List Nat} {V : Nat → Bool} {M : List Blk} {T : TypeId} {l l' : List D} (hn : D.nlL ds = true) (hl : l = rowS f ts es ds ks seen) (hl' : l' = rowS g ts es ds ks seen) (hp : pos σ f = some g) : (vwL σ V M l).map (Blk.arx T 1 n) = some (Blk.arx T 1 n l') := by
  subst hl hl'
  have h : ∀ r : List Nat, (∀ q ∈ r, q < ds.length) → vwL σ V M (r.map fun q => if q ∈ ks ∧ ks.idxOf q ∈ seen ∧ es[ks.idxOf q]? ≠ ts[q]? then D.floc f (ks.idxOf q) 0 else ds.getD q .junk) = some (r.map fun q => if q ∈ ks ∧ ks.idxOf q ∈ seen ∧ es[ks.idxOf q]? ≠ ts[q]? then D.floc g (ks.idxOf q) 0 else ds.getD q .junk) := fun r hr => by
    induction r with
    | nil => rfl
    | cons a r ih =>
      rw [List.map_cons, vwL, ih fun q hq => hr q (by simp [hq])]
      have : vw σ V M (if a ∈ ks ∧ ks.idxOf a ∈ seen ∧ es[ks.idxOf a]? ≠ ts[a]? then D.floc f (ks.idxOf a) 0 else ds.getD a .junk) = some (if a ∈ ks ∧ ks.idxOf a ∈ seen ∧ es[ks.idxOf a]? ≠ ts[a]? then D.floc g (ks.idxOf a) 0 else ds.getD a .junk) := by
        split
        · unfold vw; rw [hp]
        · exact vw_nl σ V M _ (nlL_mem hn (dsD (hr a (by simp))))
      rw [this]; rfl
  have := h (List.range ds.length) fun q hq => by simpa using hq
  unfold rowS
  rw [this]; rfl
theorem tc_whole (t : TL) : ((tc t).drop 0).take 256 = tc t := by rw [List.drop_zero, List.take_of_length_le (by rw [tc_len]; exact Nat.le_refl _)]
theorem getq {l : List TL} {p : Nat} (h : p < l.length) : l[p]? = some (l.getD p zT) := by rw [List.getElem?_eq_getElem h, tl_at h]
theorem all_in : ∀ {n : Nat} {seen : List Nat} (h : seen.Nodup) (hl : ∀ p ∈ seen, p < n), seen.length ≤ n
  | 0, seen, h, hl => by
    cases seen with
    | nil => exact Nat.le_refl _
    | cons a l => exact absurd (hl a (by simp)) (Nat.not_lt_zero _)
  | n + 1, seen, h, hl => by
    have h1 := all_in (n := n) (seen := seen.erase n) (h.erase n) fun p hp => by
      have h2 := hl p (List.mem_of_mem_erase hp)
      have h3 : p ≠ n := fun e => by subst e; exact absurd hp (List.Nodup.not_mem_erase h)
      omega
    rw [List.length_erase] at h1
    split at h1 <;> omega
def FromCv (I : Nat → Prop) (w h : Int) (ds : List D) (ts us : List TL) (d : D) : Prop := ∃ ps, RowP I ds ps ts us ∧ d = cvD w h ps
set_option maxRecDepth 4000 in
set_option maxHeartbeats 1000000 in
theorem done_i (w h : Int) (ds : List D) (ts us : List TL) (hr : RowOk ds ts) (hc : CvOk w h ts) (s : List Nat × List TL) (hs : DotOk ts us s) : DFunI Try.prog 47 [.loc 0 0] [.mix 89 [.val (.int .i64 w), .val (.int .i64 h), .fn (.func 53) [] [.loc 4 0, .loc 5 0], .arr 1, .hnd 2], .arx 78 1 ds.length ds, .mpd (kI s.1) (ptN 3 s.2.length), .fam (tlM s.2), .flat 3 [.int .i64 (w * 8)], .flat 3 [.int .i64 (h * 8)]] (fun I => FromCv I w h ds ts us) [.gone, .gone, .gone, .gone, .gone, .gone] := by
  have hlen := hs.len
  have hdl := hr.len
  refine dcallsI_go (N := 45) 6 (by kernel_rfl) Try.func47 rfl rfl rfl (by simp only [fr0, Nat.zero_add, Nat.reduceAdd]; exact rfl) rfl fun s0 hs0 => ?_
  refine zae ?_
  refine zad ?_
  refine zab rfl rfl rfl (zac (.inr rfl) (ev1 rfl)) ?_
  refine zaf ?_
  refine zae ?_
  refine zae ?_
  refine dwp_holes 1 (by simp only [holes, List.cons_append, List.nil_append]; exact rfl) ?_
  refine zad ?_
  refine zab rfl rfl rfl (zac (.inl rfl) (ev1 rfl)) ?_
  refine zab rfl rfl rfl (op_nc rfl (ev1 rfl) (fun s v h => by cases h; exact ⟨_, rfl⟩)) ?_
  refine zab rfl rfl rfl (op_fa rfl fo89_3 (ev1 rfl)) ?_
  refine zab rfl rfl rfl (op_ldm rfl tb87 (ev1 rfl) rfl rfl) ?_
  refine walk_w rfl rfl rfl (op_rgd 6 rfl mp87 (ev1 rfl) rfl rfl) (by simp only [upd, za, zaa]; exact rfl) ?_
  refine zaf ?_
  refine dwp_block ?_
  refine dwp_loopS ⟨hs0, rfl⟩ (α := List Nat) (fun sn => []) [(0, _), (9, _)] (fun sn => [(1, .arx 78 1 ds.length (rowS 3 ts s.2 ds s.1 sn)), (6, .mit (.hnd 2) (kI s.1).length sn)]) [_, .hole, _, _, _, _, .hole] (fun sn => sn.Nodup ∧ ∀ p ∈ sn, p < s.1.length) (fun sn => s.1.length - sn.length) [] [0, 1, 2, 3, 4, 5, 6] (⟨List.nodup_nil, fun p hp => by simp at hp⟩) rfl ⟨rfl, rfl, trivial⟩ trivial ⟨rfl, arxn_fits hr.nl rfl (rowS_nil ..).symm, ptN_mpd rfl rfl rfl rfl, rfl, rfl, rfl, rfl, trivial⟩ ?_
  intro sn hx
  simp only [upd, za, zaa, List.cons_append, List.nil_append]
  obtain ⟨hnd, hlt⟩ := hx
  refine zae ?_
  refine zad ?_
  refine walk_e rfl rfl rfl (op_nxd rfl (ev1 rfl) rfl rfl) ?_
  rintro d wr (⟨rfl, rfl, hall⟩ | ⟨p, kp, ep, hkp, hep, hnp, rfl, rfl⟩)
  · simp only [upd]
    refine zab rfl rfl rfl (op_ext rfl (ev1 rfl) rfl) ?_
    refine zaf ?_
    refine zae ?_
    refine dwp_if_f rfl (rfl) ?_
    refine dwp_exit ?_
    refine zae ?_
    refine dwp_frz 3 1 rfl rfl (tlM_flat) fun ad had => ?_
    simp only [za, zaa]
    have hP := rowS_frz (f := 3) (I := s0.I) (seen := sn) hr hs (fun p hp => hall p (by simpa using hp)) (fun k hk => had k (by simpa using hk))
    have hPk := hP.ok hr hs.ul
    refine dwp_givem 0 3 (hPk.nl) rfl rfl rfl (by simp only [za, zaa]; exact rfl) ?_
    refine dwp_draw [([], []), ([], []), ([], []), ([0], []), ([], []), ([], []), ([], []), ([0], []), ([], []), ([], []), ([], [])] mixed (by kernel_rfl) ?_
    refine zag rfl rfl (zac (.inl rfl) (ev1 rfl)) ?_
    refine zag rfl rfl (op_nc rfl (ev1 rfl) (fun s v h => by cases h; exact ⟨_, rfl⟩)) ?_
    refine zag rfl rfl (op_fa rfl fo89_0 (ev1 rfl)) ?_
    refine zag rfl rfl (op_ldmv (R := [_, _]) rfl tb72 (ev1 rfl) rfl rfl rfl) ?_
    refine zag rfl rfl (zac (.inl rfl) (ev1 rfl)) ?_
    refine zag rfl rfl (op_nc rfl (ev1 rfl) (fun s v h => by cases h; exact ⟨_, rfl⟩)) ?_
    refine zag rfl rfl (op_fa rfl fo89_2 (ev1 rfl)) ?_
    refine zag rfl rfl (op_ldm rfl tb74 (ev1 rfl) rfl rfl) ?_
    refine zag rfl rfl (op_bldD (ps := [(0, .tmp 38), (1, .tmp 42)]) rfl fl76 zr76 (ec (ev1 rfl) (ec (ev1 rfl) en)) rfl rfl rfl) ?_
    refine zag rfl rfl (op_boxf rfl rfl (ev1 rfl)) ?_
    refine zag rfl rfl (zac (.inr rfl) (ev1 rfl)) ?_
    refine lex_nil ?_
    refine dwp_gone 0 (by simp only [za, zaa]; exact rfl) ?_
    refine dwp_gone 2 (by simp only [za, zaa]; exact rfl) ?_
    refine dwp_gone 4 (by simp only [za, zaa]; exact rfl) ?_
    refine dwp_gone 5 (by simp only [za, zaa]; exact rfl) ?_
    refine dwp_ret ?_
    refine kendI (post := fun I => FromCv I w h ds ts us) (I := s0.I) (Mo := [.gone, .gone, .gone, .gone, .gone, .gone]) [0, 1, 2, 3, 4, 5] (rs1 rfl (rv_t rfl)) rfl rfl ?_ ⟨rfl, rfl, rfl, rfl, rfl, rfl, trivial⟩
    exact ⟨_, hP, by rw [cvD, hP.len]; rfl⟩
  · simp only [upd, za, zaa]
    have hp1 : p < s.1.length := by have := (List.getElem?_eq_some_iff.1 hkp).1; simpa using this
    obtain ⟨q, hq⟩ : ∃ q, s.1[p]? = some q := ⟨_, List.getElem?_eq_getElem hp1⟩
    obtain rfl : kp = (q : Int) := by rw [List.getElem?_map, hq] at hkp; exact (Option.some.inj hkp).symm
    obtain rfl : ep = .floc 3 p 0 := by rw [ptN_at (by omega)] at hep; exact (Option.some.inj hep).symm
    have hqt := hs.lt q (List.mem_of_getElem? hq)
    obtain ⟨e, hd, _, _, _, hw⟩ := hr.at hqt
    have hes := tlM_at (es := s.2) (k := p) (by omega)
    refine zab rfl rfl rfl (op_ext rfl (ev1 rfl) rfl) ?_
    refine zaf ?_
    refine zae ?_
    refine dwp_if_t rfl (rfl) ?_
    refine dwp_skip ?_
    refine dwp_block ?_
    refine zae ?_
    refine zad ?_
    refine zab rfl rfl rfl (op_ent rfl (ev1 rfl) rfl rfl (hkp) (hep)) ?_
    refine zab rfl rfl rfl (op_ext rfl (ev1 rfl) rfl) ?_
    refine zab rfl rfl rfl (op_ext rfl (ev1 rfl) rfl) ?_
    refine zab rfl rfl rfl (zac (.inr rfl) (ev1 rfl)) ?_
    refine zab rfl rfl rfl (zac (.inr rfl) (ev1 rfl)) ?_
    refine zaf ?_
    refine zae ?_
    refine dwp_draw [([], []), ([], []), ([3], []), ([], []), ([], []), ([], []), ([0], []), ([], []), ([1], []), ([1], []), ([], []), ([], []), ([], [])] mixed (by kernel_rfl) ?_
    refine zag rfl rfl (zac (.inl rfl) (ev1 rfl)) ?_
    refine zag rfl rfl (op_nc rfl (ev1 rfl) (fun s v h => by cases h; exact ⟨_, rfl⟩)) ?_
    refine zag rfl rfl (op_ldfp rfl tb52 (ev1 rfl) rfl (hes) (tc_whole _) (tc_len _)) ?_
    refine zag rfl rfl (zac (.inl rfl) (ev1 rfl)) ?_
    refine zag rfl rfl (op_nc rfl (ev1 rfl) (fun s v h => by cases h; exact ⟨_, rfl⟩)) ?_
    refine zag rfl rfl (op_fa rfl fo89_2 (ev1 rfl)) ?_
    refine zag rfl rfl (op_ldm rfl tb74 (ev1 rfl) rfl rfl) ?_
    refine zag rfl rfl (zac (.inl rfl) (ev1 rfl)) ?_
    refine zag rfl rfl (op_ixx (q) rfl sl74 (ev1 rfl) (ev1 rfl) rfl (fun _ => rfl) (fun _ => by omega)) ?_
    refine zag rfl rfl ((op_ldx rfl tb78 (ev1 rfl) rfl (by rw [Nat.mul_one, rowS_at hs.nd hq hnp (by omega)]; exact hd)).wk (hw)) ?_
    refine zag rfl rfl (op_nc rfl (ev1 rfl) (fun s v h => by cases h; exact ⟨_, rfl⟩)) ?_
    refine zag rfl rfl (op_ldwd rfl tb52 (ev1 rfl) (tc_len _)) ?_
    refine zag rfl rfl (op_ner eq52 rfl gd52 tb52 (ev1 rfl) (ev1 rfl)) ?_
    refine lex_nil ?_
    have hle2 := all_in (n := s.1.length) (seen := sn ++ [p]) (by rw [List.nodup_append]; exact ⟨hnd, by simp, fun a ha b hb => by simp at hb; subst hb; exact fun e => hnp (e ▸ ha)⟩) (fun r hr => (List.mem_append.1 hr).elim (hlt r) fun h => by simp at h; subst h; exact hp1)
    rw [List.length_append] at hle2
    have hI : (sn ++ [p]).Nodup ∧ ∀ r ∈ sn ++ [p], r < s.1.length := ⟨by rw [List.nodup_append]; exact ⟨hnd, by simp, fun a ha b hb => by simp at hb; subst hb; exact fun e => hnp (e ▸ ha)⟩, fun r hr => (List.mem_append.1 hr).elim (hlt r) fun h => by simp at h; subst h; exact hp1⟩
    refine dwp_cond rfl (fun c2 => ?_) (fun c2 => ?_)
    · have hne : s.2[p]? ≠ ts[q]? := by rw [getq (by omega), getq hqt]; exact fun e => (show ¬ s.2.getD p zT = ts.getD q zT by simpa using c2) (Option.some.inj e)
      refine zad ?_
      refine zab rfl rfl rfl (zac (.inl rfl) (ev1 rfl)) ?_
      refine zab rfl rfl rfl (op_nc rfl (ev1 rfl) (fun s v h => by cases h; exact ⟨_, rfl⟩)) ?_
      refine zab rfl rfl rfl (op_fa rfl fo89_2 (ev1 rfl)) ?_
      refine zab rfl rfl rfl (op_ldm rfl tb74 (ev1 rfl) rfl rfl) ?_
      refine zab rfl rfl rfl (zac (.inl rfl) (ev1 rfl)) ?_
      refine zab rfl rfl rfl (zac (.inl rfl) (ev1 rfl)) ?_
      refine zab rfl rfl rfl (op_ixx (q) rfl sl74 (ev1 rfl) (ev1 rfl) rfl (fun _ => rfl) (fun _ => by omega)) ?_
      refine walk_s rfl rfl (op_stx0 (j := q) rfl tb78 (ev1 rfl) (ev1 rfl) rfl (by rw [rowS_len]; omega) (fun s v h => by cases h <;> exact ⟨rfl, rfl⟩)) (by simp only [upd, za, zaa]; exact rfl) ?_
      refine zaf ?_
      refine ⟨sn ++ [p], [0, 1, 2, 3, 4, 5, 6], hI, by simp only [List.length_append, List.length_cons, List.length_nil] at hle2 ⊢; omega, rfl, ⟨rfl, rfl, trivial⟩, ⟨rfl, rowS_fits hr.nl (by rw [rowS_step hs.nd hq hnp (by omega), if_pos hne]) rfl rfl, ptN_mpd rfl rfl rfl rfl, rfl, rfl, rfl, rfl, trivial⟩⟩
    · have hne : ¬ s.2[p]? ≠ ts[q]? := by rw [getq (by omega), getq hqt]; simpa using c2
      refine dwp_skip ?_
      refine ⟨sn ++ [p], [0, 1, 2, 3, 4, 5, 6], hI, by simp only [List.length_append, List.length_cons, List.length_nil] at hle2 ⊢; omega, rfl, ⟨rfl, rfl, trivial⟩, ⟨rfl, rowS_fits hr.nl rfl (by rw [rowS_step hs.nd hq hnp (by omega), if_neg hne]) rfl, ptN_mpd rfl rfl rfl rfl, rfl, rfl, rfl, rfl, trivial⟩⟩
theorem sb_ptNm {τ : List Nat} {ks : List Int} {f g n : Nat} (hp : τ[f]? = some g) : sbB τ (.mpd ks (ptN f n)) = some (.mpd ks (ptN g n)) := by
  have h : ∀ r : List Nat, sbL τ (r.map fun k => D.floc f k 0) = some (r.map fun k => D.floc g k 0) := fun r => by
    induction r with
    | nil => rfl
    | cons a r ih =>
      rw [List.map_cons, sbL, ih]
      have : sb τ (.floc f a 0) = some (.floc g a 0) := by unfold sb; rw [hp]; rfl
      rw [this]; rfl
  show (sbL τ _).map _ = _
  rw [h]; rfl
theorem FromCv.nl {I : Nat → Prop} {w h : Int} {ds : List D} {ts us : List TL} {d : D} (hr : RowOk ds ts) (hl : us.length = ts.length) (hf : FromCv I w h ds ts us d) : d.nl = true := by
  obtain ⟨ps, hp, rfl⟩ := hf
  rfl
set_option maxRecDepth 4000 in
set_option maxHeartbeats 1000000 in
theorem clonePt_d (ds : List D) (ts : List TL) (hr : RowOk ds ts) (h1 : 1 ≤ ts.length) (hn : ts.length ≤ 5000) : DFun Try.prog 45 [.slm 1 ds.length ds] [] (.arr 0) [.arx 78 1 ds.length ds] := by
  have hdl := hr.len
  refine dcalls_go (N := 8) 0 (by kernel_rfl) Try.func45 rfl rfl rfl (by simp only [fr0, Nat.zero_add, Nat.reduceAdd]; exact rfl) rfl fun s0 hs0 => ?_
  refine dwp_lenm (t := 0) rfl fun hl0 hL0 => ?_
  refine zae ?_
  refine zad ?_
  refine zab rfl rfl rfl (zac (.inr rfl) (ev1 rfl)) ?_
  refine zaf ?_
  refine zae ?_
  refine zae ?_
  refine zad ?_
  refine zab rfl rfl rfl (zac (.inl rfl) (ev1 rfl)) ?_
  refine walk_nilm? rfl rfl rfl rfl sl74 (ev1 rfl) fun nb4 hnb4 => ?_
  refine zaf ?_
  refine dwp_cond rfl (fun c1 => ?_) (fun c1 => ?_)
  · exact absurd (hnb4 c1).1 (by omega)
  · try simp only [decide_eq_true_eq, decide_eq_false_iff_not, beq_iff_eq, bne_iff_ne, beq_eq_false_iff_ne, bne_eq_false_iff_eq, Bool.not_eq_true', Bool.not_eq_false', Bool.and_eq_true, Bool.or_eq_true, Bool.or_eq_false_iff, ne_eq, Decidable.not_not, Int.not_lt, Int.not_le] at c1
    refine dwp_skip ?_
    refine zae ?_
    refine dwp_holes 2 (by simp only [holes, List.cons_append, List.nil_append]; exact rfl) ?_
    refine zad ?_
    refine walk_w rfl rfl rfl (op_bsx (ps := []) 0 (fun s d v hd hr => by simp at hd) rfl sl74 zr78 rfl en (by decide) rfl) (by simp only [upd, za, zaa]; exact rfl) ?_
    refine zab rfl rfl rfl (zac (.inl rfl) (ev1 rfl)) ?_
    refine walk_w rfl rfl rfl (op_appr (j := 1) rfl sl74 zr78 rfl (ev1 rfl) (ev1 rfl) rfl rfl (hr.oc) (fun _ => ⟨by omega, by omega⟩)) (by simp only [upd, za, zaa]; exact rfl) ?_
    refine zab rfl rfl rfl (zac (.inr rfl) (ev1 rfl)) ?_
    refine zaf ?_
    refine dwp_ret ?_
    refine kend [1] (rs1 rfl (rv_t rfl)) rfl rfl ?_ ⟨?_, trivial⟩
    rfl
    exact arxn_fits hr.nl (Nat.zero_add _) rfl
set_option maxRecDepth 4000 in
set_option maxHeartbeats 1000000 in
theorem with_i (w h : Int) (ds : List D) (ts : List TL) (hr : RowOk ds ts) (hc : CvOk w h ts) (l : List Dt) : DFunI Try.prog 21 [cvD w h ds, .slf 6 l.length (l.flatMap dtC)] [] (fun I => FromCv I w h ds ts (putsC w h ts l)) [] := by
  have hle := hc.le
  have hdl := hr.len
  refine dcallsI_go (N := 42) 0 (by kernel_rfl) Try.func21 rfl rfl rfl (by simp only [fr0, Nat.zero_add, Nat.reduceAdd]; exact rfl) rfl fun s0 hs0 => ?_
  refine dwp_len (t := 1) rfl fun hl1 hL1 => ?_
  refine zae ?_
  refine zad ?_
  refine zab rfl rfl rfl (zac (.inr rfl) (ev1 rfl)) ?_
  refine zaf ?_
  refine zae ?_
  refine zae ?_
  refine zad ?_
  refine zab rfl rfl rfl (zac (.inl rfl) (ev1 rfl)) ?_
  refine zab rfl rfl rfl (op_pnilm rfl pt32 (ev1 rfl)) ?_
  refine zaf ?_
  refine dwp_if_f rfl (rfl) ?_
  refine dwp_skip ?_
  refine zae ?_
  refine dwp_holes 5 (by simp only [holes, List.cons_append, List.nil_append]; exact rfl) ?_
  refine dwp_draw [([], []), ([], []), ([], []), ([], []), ([], []), ([], []), ([], []), ([], []), ([0, 1], [0, 1]), ([], []), ([], []), ([], []), ([], []), ([2], [2]), ([3], [3]), ([3], []), ([4], [4]), ([], [])] mixed (by kernel_rfl) ?_
  refine zag rfl rfl (zac (.inl rfl) (ev1 rfl)) ?_
  refine zag rfl rfl (op_nc rfl (ev1 rfl) (fun s v h => by cases h; exact ⟨_, rfl⟩)) ?_
  refine zag rfl rfl (op_fadm rfl fo76_0 (ev1 rfl)) ?_
  refine zag rfl rfl (op_lddv [_, _] rfl tb72 (ev1 rfl) rfl rfl) ?_
  refine zag rfl rfl (zac (.inl rfl) (ev1 rfl)) ?_
  refine zag rfl rfl (op_nc rfl (ev1 rfl) (fun s v h => by cases h; exact ⟨_, rfl⟩)) ?_
  refine zag rfl rfl (op_fadm rfl fo76_0 (ev1 rfl)) ?_
  refine zag rfl rfl (op_lddv [_, _] rfl tb72 (ev1 rfl) rfl rfl) ?_
  refine lex_w rfl rfl (dop_call [] [] [0, 1] rfl (ev1 rfl) (ec (ev1 rfl) en) rfl rfl (sasks_d w h hc.may) rfl rfl rfl rfl rfl rfl) rfl (by simp only [upd, za, zaa]; exact rfl) ?_
  refine zag rfl rfl (zac (.inl rfl) (ev1 rfl)) ?_
  refine zag rfl rfl (op_nc rfl (ev1 rfl) (fun s v h => by cases h; exact ⟨_, rfl⟩)) ?_
  refine zag rfl rfl (op_fadm rfl fo76_1 (ev1 rfl)) ?_
  refine zag rfl rfl (op_lddm rfl tb74 (ev1 rfl) rfl) ?_
  refine lex_w rfl rfl (dop_call [] [] [2] rfl (ev1 rfl) (ec (ev1 rfl) en) rfl rfl (clonePt_d ds ts hr hle.2 (by omega)) rfl rfl rfl (by exact (wrc (sb_arxn hr.nl) rfl)) rfl rfl) rfl (by simp only [upd, za, zaa]; exact rfl) ?_
  refine lex_w rfl rfl (op_mkd 3 rfl rfl) rfl (by simp only [upd, za, zaa]; exact rfl) ?_
  refine zag rfl rfl (op_bldDh (ps := [(0, .tmp 14), (1, .tmp 19), (2, .tmp 24), (3, .tmp 25)]) 3 rfl fl89 zr89 (ec (ev1 rfl) (ec (ev1 rfl) (ec (ev1 rfl) (ec (ev1 rfl) en)))) rfl rfl rfl rfl) ?_
  refine lex_w rfl rfl (op_boxam 4 rfl (ev1 rfl) rfl) rfl (by simp only [upd, za, zaa]; exact rfl) ?_
  refine zag rfl rfl (zac (.inr rfl) (ev1 rfl)) ?_
  refine lex_nil ?_
  refine zae ?_
  refine zad ?_
  refine zab rfl rfl rfl (zac (.inl rfl) (ev1 rfl)) ?_
  refine zab rfl rfl rfl (op_mkf rfl (ec (ev1 rfl) en) en) ?_
  refine zab rfl rfl rfl (zac (.inr rfl) (ev1 rfl)) ?_
  refine zaf ?_
  refine zae ?_
  refine zae ?_
  refine dwp_hole ?_
  refine dwp_fam 5 rfl (by simp only [List.cons_append, List.nil_append, za, zaa]; exact rfl) ?_
  refine zad ?_
  refine zab rfl rfl rfl (zac (.inl rfl) (ev1 rfl)) ?_
  refine zab rfl rfl rfl (op_len rfl sl60 (ev1 rfl)) ?_
  refine zab rfl rfl rfl (zac (.inl rfl) (ev1 rfl)) ?_
  refine zaf ?_
  refine dwp_block ?_
  refine dwp_loopS ⟨hs0, rfl⟩ (α := Nat) (fun k => [(32, .val (.int .i64 (k : Int)))]) [(5, _), (6, _), (30, _), (31, _)] (fun k => [(3, .mpd (kI (dotsS w h ts (l.take k)).1) (ptN 5 (dotsS w h ts (l.take k)).2.length)), (5, .fam (tlM (dotsS w h ts (l.take k)).2))]) [_, _, _, .hole, _, .hole] (fun k => k ≤ l.length) (fun k => l.length - k) 0 [0, 1, 2, 3, 4, 5] (Nat.zero_le _) rfl ⟨rfl, rfl, rfl, rfl, trivial⟩ ⟨rfl, trivial⟩ ⟨rfl, rfl, arxd_fits hr, rfl, rfl, rfl, trivial⟩ ?_
  intro k hx
  simp only [upd, za, zaa, List.cons_append, List.nil_append]
  have hk := hx
  have hs := dotsS_ok hc (l.take k) ts _ (dotOk_nil ts)
  refine zae ?_
  refine zad ?_
  refine zab rfl rfl rfl (op_lss rfl (ev1 rfl) (ev1 rfl)) ?_
  refine zaf ?_
  refine zae ?_
  refine dwp_cond rfl (fun c2 => ?_) (fun c2 => ?_)
  · try simp only [decide_eq_true_eq, decide_eq_false_iff_not, beq_iff_eq, bne_iff_ne, beq_eq_false_iff_ne, bne_eq_false_iff_eq, Bool.not_eq_true', Bool.not_eq_false', Bool.and_eq_true, Bool.or_eq_true, Bool.or_eq_false_iff, ne_eq, Decidable.not_not, Int.not_lt, Int.not_le] at c2
    refine dwp_skip ?_
    refine zae ?_
    refine dwp_block ?_
    refine zae ?_
    refine dwp_holes 1 (by simp only [holes, List.cons_append, List.nil_append]; exact rfl) ?_
    refine zad ?_
    refine zab rfl rfl rfl (op_ixsr (j := k) rfl sl60 (ev1 rfl) (ev1 rfl) (fun _ => rfl) (by decide) (by omega) (by omega)) ?_
    refine zab rfl rfl rfl (op_ldwd rfl tb47 (ev1 rfl) rfl) ?_
    refine walk_w rfl rfl rfl (op_alloc 6 rfl zr47 rfl) (by simp only [upd, za, zaa]; exact rfl) ?_
    refine walk_s rfl rfl (op_stwa rfl tb47 (ev1 rfl) (ev1 rfl) rfl rfl rfl rfl) (by simp only [upd, za, zaa]; exact rfl) ?_
    refine zaf ?_
    refine zad ?_
    refine zab rfl rfl rfl (zac (.inl rfl) (ev1 rfl)) ?_
    refine zab rfl rfl rfl (op_ldw rfl tb47 (ev1 rfl) rfl rfl) ?_
    refine walk_w rfl rfl rfl (dop_call [4, 2, 3, 5, 0, 1] [] [] rfl (ev1 rfl) (ec (ev1 rfl) en) rfl (by exact mfits _ _ ⟨rfl, arxd_fits hr, ptN_mpd rfl rfl rfl rfl, rfl, rfl, rfl, trivial⟩) (dot_d w h ds ts _ hr hc (dotsS w h ts (l.take k)) hs l[k]) rfl rfl rfl (by exact (wrc rfl (wrc (sb_arxn hr.nl) (wrc (sb_ptNm rfl) (wrc rfl (wrc rfl (wrc rfl rfl))))))) rfl rfl) (by simp only [upd, za, zaa]; exact rfl) ?_
    refine zaf ?_
    refine zad ?_
    refine zab rfl rfl rfl (op_add' rfl (ev1 rfl) (ev1 rfl) (fun _ => IntWalk.i64_in _ (by omega))) ?_
    refine zab rfl rfl rfl (zac (.inl rfl) (ev1 rfl)) ?_
    refine zaf ?_
    refine ⟨k + 1, [0, 1, 2, 3, 4, 5], by omega, by simp only []; omega, rfl, ⟨rfl, rfl, rfl, rfl, rfl, trivial⟩, ⟨rfl, rfl, arxd_fits hr, ptN_mpd (by rw [dotsS_take (by omega)]) rfl (by rw [dotsS_take (by omega)]) rfl, rfl, by rw [dotsS_take (by omega)]; rfl, trivial⟩⟩
  · try simp only [decide_eq_true_eq, decide_eq_false_iff_not, beq_iff_eq, bne_iff_ne, beq_eq_false_iff_ne, bne_eq_false_iff_eq, Bool.not_eq_true', Bool.not_eq_false', Bool.and_eq_true, Bool.or_eq_true, Bool.or_eq_false_iff, ne_eq, Decidable.not_not, Int.not_lt, Int.not_le] at c2
    refine dwp_exit ?_
    refine zae ?_
    rw [List.take_of_length_le (by omega)] at *
    refine zad ?_
    refine zab rfl rfl rfl (zac (.inl rfl) (ev1 rfl)) ?_
    refine walk_i rfl rfl rfl (dop_callI [4, 2, 3, 5, 0, 1] [] rfl (ev1 rfl) (ec (ev1 rfl) en) rfl (by exact mfits _ _ ⟨rfl, arxd_fits hr, ptN_mpd rfl rfl rfl rfl, rfl, rfl, rfl, trivial⟩) (done_i w h ds ts _ hr hc _ (dotsS_ok hc l ts _ (dotOk_nil ts))) rfl rfl rfl rfl (fun I d hf => hf.nl hr (putsC_len ..))) (by simp only [upd, za, zaa]; exact rfl) ?_
    rintro I _ hI hP ⟨ps, h1, rfl⟩
    refine zab rfl rfl rfl (zac (.inr rfl) (ev1 rfl)) ?_
    refine zaf ?_
    refine dwp_ret ?_
    refine kendI (post := fun I => FromCv I w h ds ts (putsC w h ts l)) (I := s0.I) (Mo := []) [] (rs1 rfl (rv_t rfl)) rfl rfl ?_ trivial
    exact ⟨ps, ⟨h1.len, h1.eq, fun q t h2 h3 => let ⟨b, h4, h5⟩ := h1.ne q t h2 h3; ⟨b, fun h6 => h4 (hI b h6), h5⟩⟩, rfl⟩
end Go.Proofs.Ytkhlobbkoodkmaa
namespace Go.Proofs.Ytkhlobbkoodkmaa
set_option linter.unusedVariables false
set_option linter.unusedSimpArgs false
open Go.RowKit
theorem eq72 {a0 : Int} {a1 : Int} {b0 : Int} {b1 : Int} : eqT Try.prog 9 72 [.int .i64 a0, .int .i64 a1] [.int .i64 b0, .int .i64 b1] = some ((a0 == b0) && ((a1 == b1) && true)) := by kernel_rfl
theorem fl47 : fdL Try.prog 47 = some [(0, 1), (1, 1), (2, 4)] := by kernel_rfl
theorem gd72 : Try.prog.eqGuardType Try.prog.depth 72 = false := by kernel_rfl
def D.adr : D → Nat
  | .pin b _ => b
  | _ => 0
def shN : List D → List D → Nat
  | a :: l, b :: r => (if a.adr = b.adr then 1 else 0) + shN l r
  | _, _ => 0
theorem shN_take {l r : List D} {k : Nat} (h : k < l.length) (h2 : k < r.length) : shN (l.take (k + 1)) (r.take (k + 1)) = shN (l.take k) (r.take k) + if l[k].adr = r[k].adr then 1 else 0 := by
  induction l generalizing r k with
  | nil => exact absurd h (Nat.not_lt_zero _)
  | cons a l ih =>
    cases r with
    | nil => exact absurd h2 (Nat.not_lt_zero _)
    | cons b r =>
      cases k with
      | zero => simp [shN]
      | succ k =>
        simp only [List.take_succ_cons, shN, List.getElem_cons_succ]
        rw [ih (by simpa using h) (by simpa using h2)]
        omega
theorem shN_le (l r : List D) : shN l r ≤ l.length := by
  induction l generalizing r with
  | nil => exact Nat.le_refl _
  | cons a l ih =>
    cases r with
    | nil => exact Nat.zero_le _
    | cons b r =>
      have := ih r
      rw [shN, List.length_cons]
      split <;> omega
def Pins (l : List D) : Prop := ∀ d ∈ l, ∃ b L, d = .pin b L
theorem Pins.at {l : List D} (h : Pins l) {k : Nat} (hk : k < l.length) : ∃ L, l[k] = .pin l[k].adr L := by
  obtain ⟨b, L, e⟩ := h l[k] (List.getElem_mem hk)
  rw [e]
  exact ⟨L, rfl⟩
set_option maxRecDepth 4000 in
set_option maxHeartbeats 1000000 in
theorem shared_d (w h : Int) (da db : List D) (hl : db.length = da.length) (hn : da.length ≤ 5000) (hA : Pins da) (hB : Pins db) : DFun Try.prog 24 [cvD w h da, cvD w h db] [] (.val (.int .i64 (shN da db : Int))) [] := by
  refine dcalls_go (N := 48) 0 (by kernel_rfl) Try.func24 rfl rfl rfl (by simp only [fr0, Nat.zero_add, Nat.reduceAdd]; exact rfl) rfl fun s0 hs0 => ?_
  refine zae ?_
  refine zad ?_
  refine zab rfl rfl rfl (zac (.inr rfl) (ev1 rfl)) ?_
  refine zaf ?_
  refine zae ?_
  refine zae ?_
  refine dwp_draw [([], []), ([], []), ([], []), ([], []), ([], []), ([], []), ([], []), ([], []), ([], []), ([], []), ([], []), ([], []), ([], []), ([], []), ([], []), ([], []), ([], [])] mixed (by kernel_rfl) ?_
  refine zag rfl rfl (zac (.inl rfl) (ev1 rfl)) ?_
  refine zag rfl rfl (op_pnilm rfl pt32 (ev1 rfl)) ?_
  refine zag rfl rfl (zac (.inl rfl) (ev1 rfl)) ?_
  refine lex_gr (gd_f rfl rfl rfl) rfl rfl (zac (.inl rfl) (ev1 rfl)) ?_
  refine lex_gr (gd_f rfl rfl rfl) rfl rfl (op_pnilm rfl pt32 (ev2 rfl)) ?_
  refine zag rfl rfl (op_or rfl (ev1 rfl) (ev3 rfl id)) ?_
  refine zag rfl rfl (zac (.inl rfl) (ev1 rfl)) ?_
  refine lex_gr (gd_f rfl rfl rfl) rfl rfl (zac (.inl rfl) (ev1 rfl)) ?_
  refine lex_gr (gd_f rfl rfl rfl) rfl rfl (op_nc rfl (ev2 rfl) (fun s v h => by cases h; exact ⟨_, rfl⟩)) ?_
  refine lex_gr (gd_f rfl rfl rfl) rfl rfl (op_fadm rfl fo76_0 (ev2 rfl)) ?_
  refine lex_gr (gd_f rfl rfl rfl) rfl rfl (op_lddv [_, _] rfl tb72 (ev2 rfl) rfl rfl) ?_
  refine lex_gr (gd_f rfl rfl rfl) rfl rfl (zac (.inl rfl) (ev1 rfl)) ?_
  refine lex_gr (gd_f rfl rfl rfl) rfl rfl (op_nc rfl (ev2 rfl) (fun s v h => by cases h; exact ⟨_, rfl⟩)) ?_
  refine lex_gr (gd_f rfl rfl rfl) rfl rfl (op_fadm rfl fo76_0 (ev2 rfl)) ?_
  refine lex_gr (gd_f rfl rfl rfl) rfl rfl (op_lddv [_, _] rfl tb72 (ev2 rfl) rfl rfl) ?_
  refine lex_gr (gd_f rfl rfl rfl) rfl rfl (op_ner eq72 rfl gd72 tb72 (ev2 rfl) (ev2 rfl)) ?_
  refine zag rfl rfl (op_or rfl (ev1 rfl) (ev3 rfl id)) ?_
  refine lex_nil ?_
  refine dwp_if_f rfl (by simp) ?_
  refine dwp_skip ?_
  refine zae ?_
  refine zad ?_
  refine zab rfl rfl rfl (zac (.inr rfl) (ev1 rfl)) ?_
  refine zaf ?_
  refine zae ?_
  refine zae ?_
  refine zad ?_
  refine zab rfl rfl rfl (zac (.inl rfl) (ev1 rfl)) ?_
  refine zab rfl rfl rfl (op_nc rfl (ev1 rfl) (fun s v h => by cases h; exact ⟨_, rfl⟩)) ?_
  refine zab rfl rfl rfl (op_fadm rfl fo76_1 (ev1 rfl)) ?_
  refine zab rfl rfl rfl (op_lddm rfl tb74 (ev1 rfl) rfl) ?_
  refine zab rfl rfl rfl (op_lenm rfl sl74 (ev1 rfl)) ?_
  refine zab rfl rfl rfl (zac (.inl rfl) (ev1 rfl)) ?_
  refine zaf ?_
  refine dwp_block ?_
  refine dwp_loopS ⟨hs0, rfl⟩ (α := Nat) (fun k => [(5, .val (.int .i64 (shN (da.take k) (db.take k) : Int))), (30, .val (.int .i64 (k : Int)))]) [(1, _), (28, _), (29, _)] (fun k => []) [] (fun k => k ≤ da.length) (fun k => da.length - k) 0 [] (Nat.zero_le _) rfl ⟨rfl, rfl, rfl, trivial⟩ ⟨rfl, rfl, trivial⟩ trivial ?_
  intro k hx
  simp only [upd, za, zaa, List.cons_append, List.nil_append]
  have hk := hx
  have hsn := shN_le (da.take k) (db.take k)
  rw [List.length_take] at hsn
  refine zae ?_
  refine zad ?_
  refine zab rfl rfl rfl (op_lss rfl (ev1 rfl) (ev1 rfl)) ?_
  refine zaf ?_
  refine zae ?_
  refine dwp_cond rfl (fun c2 => ?_) (fun c2 => ?_)
  · try simp only [decide_eq_true_eq, decide_eq_false_iff_not, beq_iff_eq, bne_iff_ne, beq_eq_false_iff_ne, bne_eq_false_iff_eq, Bool.not_eq_true', Bool.not_eq_false', Bool.and_eq_true, Bool.or_eq_true, Bool.or_eq_false_iff, ne_eq, Decidable.not_not, Int.not_lt, Int.not_le] at c2
    refine dwp_skip ?_
    refine zae ?_
    refine dwp_block ?_
    refine zae ?_
    obtain ⟨L1, hp1⟩ := hA.at (k := k) (by omega)
    obtain ⟨L2, hp2⟩ := hB.at (k := k) (by omega)
    refine zad ?_
    refine zab rfl rfl rfl (zac (.inl rfl) (ev1 rfl)) ?_
    refine zab rfl rfl rfl (op_ixm (k) rfl sl74 (ev1 rfl) (ev1 rfl) (fun _ => rfl) (List.getElem?_eq_getElem (by omega))) ?_
    refine zab rfl rfl rfl ((op_lddm rfl tb78 (ev1 rfl) rfl).wk (Wk.of_eq hp1)) ?_
    refine zab rfl rfl rfl (zac (.inr rfl) (ev1 rfl)) ?_
    refine zab rfl rfl rfl (zac (.inr rfl) (ev1 rfl)) ?_
    refine zaf ?_
    refine zae ?_
    refine zad ?_
    refine zab rfl rfl rfl (zac (.inl rfl) (ev1 rfl)) ?_
    refine zab rfl rfl rfl (zac (.inl rfl) (ev1 rfl)) ?_
    refine zab rfl rfl rfl (op_nc rfl (ev1 rfl) (fun s v h => by cases h; exact ⟨_, rfl⟩)) ?_
    refine zab rfl rfl rfl (op_fadm rfl fo76_1 (ev1 rfl)) ?_
    refine zab rfl rfl rfl (op_lddm rfl tb74 (ev1 rfl) rfl) ?_
    refine zab rfl rfl rfl (zac (.inl rfl) (ev1 rfl)) ?_
    refine zab rfl rfl rfl (op_ixm (k) rfl sl74 (ev1 rfl) (ev1 rfl) (fun _ => rfl) (List.getElem?_eq_getElem (by omega))) ?_
    refine zab rfl rfl rfl ((op_lddm rfl tb78 (ev1 rfl) rfl).wk (Wk.of_eq hp2)) ?_
    refine zab rfl rfl rfl (op_eqp rfl pt78 tb52 rfl (ev1 rfl) (ev1 rfl)) ?_
    refine zaf ?_
    refine dwp_cond rfl (fun c2 => ?_) (fun c2 => ?_)
    · have c3 : da[k].adr = db[k].adr := by simpa using c2
      refine zad ?_
      refine zab rfl rfl rfl (zac (.inl rfl) (ev1 rfl)) ?_
      refine zab rfl rfl rfl (op_add' rfl (ev1 rfl) (ev1 rfl) (fun _ => IntWalk.i64_in _ (by omega))) ?_
      refine zab rfl rfl rfl (zac (.inr rfl) (ev1 rfl)) ?_
      refine zaf ?_
      refine zad ?_
      refine zab rfl rfl rfl (op_add' rfl (ev1 rfl) (ev1 rfl) (fun _ => IntWalk.i64_in _ (by omega))) ?_
      refine zab rfl rfl rfl (zac (.inl rfl) (ev1 rfl)) ?_
      refine zaf ?_
      refine ⟨k + 1, [], by omega, by simp only []; omega, rfl, ⟨by rw [shN_take (by omega) (by omega), if_pos c3]; rfl, rfl, rfl, rfl, rfl, trivial⟩, trivial⟩
    · have c3 : da[k].adr ≠ db[k].adr := by simpa using c2
      refine dwp_skip ?_
      refine zad ?_
      refine zab rfl rfl rfl (op_add' rfl (ev1 rfl) (ev1 rfl) (fun _ => IntWalk.i64_in _ (by omega))) ?_
      refine zab rfl rfl rfl (zac (.inl rfl) (ev1 rfl)) ?_
      refine zaf ?_
      refine ⟨k + 1, [], by omega, by simp only []; omega, rfl, ⟨by rw [shN_take (by omega) (by omega), if_neg c3]; rfl, rfl, rfl, rfl, rfl, trivial⟩, trivial⟩
  · try simp only [decide_eq_true_eq, decide_eq_false_iff_not, beq_iff_eq, bne_iff_ne, beq_eq_false_iff_ne, bne_eq_false_iff_eq, Bool.not_eq_true', Bool.not_eq_false', Bool.and_eq_true, Bool.or_eq_true, Bool.or_eq_false_iff, ne_eq, Decidable.not_not, Int.not_lt, Int.not_le] at c2
    refine dwp_exit ?_
    refine zae ?_
    refine zad ?_
    refine zab rfl rfl rfl (zac (.inl rfl) (ev1 rfl)) ?_
    refine zab rfl rfl rfl (zac (.inr rfl) (ev1 rfl)) ?_
    refine zaf ?_
    refine dwp_ret ?_
    rw [List.take_of_length_le (by omega), List.take_of_length_le (by omega)]
    refine kend0 (rs1 rfl (rv_t rfl)) rfl ?_
    rfl
end Go.Proofs.Ytkhlobbkoodkmaa
namespace Go.Proofs.Ytkhlobbkoodkmaa
set_option linter.unusedVariables false
set_option linter.unusedSimpArgs false
open Go.RowKit
theorem tb32 : tyB Try.prog 32 = some (false, 1) := by kernel_rfl
theorem tb4 : tyB Try.prog 4 = some (false, 1) := by kernel_rfl
theorem zr4 : zrC Try.prog 4 = some [.bool false] := by kernel_rfl
def rowEq (w : Int) (ts us : List TL) (y n : Nat) : Bool := (List.range n).all fun (x : Nat) => decide (getC w ts (x : Int) (y : Int) = getC w us (x : Int) (y : Int))
def allEq (w : Int) (ts us : List TL) (W n : Nat) : Bool := (List.range n).all fun (y : Nat) => rowEq w ts us y W
def sameF (w h : Int) (ts us : List TL) : Bool := allEq w ts us (w * 8).toNat (h * 8).toNat
theorem rowEq_succ (w : Int) (ts us : List TL) (y n : Nat) : rowEq w ts us y (n + 1) = (rowEq w ts us y n && decide (getC w ts (n : Int) (y : Int) = getC w us (n : Int) (y : Int))) := by
  unfold rowEq
  rw [List.range_succ, List.all_append]
  simp
theorem allEq_succ (w : Int) (ts us : List TL) (W n : Nat) : allEq w ts us W (n + 1) = (allEq w ts us W n && rowEq w ts us n W) := by
  unfold allEq
  rw [List.range_succ, List.all_append]
  simp
theorem sameF_no {w h : Int} {ts us : List TL} {x y : Nat} (hx : x < (w * 8).toNat) (hy : y < (h * 8).toNat) (hne : getC w ts (x : Int) (y : Int) ≠ getC w us (x : Int) (y : Int)) : sameF w h ts us = false := by
  rw [← Bool.not_eq_true]
  intro h1
  have h2 := List.all_eq_true.1 h1 y (List.mem_range.2 hy)
  have h3 := List.all_eq_true.1 h2 x (List.mem_range.2 hx)
  exact hne (by simpa using h3)
theorem pl_back {w : Int} {p q : Nat} (hw : 1 ≤ w) (hq : q < 64) : plN w ((p : Int) % w * 8 + (q : Int) % 8) ((p : Int) / w * 8 + (q : Int) / 8) = p ∧ pxN ((p : Int) % w * 8 + (q : Int) % 8) ((p : Int) / w * 8 + (q : Int) / 8) = q := by
  have h1 := Int.emod_nonneg (p : Int) (show w ≠ 0 by omega)
  have h2 : (0 : Int) ≤ (p : Int) / w := Int.ediv_nonneg (by omega) (by omega)
  have e := Int.mul_ediv_add_emod (p : Int) w
  unfold plN pxN
  generalize (p : Int) % w = r at h1 e ⊢
  generalize (p : Int) / w = d at h2 e ⊢
  have e1 : (d * 8 + (q : Int) / 8) / 8 = d := by omega
  have e2 : (r * 8 + (q : Int) % 8) / 8 = r := by omega
  have e3 : (d * 8 + (q : Int) / 8) % 8 = (q : Int) / 8 := by omega
  have e4 : (r * 8 + (q : Int) % 8) % 8 = (q : Int) % 8 := by omega
  rw [e1, e2, e3, e4, Int.mul_comm d w]
  omega
theorem on_back {w h : Int} {p q : Nat} (hm : mayS w h = true) (hp : (p : Int) < w * h) (hq : q < 64) : onS w h ((p : Int) % w * 8 + (q : Int) % 8) ((p : Int) / w * 8 + (q : Int) / 8) = true := by
  have hb := mayS_b hm
  have h1 := Int.emod_nonneg (p : Int) (show w ≠ 0 by omega)
  have h3 := Int.emod_lt_of_pos (p : Int) (show 0 < w by omega)
  have h2 : (0 : Int) ≤ (p : Int) / w := Int.ediv_nonneg (by omega) (by omega)
  have h4 : (p : Int) / w < h := Int.ediv_lt_of_lt_mul (by omega) (by rw [Int.mul_comm h w]; exact hp)
  exact onS_iff.2 ⟨by omega, by omega⟩
theorem sameF_iff {w h : Int} {ts us : List TL} (hc : CvOk w h ts) (hd : CvOk w h us) : sameF w h ts us = decide (ts = us) := by
  rw [Bool.eq_iff_iff]
  have hb := mayS_b hc.may
  have l1 := hc.len
  have l2 := hd.len
  constructor
  · intro h1
    rw [decide_eq_true_eq]
    apply List.ext_getElem (by omega)
    intro p hp hp2
    apply TL.ext
    apply List.ext_getElem (by rw [TL.h, TL.h])
    intro q hq hq2
    rw [TL.h] at hq
    have ho := on_back (p := p) (q := q) hc.may (by omega) hq
    obtain ⟨e1, e2⟩ := pl_back (w := w) (p := p) (q := q) (by omega) hq
    have hxy := onS_iff.1 ho
    generalize hX : (p : Int) % w * 8 + (q : Int) % 8 = X at ho e1 e2 hxy
    generalize hY : (p : Int) / w * 8 + (q : Int) / 8 = Y at ho e1 e2 hxy
    have h2 := List.all_eq_true.1 h1 Y.toNat (List.mem_range.2 (by omega))
    have h3 := List.all_eq_true.1 h2 X.toNat (List.mem_range.2 (by omega))
    rw [decide_eq_true_eq, show ((X.toNat : Nat) : Int) = X by omega, show ((Y.toNat : Nat) : Int) = Y by omega] at h3
    unfold getC at h3
    rw [e1, e2, tl_at hp, tl_at hp2] at h3
    unfold TL.get at h3
    rw [List.getD_eq_getElem?_getD, List.getD_eq_getElem?_getD, List.getElem?_eq_getElem (by rw [TL.h]; exact hq), List.getElem?_eq_getElem (by rw [TL.h]; exact hq)] at h3
    exact h3
  · intro h1
    have h1 : ts = us := by simpa using h1
    subst h1
    exact List.all_eq_true.2 fun y _ => List.all_eq_true.2 fun x _ => by simp
set_option maxRecDepth 4000 in
set_option maxHeartbeats 1000000 in
theorem points_d (w h : Int) (hm : mayS w h = true) : DFun Try.prog 48 [.val (.agg #[.int .i64 w, .int .i64 h])] [] (.fn (.func 55) [] [.loc 0 0, .loc 1 0]) [.flat 3 [.int .i64 (h * 8)], .flat 3 [.int .i64 (w * 8)]] := by
  refine dcalls_go (N := 11) 0 (by kernel_rfl) Try.func48 rfl rfl rfl (by simp only [fr0, Nat.zero_add, Nat.reduceAdd]; exact rfl) rfl fun s0 hs0 => ?_
  refine zae ?_
  refine dwp_holes 1 (by simp only [holes, List.cons_append, List.nil_append]; exact rfl) ?_
  refine zad ?_
  refine walk_w rfl rfl rfl (op_boxa 0 rfl (ev1 rfl) rfl) (by simp only [upd, za, zaa]; exact rfl) ?_
  refine zab rfl rfl rfl (zac (.inr rfl) (ev1 rfl)) ?_
  refine zaf ?_
  refine zae ?_
  refine dwp_holes 2 (by simp only [holes, List.cons_append, List.nil_append]; exact rfl) ?_
  refine zad ?_
  refine zab rfl rfl rfl (op_ldw rfl tb72 (ev1 rfl) rfl rfl) ?_
  refine zab rfl rfl rfl (dop_call [] [] [] rfl (ev1 rfl) (ec (ev1 rfl) en) rfl rfl (spix_d w h hm) rfl rfl rfl rfl rfl rfl) ?_
  refine zab rfl rfl rfl (zac (.inl rfl) (ev1 rfl)) ?_
  refine zab rfl rfl rfl (op_ext rfl (ev1 rfl) rfl) ?_
  refine zab rfl rfl rfl (op_ext rfl (ev1 rfl) rfl) ?_
  refine walk_w rfl rfl rfl (op_alloc 1 rfl zr3 rfl) (by simp only [upd, za, zaa]; exact rfl) ?_
  refine walk_w rfl rfl rfl (op_alloc 2 rfl zr3 rfl) (by simp only [upd, za, zaa]; exact rfl) ?_
  refine walk_s rfl rfl (op_stwi rfl tb3 (ev1 rfl) (ev1 rfl) rfl) (by simp only [upd, za, zaa]; exact rfl) ?_
  refine walk_s rfl rfl (op_stwi rfl tb3 (ev1 rfl) (ev1 rfl) rfl) (by simp only [upd, za, zaa]; exact rfl) ?_
  refine zaf ?_
  refine zae ?_
  refine zad ?_
  refine zab rfl rfl rfl (op_mkf rfl en (ec (ev1 rfl) (ec (ev1 rfl) en))) ?_
  refine zab rfl rfl rfl (zac (.inr rfl) (ev1 rfl)) ?_
  refine zaf ?_
  refine dwp_ret ?_
  refine kend [2, 1] (rs1 rfl (rv_t rfl)) rfl rfl ?_ ⟨rfl, rfl, trivial⟩
  rfl
noncomputable def samA : Code := rfA (pth [1, 0, 1, 1, 1, 1, 0, 1, 0] (bodyOf Try.f22))
noncomputable def samB : Code := rfB (pth [1, 0, 1, 1, 1, 1, 0, 1, 0] (bodyOf Try.f22))
set_option maxRecDepth 4000 in
set_option maxHeartbeats 1000000 in
theorem samRound_true (w h : Int) (da db : List D) (ts us : List TL) (ra : RowOk da ts) (rb : RowOk db us) (ca : CvOk w h ts) (cb : CvOk w h us) (x y : Int) (ho : onS w h x y = true) (b : Bool) (h1 : getC w ts x y = getC w us x y) : DRound Try.prog 0 [.val (.agg #[.int .i64 x, .int .i64 y])] [.lp 42 [(2, .loc 1 0), (3, .loc 2 0), (5, .loc 3 0)] #[33] samA samB .ready none, .mix 32 [cvD w h da], .mix 32 [cvD w h db], .flat 4 [.bool b]] true [.lp 42 [(2, .loc 1 0), (3, .loc 2 0), (5, .loc 3 0)] #[33] samA samB .ready none, .mix 32 [cvD w h da], .mix 32 [cvD w h db], .flat 4 [.bool b]] := by
  refine dround_go 4 rfl rfl (by simp) rfl rfl fun s0 hs0 => ?_
  refine dwp_holes 1 (by simp only [holes, List.cons_append, List.nil_append]; exact rfl) ?_
  refine zad ?_
  refine walk_w rfl rfl rfl (op_alloc 4 rfl zr56 rfl) (by simp only [upd, za, zaa]; exact rfl) ?_
  refine walk_s rfl rfl (op_stwa rfl tb56 (ev1 rfl) (ev1 rfl) rfl rfl rfl rfl) (by simp only [upd, za, zaa]; exact rfl) ?_
  refine zaf ?_
  refine ⟨rfl, ?_⟩
  simp only [za, zaa]
  refine dwp_block ?_
  refine zae ?_
  refine dwp_draw [([1], []), ([4], []), ([], []), ([2], []), ([4], []), ([], []), ([], [])] mixed (by kernel_rfl) ?_
  refine zag rfl rfl (op_ldm rfl tb32 (ev1 rfl) rfl rfl) ?_
  refine zag rfl rfl (op_ldw rfl tb56 (ev1 rfl) rfl rfl) ?_
  refine zag rfl rfl (dop_call [] [] [] rfl (ev1 rfl) (ec (ev1 rfl) (ec (ev1 rfl) en)) rfl rfl (color_d w h da ts ra ca x y ho) rfl rfl rfl rfl rfl rfl) ?_
  refine zag rfl rfl (op_ldm rfl tb32 (ev1 rfl) rfl rfl) ?_
  refine zag rfl rfl (op_ldw rfl tb56 (ev1 rfl) rfl rfl) ?_
  refine zag rfl rfl (dop_call [] [] [] rfl (ev1 rfl) (ec (ev1 rfl) (ec (ev1 rfl) en)) rfl rfl (color_d w h db us rb cb x y ho) rfl rfl rfl rfl rfl rfl) ?_
  refine zag rfl rfl (op_ner eq40 rfl gd40 tb40 (ev1 rfl) (ev1 rfl)) ?_
  refine lex_nil ?_
  refine dwp_if_f rfl (by simpa using h1) ?_
  refine dwp_skip ?_
  refine ⟨by first | rfl | assumption | simp_all, rfl, [0, 1, 2, 3], rfl, ⟨rfl, rfl, rfl, rfl, trivial⟩⟩
set_option maxRecDepth 4000 in
set_option maxHeartbeats 1000000 in
theorem samRound_false (w h : Int) (da db : List D) (ts us : List TL) (ra : RowOk da ts) (rb : RowOk db us) (ca : CvOk w h ts) (cb : CvOk w h us) (x y : Int) (ho : onS w h x y = true) (b : Bool) (h1 : getC w ts x y ≠ getC w us x y) : DRound Try.prog 0 [.val (.agg #[.int .i64 x, .int .i64 y])] [.lp 42 [(2, .loc 1 0), (3, .loc 2 0), (5, .loc 3 0)] #[33] samA samB .ready none, .mix 32 [cvD w h da], .mix 32 [cvD w h db], .flat 4 [.bool b]] false [.lp 42 [(2, .loc 1 0), (3, .loc 2 0), (5, .loc 3 0)] #[33] samA samB .done (some (.exit 0)), .mix 32 [cvD w h da], .mix 32 [cvD w h db], .flat 4 [.bool false]] := by
  refine dround_go 4 rfl rfl (by simp) rfl rfl fun s0 hs0 => ?_
  refine dwp_holes 1 (by simp only [holes, List.cons_append, List.nil_append]; exact rfl) ?_
  refine zad ?_
  refine walk_w rfl rfl rfl (op_alloc 4 rfl zr56 rfl) (by simp only [upd, za, zaa]; exact rfl) ?_
  refine walk_s rfl rfl (op_stwa rfl tb56 (ev1 rfl) (ev1 rfl) rfl rfl rfl rfl) (by simp only [upd, za, zaa]; exact rfl) ?_
  refine zaf ?_
  refine ⟨rfl, ?_⟩
  simp only [za, zaa]
  refine dwp_block ?_
  refine zae ?_
  refine dwp_draw [([1], []), ([4], []), ([], []), ([2], []), ([4], []), ([], []), ([], [])] mixed (by kernel_rfl) ?_
  refine zag rfl rfl (op_ldm rfl tb32 (ev1 rfl) rfl rfl) ?_
  refine zag rfl rfl (op_ldw rfl tb56 (ev1 rfl) rfl rfl) ?_
  refine zag rfl rfl (dop_call [] [] [] rfl (ev1 rfl) (ec (ev1 rfl) (ec (ev1 rfl) en)) rfl rfl (color_d w h da ts ra ca x y ho) rfl rfl rfl rfl rfl rfl) ?_
  refine zag rfl rfl (op_ldm rfl tb32 (ev1 rfl) rfl rfl) ?_
  refine zag rfl rfl (op_ldw rfl tb56 (ev1 rfl) rfl rfl) ?_
  refine zag rfl rfl (dop_call [] [] [] rfl (ev1 rfl) (ec (ev1 rfl) (ec (ev1 rfl) en)) rfl rfl (color_d w h db us rb cb x y ho) rfl rfl rfl rfl rfl rfl) ?_
  refine zag rfl rfl (op_ner eq40 rfl gd40 tb40 (ev1 rfl) (ev1 rfl)) ?_
  refine lex_nil ?_
  refine dwp_if_t rfl (by simpa using h1) ?_
  refine zae ?_
  refine zad ?_
  refine walk_s rfl rfl (op_stwb rfl tb4 (ev1 rfl) (ev1 rfl) rfl) (by simp only [upd, za, zaa]; exact rfl) ?_
  refine zaf ?_
  refine dwp_exit ?_
  refine ⟨by first | rfl | assumption | simp_all, rfl, [0, 1, 2, 3], rfl, ⟨rfl, rfl, rfl, rfl, trivial⟩⟩
theorem samRound (w h : Int) (da db : List D) (ts us : List TL) (ra : RowOk da ts) (rb : RowOk db us) (ca : CvOk w h ts) (cb : CvOk w h us) (x y : Int) (ho : onS w h x y = true) (b : Bool) : DRound Try.prog 0 [.val (.agg #[.int .i64 x, .int .i64 y])] [.lp 42 [(2, .loc 1 0), (3, .loc 2 0), (5, .loc 3 0)] #[33] samA samB .ready none, .mix 32 [cvD w h da], .mix 32 [cvD w h db], .flat 4 [.bool b]] (decide (getC w ts x y = getC w us x y)) [.lp 42 [(2, .loc 1 0), (3, .loc 2 0), (5, .loc 3 0)] #[33] samA samB (rst (decide (getC w ts x y = getC w us x y))) (rpe (.exit 0) (decide (getC w ts x y = getC w us x y))), .mix 32 [cvD w h da], .mix 32 [cvD w h db], .flat 4 [.bool (b && decide (getC w ts x y = getC w us x y))]] := by
  by_cases h1 : getC w ts x y = getC w us x y
  · rw [decide_eq_true h1, Bool.and_true]
    exact samRound_true w h da db ts us ra rb ca cb x y ho b h1
  · rw [decide_eq_false h1, Bool.and_false]
    exact samRound_false w h da db ts us ra rb ca cb x y ho b h1
set_option maxRecDepth 4000 in
set_option maxHeartbeats 1000000 in
theorem pts_same (w h : Int) (da db : List D) (ts us : List TL) (ra : RowOk da ts) (rb : RowOk db us) (ca : CvOk w h ts) (cb : CvOk w h us) (b : Bool) : DFun Try.prog 55 [.yld 0, .loc 4 0, .loc 5 0] [.lp 42 [(2, .loc 1 0), (3, .loc 2 0), (5, .loc 3 0)] #[33] samA samB .ready none, .mix 32 [cvD w h da], .mix 32 [cvD w h db], .flat 4 [.bool b], .flat 3 [.int .i64 (h * 8)], .flat 3 [.int .i64 (w * 8)]] (.tup []) [.lp 42 [(2, .loc 1 0), (3, .loc 2 0), (5, .loc 3 0)] #[33] samA samB (rst (sameF w h ts us)) (rpe (.exit 0) (sameF w h ts us)), .mix 32 [cvD w h da], .mix 32 [cvD w h db], .flat 4 [.bool (b && (sameF w h ts us))], .flat 3 [.int .i64 (h * 8)], .flat 3 [.int .i64 (w * 8)]] := by
  have hb := mayS_b ca.may
  refine dcalls_go (N := 22) 6 (by kernel_rfl) Try.func55 rfl rfl rfl (by simp only [fr0, Nat.zero_add, Nat.reduceAdd]; exact rfl) rfl fun s0 hs0 => ?_
  refine zae ?_
  refine zad ?_
  refine zab rfl rfl rfl (op_ldo rfl tb3 (ev1 rfl) rfl rfl) ?_
  refine zab rfl rfl rfl (zac (.inl rfl) (ev1 rfl)) ?_
  refine zaf ?_
  refine dwp_block ?_
  refine dwp_loopS ⟨hs0, rfl⟩ (α := Nat) (fun y => [(7, .val (.int .i64 (y : Int)))]) [(0, _), (2, _), (6, _)] (fun y => []) [_, _, _, _, _, _] (fun y => (y : Int) ≤ h * 8 ∧ allEq w ts us (w * 8).toNat y = true) (fun y => (h * 8).toNat - y) 0 [0, 1, 2, 3, 4, 5] (⟨by omega, rfl⟩) rfl ⟨rfl, rfl, rfl, trivial⟩ ⟨rfl, trivial⟩ ⟨rfl, rfl, rfl, rfl, rfl, rfl, trivial⟩ ?_
  intro y hx
  simp only [upd, za, zaa, List.cons_append, List.nil_append]
  obtain ⟨hy, hey⟩ := hx
  refine zae ?_
  refine zad ?_
  refine zab rfl rfl rfl (op_lss rfl (ev1 rfl) (ev1 rfl)) ?_
  refine zaf ?_
  refine zae ?_
  refine dwp_cond rfl (fun c1 => ?_) (fun c1 => ?_)
  · try simp only [decide_eq_true_eq, decide_eq_false_iff_not, beq_iff_eq, bne_iff_ne, beq_eq_false_iff_ne, bne_eq_false_iff_eq, Bool.not_eq_true', Bool.not_eq_false', Bool.and_eq_true, Bool.or_eq_true, Bool.or_eq_false_iff, ne_eq, Decidable.not_not, Int.not_lt, Int.not_le] at c1
    refine dwp_skip ?_
    refine zae ?_
    refine dwp_block ?_
    refine zae ?_
    refine zad ?_
    refine zab rfl rfl rfl (zac (.inl rfl) (ev1 rfl)) ?_
    refine zab rfl rfl rfl (zac (.inr rfl) (ev1 rfl)) ?_
    refine zaf ?_
    refine zae ?_
    refine zad ?_
    refine zab rfl rfl rfl (op_ldo rfl tb3 (ev1 rfl) rfl rfl) ?_
    refine zab rfl rfl rfl (zac (.inl rfl) (ev1 rfl)) ?_
    refine zaf ?_
    refine dwp_block ?_
    refine dwp_loopS ⟨hs0, rfl⟩ (α := Nat) (fun x => [(11, .val (.int .i64 (x : Int)))]) [(0, _), (2, _), (4, _), (6, _), (7, _), (10, _)] (fun x => []) [_, _, _, _, _, _] (fun x => (x : Int) ≤ w * 8 ∧ rowEq w ts us y x = true) (fun x => (w * 8).toNat - x) 0 [0, 1, 2, 3, 4, 5] (⟨by omega, rfl⟩) rfl ⟨rfl, rfl, rfl, rfl, rfl, rfl, trivial⟩ ⟨rfl, trivial⟩ ⟨rfl, rfl, rfl, rfl, rfl, rfl, trivial⟩ ?_
    intro x hx
    simp only [upd, za, zaa, List.cons_append, List.nil_append]
    obtain ⟨hx2, hex⟩ := hx
    refine zae ?_
    refine zad ?_
    refine zab rfl rfl rfl (op_lss rfl (ev1 rfl) (ev1 rfl)) ?_
    refine zaf ?_
    refine zae ?_
    refine dwp_cond rfl (fun c2 => ?_) (fun c2 => ?_)
    · try simp only [decide_eq_true_eq, decide_eq_false_iff_not, beq_iff_eq, bne_iff_ne, beq_eq_false_iff_ne, bne_eq_false_iff_eq, Bool.not_eq_true', Bool.not_eq_false', Bool.and_eq_true, Bool.or_eq_true, Bool.or_eq_false_iff, ne_eq, Decidable.not_not, Int.not_lt, Int.not_le] at c2
      refine dwp_skip ?_
      refine zae ?_
      refine dwp_block ?_
      refine zae ?_
      refine zad ?_
      refine zab rfl rfl rfl (zac (.inl rfl) (ev1 rfl)) ?_
      refine zab rfl rfl rfl (zac (.inr rfl) (ev1 rfl)) ?_
      refine zaf ?_
      refine zae ?_
      have ho : onS w h (x : Int) (y : Int) = true := onS_iff.2 ⟨by omega, by omega⟩
      refine zad ?_
      refine zab rfl rfl rfl (zac (.inl rfl) (ev1 rfl)) ?_
      refine zab rfl rfl rfl (zac (.inl rfl) (ev1 rfl)) ?_
      refine zab rfl rfl rfl (zac (.inl rfl) (ev1 rfl)) ?_
      refine zab rfl rfl rfl (op_build (ps := [(0, .tmp 15), (1, .tmp 16)]) rfl fl56 zr56 (vc (ev1 rfl) (vc (ev1 rfl) vn)) rfl rfl) ?_
      refine walk_w rfl rfl rfl (op_y (i := 0) [0, 1, 2, 3] [] [] rfl (ev1 rfl) (ec (ev1 rfl) en) rfl rfl rfl (samRound w h da db ts us ra rb ca cb x y ho b) rfl rfl rfl rfl rfl) (by simp only [upd, za, zaa]; exact rfl) ?_
      refine zab rfl rfl rfl (op_not rfl (ev1 rfl)) ?_
      refine zaf ?_
      refine dwp_cond rfl (fun c3 => ?_) (fun c3 => ?_)
      · have e1 : decide (getC w ts (x : Int) (y : Int) = getC w us (x : Int) (y : Int)) = false := by simpa using c3
        refine dwp_ret ?_
        have e2 : sameF w h ts us = false := sameF_no (x := x) (y := y) (by omega) (by omega) (by simpa using e1)
        rw [e2, e1]
        refine kend [0, 1, 2, 3, 4, 5] (res_none rfl) rfl rfl ?_ ⟨rfl, rfl, rfl, rfl, rfl, rfl, trivial⟩
        rfl
      · have e1 : decide (getC w ts (x : Int) (y : Int) = getC w us (x : Int) (y : Int)) = true := by simpa using c3
        refine dwp_skip ?_
        refine zad ?_
        refine zab rfl rfl rfl (op_add' rfl (ev1 rfl) (ev1 rfl) (fun _ => IntWalk.i64_in _ (by omega))) ?_
        refine zab rfl rfl rfl (zac (.inl rfl) (ev1 rfl)) ?_
        refine zaf ?_
        rw [e1, Bool.and_true]
        refine ⟨x + 1, [0, 1, 2, 3, 4, 5], ⟨by omega, by rw [rowEq_succ, hex, e1]; rfl⟩, by simp only []; omega, rfl, ⟨rfl, rfl, rfl, rfl, rfl, rfl, rfl, trivial⟩, ⟨rfl, rfl, rfl, rfl, rfl, rfl, trivial⟩⟩
    · try simp only [decide_eq_true_eq, decide_eq_false_iff_not, beq_iff_eq, bne_iff_ne, beq_eq_false_iff_ne, bne_eq_false_iff_eq, Bool.not_eq_true', Bool.not_eq_false', Bool.and_eq_true, Bool.or_eq_true, Bool.or_eq_false_iff, ne_eq, Decidable.not_not, Int.not_lt, Int.not_le] at c2
      refine dwp_exit ?_
      refine zad ?_
      refine zab rfl rfl rfl (op_add' rfl (ev1 rfl) (ev1 rfl) (fun _ => IntWalk.i64_in _ (by omega))) ?_
      refine zab rfl rfl rfl (zac (.inl rfl) (ev1 rfl)) ?_
      refine zaf ?_
      obtain rfl : x = (w * 8).toNat := by omega
      refine ⟨y + 1, [0, 1, 2, 3, 4, 5], ⟨by omega, by rw [allEq_succ, hey, hex]; rfl⟩, by simp only []; omega, rfl, ⟨rfl, rfl, rfl, rfl, trivial⟩, ⟨rfl, rfl, rfl, rfl, rfl, rfl, trivial⟩⟩
  · try simp only [decide_eq_true_eq, decide_eq_false_iff_not, beq_iff_eq, bne_iff_ne, beq_eq_false_iff_ne, bne_eq_false_iff_eq, Bool.not_eq_true', Bool.not_eq_false', Bool.and_eq_true, Bool.or_eq_true, Bool.or_eq_false_iff, ne_eq, Decidable.not_not, Int.not_lt, Int.not_le] at c1
    refine dwp_exit ?_
    have e2 : sameF w h ts us = true := by rw [sameF, show (h * 8).toNat = y by omega]; exact hey
    rw [e2, Bool.and_true]
    refine kend [0, 1, 2, 3, 4, 5] (res_none rfl) rfl rfl ?_ ⟨rfl, rfl, rfl, rfl, rfl, rfl, trivial⟩
    rfl
set_option maxRecDepth 4000 in
set_option maxHeartbeats 1000000 in
theorem same_cv (w h : Int) (da db : List D) (ts us : List TL) (ra : RowOk da ts) (rb : RowOk db us) (ca : CvOk w h ts) (cb : CvOk w h us)  : DFun Try.prog 22 [cvD w h da, cvD w h db] [] (.val (.bool (decide (ts = us)))) [] := by
  refine dcalls_go (N := 42) 0 (by kernel_rfl) Try.func22 rfl rfl rfl (by simp only [fr0, Nat.zero_add, Nat.reduceAdd]; exact rfl) rfl fun s0 hs0 => ?_
  refine zae ?_
  refine dwp_holes 2 (by simp only [holes, List.cons_append, List.nil_append]; exact rfl) ?_
  refine zad ?_
  refine walk_w rfl rfl rfl (op_boxm 0 rfl (ev1 rfl) (fun s v h => by cases h <;> rfl) rfl) (by simp only [upd, za, zaa]; exact rfl) ?_
  refine walk_w rfl rfl rfl (op_boxm 1 rfl (ev1 rfl) (fun s v h => by cases h <;> rfl) rfl) (by simp only [upd, za, zaa]; exact rfl) ?_
  refine zab rfl rfl rfl (zac (.inr rfl) (ev1 rfl)) ?_
  refine zaf ?_
  refine dwp_scope ?_
  refine zae ?_
  refine zae ?_
  refine zad ?_
  refine zab rfl rfl rfl (op_ldm rfl tb32 (ev1 rfl) rfl rfl) ?_
  refine zab rfl rfl rfl (op_pnilm rfl pt32 (ev1 rfl)) ?_
  refine zab rfl rfl rfl (zac (.inl rfl) (ev1 rfl)) ?_
  refine walk_gr (gd_f rfl rfl rfl) rfl rfl rfl (op_ldm rfl tb32 (ev1 rfl) rfl rfl) ?_
  refine walk_gr (gd_f rfl rfl rfl) rfl rfl rfl (op_pnilm rfl pt32 (ev2 rfl)) ?_
  refine zab rfl rfl rfl (op_or rfl (ev1 rfl) (ev3 rfl id)) ?_
  refine zaf ?_
  refine dwp_if_f rfl (by simp) ?_
  refine dwp_skip ?_
  refine zae ?_
  refine zae ?_
  refine dwp_draw [([0], []), ([], []), ([], []), ([], []), ([1], []), ([], []), ([], []), ([], []), ([], [])] mixed (by kernel_rfl) ?_
  refine zag rfl rfl (op_ldm rfl tb32 (ev1 rfl) rfl rfl) ?_
  refine zag rfl rfl (op_nc rfl (ev1 rfl) (fun s v h => by cases h; exact ⟨_, rfl⟩)) ?_
  refine zag rfl rfl (op_fadm rfl fo76_0 (ev1 rfl)) ?_
  refine zag rfl rfl (op_lddv [_, _] rfl tb72 (ev1 rfl) rfl rfl) ?_
  refine zag rfl rfl (op_ldm rfl tb32 (ev1 rfl) rfl rfl) ?_
  refine zag rfl rfl (op_nc rfl (ev1 rfl) (fun s v h => by cases h; exact ⟨_, rfl⟩)) ?_
  refine zag rfl rfl (op_fadm rfl fo76_0 (ev1 rfl)) ?_
  refine zag rfl rfl (op_lddv [_, _] rfl tb72 (ev1 rfl) rfl rfl) ?_
  refine zag rfl rfl (op_ner eq72 rfl gd72 tb72 (ev1 rfl) (ev1 rfl)) ?_
  refine lex_nil ?_
  refine dwp_if_f rfl (by simp) ?_
  refine dwp_skip ?_
  refine zae ?_
  refine dwp_holes 1 (by simp only [holes, List.cons_append, List.nil_append]; exact rfl) ?_
  refine zad ?_
  refine walk_w rfl rfl rfl (op_alloc 2 rfl zr4 rfl) (by simp only [upd, za, zaa]; exact rfl) ?_
  refine walk_s rfl rfl (op_stwb rfl tb4 (ev1 rfl) (ev1 rfl) rfl) (by simp only [upd, za, zaa]; exact rfl) ?_
  refine zaf ?_
  refine zae ?_
  refine dwp_label ?_
  refine zae ?_
  refine zae ?_
  refine dwp_holes 2 (by simp only [holes, List.cons_append, List.nil_append]; exact rfl) ?_
  refine zad ?_
  refine zab rfl rfl rfl (op_ldm rfl tb32 (ev1 rfl) rfl rfl) ?_
  refine zab rfl rfl rfl (op_nc rfl (ev1 rfl) (fun s v h => by cases h; exact ⟨_, rfl⟩)) ?_
  refine zab rfl rfl rfl (op_fadm rfl fo76_0 (ev1 rfl)) ?_
  refine zab rfl rfl rfl (op_lddv [_, _] rfl tb72 (ev1 rfl) rfl rfl) ?_
  refine walk_w rfl rfl rfl (dop_call [] [] [3, 4] rfl (ev1 rfl) (ec (ev1 rfl) en) rfl rfl (points_d w h ca.may) rfl rfl rfl rfl rfl rfl) (by simp only [upd, za, zaa]; exact rfl) ?_
  refine zaf ?_
  refine dwp_block ?_
  refine dwp_hole ?_
  simp only [List.cons_append, List.nil_append]
  refine dwp_rf (FL := [(2, _), (3, _), (5, _)]) (st := (rst (sameF w h ts us))) (pe := (rpe (.exit 0) (sameF w h ts us))) [5, 0, 1, 2, 3, 4] [] [] 5 rfl rfl (ev1 rfl) rfl (subF_lk ⟨rfl, rfl, rfl, trivial⟩) rfl rfl rfl (pts_same w h da db ts us ra rb ca cb _) rfl rfl rfl rfl rfl rfl rfl (rst_busy _) (fun e => ?_) (fun c e => ?_)
  · simp only [upd, za, zaa]
    refine zae ?_
    refine zad ?_
    refine zab rfl rfl rfl (op_ldo rfl tb4 (ev1 rfl) rfl rfl) ?_
    refine zab rfl rfl rfl (zac (.inr rfl) (ev1 rfl)) ?_
    refine zaf ?_
    refine dwp_ret ?_
    refine kend0 (rs1 rfl (rv_t rfl)) rfl ?_
    rw [← sameF_iff ca cb]
    rfl
  · obtain ⟨e1, rfl⟩ : sameF w h ts us = false ∧ c = .exit 0 := by
      cases h : sameF w h ts us <;> simp_all [rpe]
    simp only [upd, za, zaa]
    refine dwp_exit ?_
    refine zae ?_
    refine zad ?_
    refine zab rfl rfl rfl (op_ldo rfl tb4 (ev1 rfl) rfl rfl) ?_
    refine zab rfl rfl rfl (zac (.inr rfl) (ev1 rfl)) ?_
    refine zaf ?_
    refine dwp_ret ?_
    refine kend0 (rs1 rfl (rv_t rfl)) rfl ?_
    rw [← sameF_iff ca cb]
    rfl
end Go.Proofs.Ytkhlobbkoodkmaa
namespace Go.Proofs.Ytkhlobbkoodkmaa
set_option linter.unusedVariables false
set_option linter.unusedSimpArgs false
open Go.RowKit
theorem tb25 : tyB Try.prog 25 = some (false, 1) := by kernel_rfl
theorem zr25 : zrC Try.prog 25 = some [.slice none 0 0] := by kernel_rfl
noncomputable def difA : Code := rfA (pth [1, 1, 1, 0, 1, 0] (bodyOf Try.f23))
noncomputable def difB : Code := rfB (pth [1, 1, 1, 0, 1, 0] (bodyOf Try.f23))
abbrev rowP (l : List P2) : Mem := .arr 56 2 l.length (l.flatMap p2)
def fmP (l : List P2) : List Mem := List.replicate l.length .gone ++ [rowP l]
theorem fmP_at (l : List P2) : (fmP l)[l.length]? = some (rowP l) := by
  unfold fmP
  rw [List.getElem?_append_right (by simp)]
  simp
theorem fmP_len (l : List P2) : (fmP l).length = (l.length) + 1 := by simp [fmP]
theorem fmP_add (l : List P2) (p : P2) : (fmP l).set l.length .gone ++ [Mem.arr 56 2 (l.length + 1) (l.flatMap p2 ++ p2 p)] = fmP (l ++ [p]) := by
  unfold fmP
  rw [List.set_append_right _ _ (by simp), List.length_append, List.length_replicate, Nat.sub_self, show l.length + [p].length = l.length + 1 from rfl, List.replicate_succ']
  simp [rowP, List.flatMap_append]
set_option maxRecDepth 4000 in
set_option maxHeartbeats 1000000 in
theorem difRound_yes (w h : Int) (da db : List D) (ts us : List TL) (ra : RowOk da ts) (rb : RowOk db us) (ca : CvOk w h ts) (cb : CvOk w h us) (x y : Int) (ho : onS w h x y = true) (l : List P2) (hl : l.length ≤ 5000) (h1 : getC w ts x y ≠ getC w us x y) : DRound Try.prog 0 [.val (.agg #[.int .i64 x, .int .i64 y])] [.lp 42 [(2, .loc 1 0), (3, .loc 2 0), (5, .loc 3 0)] #[29] difA difB .ready none, .mix 32 [cvD w h da], .mix 32 [cvD w h db], .mix 25 [.farr 4 (l).length], .fam (fmP (l))] true [.lp 42 [(2, .loc 1 0), (3, .loc 2 0), (5, .loc 3 0)] #[29] difA difB .ready none, .mix 32 [cvD w h da], .mix 32 [cvD w h db], .mix 25 [.farr 4 (l ++ [(⟨x, y⟩ : P2)]).length], .fam (fmP (l ++ [(⟨x, y⟩ : P2)]))] := by
  refine dround_go 5 rfl rfl (by simp) rfl rfl fun s0 hs0 => ?_
  refine dwp_holes 1 (by simp only [holes, List.cons_append, List.nil_append]; exact rfl) ?_
  refine zad ?_
  refine walk_w rfl rfl rfl (op_alloc 5 rfl zr56 rfl) (by simp only [upd, za, zaa]; exact rfl) ?_
  refine walk_s rfl rfl (op_stwa rfl tb56 (ev1 rfl) (ev1 rfl) rfl rfl rfl rfl) (by simp only [upd, za, zaa]; exact rfl) ?_
  refine zaf ?_
  refine ⟨rfl, ?_⟩
  simp only [za, zaa]
  refine dwp_block ?_
  refine zae ?_
  refine dwp_draw [([1], []), ([5], []), ([], []), ([2], []), ([5], []), ([], []), ([], [])] mixed (by kernel_rfl) ?_
  refine zag rfl rfl (op_ldm rfl tb32 (ev1 rfl) rfl rfl) ?_
  refine zag rfl rfl (op_ldw rfl tb56 (ev1 rfl) rfl rfl) ?_
  refine zag rfl rfl (dop_call [] [] [] rfl (ev1 rfl) (ec (ev1 rfl) (ec (ev1 rfl) en)) rfl rfl (color_d w h da ts ra ca x y ho) rfl rfl rfl rfl rfl rfl) ?_
  refine zag rfl rfl (op_ldm rfl tb32 (ev1 rfl) rfl rfl) ?_
  refine zag rfl rfl (op_ldw rfl tb56 (ev1 rfl) rfl rfl) ?_
  refine zag rfl rfl (dop_call [] [] [] rfl (ev1 rfl) (ec (ev1 rfl) (ec (ev1 rfl) en)) rfl rfl (color_d w h db us rb cb x y ho) rfl rfl rfl rfl rfl rfl) ?_
  refine zag rfl rfl (op_ner eq40 rfl gd40 tb40 (ev1 rfl) (ev1 rfl)) ?_
  refine lex_nil ?_
  refine dwp_if_t rfl (by simpa using h1) ?_
  refine dwp_holes 2 (by simp only [holes, List.cons_append, List.nil_append]; exact rfl) ?_
  refine zad ?_
  refine zab rfl rfl rfl (op_ldm rfl tb25 (ev1 rfl) rfl rfl) ?_
  refine zab rfl rfl rfl (op_ldw rfl tb56 (ev1 rfl) rfl rfl) ?_
  refine zab rfl rfl rfl (op_bs (ps := [(0, .tmp 38)]) rfl sl25 zr56 rfl (vc (ev1 rfl) vn) rfl (by decide) (by decide)) ?_
  refine walk_w rfl rfl rfl (op_appF (j1 := 6) (j2 := 7) rfl rfl sl25 zr56 rfl (ev1 rfl) (ev1 rfl) rfl (fmP_at l) rfl rfl rfl (fun _ => rfl) (fun _ => ⟨by omega, by omega⟩)) (by simp only [upd, za, zaa]; exact rfl) ?_
  refine walk_s rfl rfl (op_stm rfl tb25 (ev1 rfl) (ev1 rfl) (fun s v h => by cases h <;> exact ⟨rfl, rfl⟩) rfl (by first | decide | exact Nat.le_of_ble_eq_true rfl | simp)) (by simp only [upd, za, zaa]; exact rfl) ?_
  refine zaf ?_
  refine ⟨by first | rfl | assumption | simp_all, rfl, [0, 1, 2, 3, 4], rfl, ⟨rfl, rfl, rfl, by rw [fmP_len, List.length_append]; rfl, by rw [← fmP_add]; rfl, trivial⟩⟩
set_option maxRecDepth 4000 in
set_option maxHeartbeats 1000000 in
theorem difRound_no (w h : Int) (da db : List D) (ts us : List TL) (ra : RowOk da ts) (rb : RowOk db us) (ca : CvOk w h ts) (cb : CvOk w h us) (x y : Int) (ho : onS w h x y = true) (l : List P2) (hl : l.length ≤ 5000) (h1 : getC w ts x y = getC w us x y) : DRound Try.prog 0 [.val (.agg #[.int .i64 x, .int .i64 y])] [.lp 42 [(2, .loc 1 0), (3, .loc 2 0), (5, .loc 3 0)] #[29] difA difB .ready none, .mix 32 [cvD w h da], .mix 32 [cvD w h db], .mix 25 [.farr 4 (l).length], .fam (fmP (l))] true [.lp 42 [(2, .loc 1 0), (3, .loc 2 0), (5, .loc 3 0)] #[29] difA difB .ready none, .mix 32 [cvD w h da], .mix 32 [cvD w h db], .mix 25 [.farr 4 (l).length], .fam (fmP (l))] := by
  refine dround_go 5 rfl rfl (by simp) rfl rfl fun s0 hs0 => ?_
  refine dwp_holes 1 (by simp only [holes, List.cons_append, List.nil_append]; exact rfl) ?_
  refine zad ?_
  refine walk_w rfl rfl rfl (op_alloc 5 rfl zr56 rfl) (by simp only [upd, za, zaa]; exact rfl) ?_
  refine walk_s rfl rfl (op_stwa rfl tb56 (ev1 rfl) (ev1 rfl) rfl rfl rfl rfl) (by simp only [upd, za, zaa]; exact rfl) ?_
  refine zaf ?_
  refine ⟨rfl, ?_⟩
  simp only [za, zaa]
  refine dwp_block ?_
  refine zae ?_
  refine dwp_draw [([1], []), ([5], []), ([], []), ([2], []), ([5], []), ([], []), ([], [])] mixed (by kernel_rfl) ?_
  refine zag rfl rfl (op_ldm rfl tb32 (ev1 rfl) rfl rfl) ?_
  refine zag rfl rfl (op_ldw rfl tb56 (ev1 rfl) rfl rfl) ?_
  refine zag rfl rfl (dop_call [] [] [] rfl (ev1 rfl) (ec (ev1 rfl) (ec (ev1 rfl) en)) rfl rfl (color_d w h da ts ra ca x y ho) rfl rfl rfl rfl rfl rfl) ?_
  refine zag rfl rfl (op_ldm rfl tb32 (ev1 rfl) rfl rfl) ?_
  refine zag rfl rfl (op_ldw rfl tb56 (ev1 rfl) rfl rfl) ?_
  refine zag rfl rfl (dop_call [] [] [] rfl (ev1 rfl) (ec (ev1 rfl) (ec (ev1 rfl) en)) rfl rfl (color_d w h db us rb cb x y ho) rfl rfl rfl rfl rfl rfl) ?_
  refine zag rfl rfl (op_ner eq40 rfl gd40 tb40 (ev1 rfl) (ev1 rfl)) ?_
  refine lex_nil ?_
  refine dwp_if_f rfl (by simpa using h1) ?_
  refine dwp_skip ?_
  refine ⟨by first | rfl | assumption | simp_all, rfl, [0, 1, 2, 3, 4], rfl, ⟨rfl, rfl, rfl, rfl, rfl, trivial⟩⟩
set_option maxRecDepth 4000 in
set_option maxHeartbeats 1000000 in
theorem pts_dif (w h : Int) (da db : List D) (ts us : List TL) (ra : RowOk da ts) (rb : RowOk db us) (ca : CvOk w h ts) (cb : CvOk w h us) : DFun Try.prog 55 [.yld 0, .loc 5 0, .loc 6 0] [.lp 42 [(2, .loc 1 0), (3, .loc 2 0), (5, .loc 3 0)] #[29] difA difB .ready none, .mix 32 [cvD w h da], .mix 32 [cvD w h db], .mix 25 [.farr 4 (([] : List P2)).length], .fam (fmP (([] : List P2))), .flat 3 [.int .i64 (h * 8)], .flat 3 [.int .i64 (w * 8)]] (.tup []) [.lp 42 [(2, .loc 1 0), (3, .loc 2 0), (5, .loc 3 0)] #[29] difA difB .ready none, .mix 32 [cvD w h da], .mix 32 [cvD w h db], .mix 25 [.farr 4 (difC w h ts us).length], .fam (fmP (difC w h ts us)), .flat 3 [.int .i64 (h * 8)], .flat 3 [.int .i64 (w * 8)]] := by
  have hb := mayS_b ca.may
  refine dcalls_go (N := 22) 7 (by kernel_rfl) Try.func55 rfl rfl rfl (by simp only [fr0, Nat.zero_add, Nat.reduceAdd]; exact rfl) rfl fun s0 hs0 => ?_
  refine zae ?_
  refine zad ?_
  refine zab rfl rfl rfl (op_ldo rfl tb3 (ev1 rfl) rfl rfl) ?_
  refine zab rfl rfl rfl (zac (.inl rfl) (ev1 rfl)) ?_
  refine zaf ?_
  refine dwp_block ?_
  refine dwp_loopS ⟨hs0, rfl⟩ (α := Nat) (fun y => [(7, .val (.int .i64 (y : Int)))]) [(0, _), (2, _), (6, _)] (fun y => [(3, .mix 25 [.farr 4 (difU w ts us (w * 8).toNat y).length]), (4, .fam (fmP (difU w ts us (w * 8).toNat y)))]) [_, _, _, .hole, .hole, _, _] (fun y => (y : Int) ≤ h * 8) (fun y => (h * 8).toNat - y) 0 [0, 1, 2, 3, 4, 5, 6] (by omega) rfl ⟨rfl, rfl, rfl, trivial⟩ ⟨rfl, trivial⟩ ⟨rfl, rfl, rfl, rfl, rfl, rfl, rfl, trivial⟩ ?_
  intro y hx
  simp only [upd, za, zaa, List.cons_append, List.nil_append]
  have hy := hx
  have hlU := difU_len w ts us (w * 8).toNat y
  have hlU2 : y * (w * 8).toNat ≤ 32 * 32 := Nat.mul_le_mul (by omega) (by omega)
  refine zae ?_
  refine zad ?_
  refine zab rfl rfl rfl (op_lss rfl (ev1 rfl) (ev1 rfl)) ?_
  refine zaf ?_
  refine zae ?_
  refine dwp_cond rfl (fun c1 => ?_) (fun c1 => ?_)
  · try simp only [decide_eq_true_eq, decide_eq_false_iff_not, beq_iff_eq, bne_iff_ne, beq_eq_false_iff_ne, bne_eq_false_iff_eq, Bool.not_eq_true', Bool.not_eq_false', Bool.and_eq_true, Bool.or_eq_true, Bool.or_eq_false_iff, ne_eq, Decidable.not_not, Int.not_lt, Int.not_le] at c1
    refine dwp_skip ?_
    refine zae ?_
    refine dwp_block ?_
    refine zae ?_
    refine zad ?_
    refine zab rfl rfl rfl (zac (.inl rfl) (ev1 rfl)) ?_
    refine zab rfl rfl rfl (zac (.inr rfl) (ev1 rfl)) ?_
    refine zaf ?_
    refine zae ?_
    refine zad ?_
    refine zab rfl rfl rfl (op_ldo rfl tb3 (ev1 rfl) rfl rfl) ?_
    refine zab rfl rfl rfl (zac (.inl rfl) (ev1 rfl)) ?_
    refine zaf ?_
    refine dwp_block ?_
    refine dwp_loopS ⟨hs0, rfl⟩ (α := Nat) (fun x => [(11, .val (.int .i64 (x : Int)))]) [(0, _), (2, _), (4, _), (6, _), (7, _), (10, _)] (fun x => [(3, .mix 25 [.farr 4 (difU w ts us (w * 8).toNat y ++ difR w ts us y x).length]), (4, .fam (fmP (difU w ts us (w * 8).toNat y ++ difR w ts us y x)))]) [_, _, _, .hole, .hole, _, _] (fun x => (x : Int) ≤ w * 8) (fun x => (w * 8).toNat - x) 0 [0, 1, 2, 3, 4, 5, 6] (by omega) rfl ⟨rfl, rfl, rfl, rfl, rfl, rfl, trivial⟩ ⟨rfl, trivial⟩ ⟨rfl, rfl, rfl, by rw [difR_0, List.append_nil]; rfl, by rw [difR_0, List.append_nil]; rfl, rfl, rfl, trivial⟩ ?_
    intro x hx
    simp only [upd, za, zaa, List.cons_append, List.nil_append]
    have hx2 := hx
    have hlR := difR_len w ts us y x
    have hlL : (difU w ts us (w * 8).toNat y ++ difR w ts us y x).length ≤ 5000 := by rw [List.length_append]; omega
    refine zae ?_
    refine zad ?_
    refine zab rfl rfl rfl (op_lss rfl (ev1 rfl) (ev1 rfl)) ?_
    refine zaf ?_
    refine zae ?_
    refine dwp_cond rfl (fun c2 => ?_) (fun c2 => ?_)
    · try simp only [decide_eq_true_eq, decide_eq_false_iff_not, beq_iff_eq, bne_iff_ne, beq_eq_false_iff_ne, bne_eq_false_iff_eq, Bool.not_eq_true', Bool.not_eq_false', Bool.and_eq_true, Bool.or_eq_true, Bool.or_eq_false_iff, ne_eq, Decidable.not_not, Int.not_lt, Int.not_le] at c2
      refine dwp_skip ?_
      refine zae ?_
      refine dwp_block ?_
      refine zae ?_
      refine zad ?_
      refine zab rfl rfl rfl (zac (.inl rfl) (ev1 rfl)) ?_
      refine zab rfl rfl rfl (zac (.inr rfl) (ev1 rfl)) ?_
      refine zaf ?_
      refine zae ?_
      by_cases hne : getC w ts (x : Int) (y : Int) ≠ getC w us (x : Int) (y : Int)
      · have ho : onS w h (x : Int) (y : Int) = true := onS_iff.2 ⟨by omega, by omega⟩
        refine zad ?_
        refine zab rfl rfl rfl (zac (.inl rfl) (ev1 rfl)) ?_
        refine zab rfl rfl rfl (zac (.inl rfl) (ev1 rfl)) ?_
        refine zab rfl rfl rfl (zac (.inl rfl) (ev1 rfl)) ?_
        refine zab rfl rfl rfl (op_build (ps := [(0, .tmp 15), (1, .tmp 16)]) rfl fl56 zr56 (vc (ev1 rfl) (vc (ev1 rfl) vn)) rfl rfl) ?_
        refine walk_w rfl rfl rfl (op_y (i := 0) [0, 1, 2, 3, 4] [] [] rfl (ev1 rfl) (ec (ev1 rfl) en) rfl rfl rfl (difRound_yes w h da db ts us ra rb ca cb x y ho _ hlL hne) rfl rfl rfl rfl rfl) (by simp only [upd, za, zaa]; exact rfl) ?_
        refine zab rfl rfl rfl (op_not rfl (ev1 rfl)) ?_
        refine zaf ?_
        refine dwp_if_f rfl (rfl) ?_
        refine dwp_skip ?_
        refine zad ?_
        refine zab rfl rfl rfl (op_add' rfl (ev1 rfl) (ev1 rfl) (fun _ => IntWalk.i64_in _ (by omega))) ?_
        refine zab rfl rfl rfl (zac (.inl rfl) (ev1 rfl)) ?_
        refine zaf ?_
        refine ⟨x + 1, [0, 1, 2, 3, 4, 5, 6], by omega, by simp only []; omega, rfl, ⟨rfl, rfl, rfl, rfl, rfl, rfl, rfl, trivial⟩, ⟨rfl, rfl, rfl, by rw [difR_yes hne, ← List.append_assoc]; rfl, by rw [difR_yes hne, ← List.append_assoc]; rfl, rfl, rfl, trivial⟩⟩
      · have ho : onS w h (x : Int) (y : Int) = true := onS_iff.2 ⟨by omega, by omega⟩
        refine zad ?_
        refine zab rfl rfl rfl (zac (.inl rfl) (ev1 rfl)) ?_
        refine zab rfl rfl rfl (zac (.inl rfl) (ev1 rfl)) ?_
        refine zab rfl rfl rfl (zac (.inl rfl) (ev1 rfl)) ?_
        refine zab rfl rfl rfl (op_build (ps := [(0, .tmp 15), (1, .tmp 16)]) rfl fl56 zr56 (vc (ev1 rfl) (vc (ev1 rfl) vn)) rfl rfl) ?_
        refine walk_w rfl rfl rfl (op_y (i := 0) [0, 1, 2, 3, 4] [] [] rfl (ev1 rfl) (ec (ev1 rfl) en) rfl rfl rfl (difRound_no w h da db ts us ra rb ca cb x y ho _ hlL (by simpa using hne)) rfl rfl rfl rfl rfl) (by simp only [upd, za, zaa]; exact rfl) ?_
        refine zab rfl rfl rfl (op_not rfl (ev1 rfl)) ?_
        refine zaf ?_
        refine dwp_if_f rfl (rfl) ?_
        refine dwp_skip ?_
        refine zad ?_
        refine zab rfl rfl rfl (op_add' rfl (ev1 rfl) (ev1 rfl) (fun _ => IntWalk.i64_in _ (by omega))) ?_
        refine zab rfl rfl rfl (zac (.inl rfl) (ev1 rfl)) ?_
        refine zaf ?_
        refine ⟨x + 1, [0, 1, 2, 3, 4, 5, 6], by omega, by simp only []; omega, rfl, ⟨rfl, rfl, rfl, rfl, rfl, rfl, rfl, trivial⟩, ⟨rfl, rfl, rfl, by rw [difR_no (by simpa using hne)]; rfl, by rw [difR_no (by simpa using hne)]; rfl, rfl, rfl, trivial⟩⟩
    · try simp only [decide_eq_true_eq, decide_eq_false_iff_not, beq_iff_eq, bne_iff_ne, beq_eq_false_iff_ne, bne_eq_false_iff_eq, Bool.not_eq_true', Bool.not_eq_false', Bool.and_eq_true, Bool.or_eq_true, Bool.or_eq_false_iff, ne_eq, Decidable.not_not, Int.not_lt, Int.not_le] at c2
      refine dwp_exit ?_
      refine zad ?_
      refine zab rfl rfl rfl (op_add' rfl (ev1 rfl) (ev1 rfl) (fun _ => IntWalk.i64_in _ (by omega))) ?_
      refine zab rfl rfl rfl (zac (.inl rfl) (ev1 rfl)) ?_
      refine zaf ?_
      obtain rfl : x = (w * 8).toNat := by omega
      refine ⟨y + 1, [0, 1, 2, 3, 4, 5, 6], by omega, by simp only []; omega, rfl, ⟨rfl, rfl, rfl, rfl, trivial⟩, ⟨rfl, rfl, rfl, by rw [difU_succ]; rfl, by rw [difU_succ]; rfl, rfl, rfl, trivial⟩⟩
  · try simp only [decide_eq_true_eq, decide_eq_false_iff_not, beq_iff_eq, bne_iff_ne, beq_eq_false_iff_ne, bne_eq_false_iff_eq, Bool.not_eq_true', Bool.not_eq_false', Bool.and_eq_true, Bool.or_eq_true, Bool.or_eq_false_iff, ne_eq, Decidable.not_not, Int.not_lt, Int.not_le] at c1
    refine dwp_exit ?_
    obtain rfl : y = (h * 8).toNat := by omega
    refine kend [0, 1, 2, 3, 4, 5, 6] (res_none rfl) rfl rfl ?_ ⟨rfl, rfl, rfl, rfl, rfl, rfl, rfl, trivial⟩
    rfl
set_option maxRecDepth 4000 in
set_option maxHeartbeats 1000000 in
theorem differ_d (w h : Int) (da db : List D) (ts us : List TL) (ra : RowOk da ts) (rb : RowOk db us) (ca : CvOk w h ts) (cb : CvOk w h us) : DFun Try.prog 23 [cvD w h da, cvD w h db] [] (.slf 2 (difC w h ts us).length ((difC w h ts us).flatMap p2)) [] := by
  refine dcalls_go (N := 42) 0 (by kernel_rfl) Try.func23 rfl rfl rfl (by simp only [fr0, Nat.zero_add, Nat.reduceAdd]; exact rfl) rfl fun s0 hs0 => ?_
  refine zae ?_
  refine dwp_holes 2 (by simp only [holes, List.cons_append, List.nil_append]; exact rfl) ?_
  refine zad ?_
  refine walk_w rfl rfl rfl (op_boxm 0 rfl (ev1 rfl) (fun s v h => by cases h <;> rfl) rfl) (by simp only [upd, za, zaa]; exact rfl) ?_
  refine walk_w rfl rfl rfl (op_boxm 1 rfl (ev1 rfl) (fun s v h => by cases h <;> rfl) rfl) (by simp only [upd, za, zaa]; exact rfl) ?_
  refine zab rfl rfl rfl (zac (.inr rfl) (ev1 rfl)) ?_
  refine zaf ?_
  refine zae ?_
  refine zae ?_
  refine dwp_draw [([0], []), ([], []), ([], []), ([1], []), ([], []), ([], []), ([], []), ([0], []), ([], []), ([], []), ([], []), ([1], []), ([], []), ([], []), ([], []), ([], []), ([], [])] mixed (by kernel_rfl) ?_
  refine zag rfl rfl (op_ldm rfl tb32 (ev1 rfl) rfl rfl) ?_
  refine zag rfl rfl (op_pnilm rfl pt32 (ev1 rfl)) ?_
  refine zag rfl rfl (zac (.inl rfl) (ev1 rfl)) ?_
  refine lex_gr (gd_f rfl rfl rfl) rfl rfl (op_ldm rfl tb32 (ev1 rfl) rfl rfl) ?_
  refine lex_gr (gd_f rfl rfl rfl) rfl rfl (op_pnilm rfl pt32 (ev2 rfl)) ?_
  refine zag rfl rfl (op_or rfl (ev1 rfl) (ev3 rfl id)) ?_
  refine zag rfl rfl (zac (.inl rfl) (ev1 rfl)) ?_
  refine lex_gr (gd_f rfl rfl rfl) rfl rfl (op_ldm rfl tb32 (ev1 rfl) rfl rfl) ?_
  refine lex_gr (gd_f rfl rfl rfl) rfl rfl (op_nc rfl (ev2 rfl) (fun s v h => by cases h; exact ⟨_, rfl⟩)) ?_
  refine lex_gr (gd_f rfl rfl rfl) rfl rfl (op_fadm rfl fo76_0 (ev2 rfl)) ?_
  refine lex_gr (gd_f rfl rfl rfl) rfl rfl (op_lddv [_, _] rfl tb72 (ev2 rfl) rfl rfl) ?_
  refine lex_gr (gd_f rfl rfl rfl) rfl rfl (op_ldm rfl tb32 (ev1 rfl) rfl rfl) ?_
  refine lex_gr (gd_f rfl rfl rfl) rfl rfl (op_nc rfl (ev2 rfl) (fun s v h => by cases h; exact ⟨_, rfl⟩)) ?_
  refine lex_gr (gd_f rfl rfl rfl) rfl rfl (op_fadm rfl fo76_0 (ev2 rfl)) ?_
  refine lex_gr (gd_f rfl rfl rfl) rfl rfl (op_lddv [_, _] rfl tb72 (ev2 rfl) rfl rfl) ?_
  refine lex_gr (gd_f rfl rfl rfl) rfl rfl (op_ner eq72 rfl gd72 tb72 (ev2 rfl) (ev2 rfl)) ?_
  refine zag rfl rfl (op_or rfl (ev1 rfl) (ev3 rfl id)) ?_
  refine lex_nil ?_
  refine dwp_if_f rfl (by simp) ?_
  refine dwp_skip ?_
  refine zae ?_
  refine dwp_holes 1 (by simp only [holes, List.cons_append, List.nil_append]; exact rfl) ?_
  refine zad ?_
  refine walk_w rfl rfl rfl (op_alloc 2 rfl zr25 rfl) (by simp only [upd, za, zaa]; exact rfl) ?_
  refine zaf ?_
  refine zae ?_
  refine zae ?_
  refine dwp_holes 2 (by simp only [holes, List.cons_append, List.nil_append]; exact rfl) ?_
  refine zad ?_
  refine zab rfl rfl rfl (op_ldm rfl tb32 (ev1 rfl) rfl rfl) ?_
  refine zab rfl rfl rfl (op_nc rfl (ev1 rfl) (fun s v h => by cases h; exact ⟨_, rfl⟩)) ?_
  refine zab rfl rfl rfl (op_fadm rfl fo76_0 (ev1 rfl)) ?_
  refine zab rfl rfl rfl (op_lddv [_, _] rfl tb72 (ev1 rfl) rfl rfl) ?_
  refine walk_w rfl rfl rfl (dop_call [] [] [3, 4] rfl (ev1 rfl) (ec (ev1 rfl) en) rfl rfl (points_d w h ca.may) rfl rfl rfl rfl rfl rfl) (by simp only [upd, za, zaa]; exact rfl) ?_
  refine zaf ?_
  refine dwp_block ?_
  refine dwp_adoptm 2 56 2 rfl (by simp only [List.cons_append, List.nil_append, za, zaa, List.length_cons, List.length_nil, Nat.zero_add, Nat.reduceAdd]; exact rfl) ?_
  refine dwp_hole ?_
  refine dwp_fam 6 rfl (by simp only [List.cons_append, List.nil_append, za, zaa]; exact rfl) ?_
  refine dwp_absc 2 0 6 rfl rfl rfl rfl (by simp only [List.cons_append, List.nil_append, za, zaa]; exact rfl) ?_
  refine dwp_hole ?_
  simp only [List.cons_append, List.nil_append]
  refine dwp_rf (FL := [(2, _), (3, _), (5, _)]) (st := .ready) (pe := none) [7, 0, 1, 2, 6, 3, 4] [] [] 7 rfl rfl (ev1 rfl) rfl (subF_lk ⟨rfl, rfl, rfl, trivial⟩) rfl rfl rfl (pts_dif w h da db ts us ra rb ca cb) rfl rfl rfl rfl rfl rfl rfl (by simp) (fun e => ?_) (fun c e => ?_)
  · simp only [upd, za, zaa]
    refine zae ?_
    refine zad ?_
    refine zab rfl rfl rfl (op_ldm rfl tb25 (ev1 rfl) rfl rfl) ?_
    refine zab rfl rfl rfl (zac (.inr rfl) (ev1 rfl)) ?_
    refine zaf ?_
    refine dwp_hole ?_
    refine dwp_rel 4 6 (j := 8) rfl rfl (fmP_at _) rfl (by simp only [List.cons_append, List.nil_append, za, zaa]; exact rfl) ?_
    refine dwp_giveA 4 rfl rfl (by simp only [List.cons_append, List.nil_append, za, zaa]; exact rfl) ?_
    refine dwp_ret ?_
    refine kend0 (rs1 rfl (rv_t rfl)) rfl ?_
    rfl
  · cases e
end Go.Proofs.Ytkhlobbkoodkmaa
namespace Go.Proofs.Ytkhlobbkoodkmaa
set_option linter.unusedVariables false
set_option linter.unusedSimpArgs false
open Go.RowKit
theorem pins_cv {w h : Int} {ds : List D} (hp : Pins ds) : ∀ d ∈ ds, d.adr ∈ (cvD w h ds).pins := fun d hd => by
  obtain ⟨j, hj⟩ := List.getElem?_of_mem hd
  obtain ⟨b, L, rfl⟩ := hp d hd
  have h1 := pinsL_of ds j _ b hj (by simp [D.pins])
  show b ∈ D.pinsL [.val (.int .i64 w), .val (.int .i64 h), .slm 1 ds.length ds]
  exact pinsL_of _ 2 (.slm 1 ds.length ds) b rfl (by rw [D.pins]; exact h1)
theorem pinsR_pins (A : List Nat) (ts : List TL) : Pins (pinsR A ts) := fun d hd => by
  obtain ⟨q, hq⟩ := List.getElem?_of_mem hd
  obtain ⟨b, t, _, _, e⟩ := pinsR_at hq
  exact ⟨b, _, e⟩
theorem RowP.pins {I : Nat → Prop} {ds ps : List D} {ts us : List TL} (hd : Pins ds) (h : RowP I ds ps ts us) (hr : RowOk ds ts) (hl : us.length = ts.length) : Pins ps := fun d hd2 => by
  obtain ⟨q, hq⟩ := List.getElem?_of_mem hd2
  have hql : q < us.length := by have := (List.getElem?_eq_some_iff.1 hq).1; rw [h.len, hr.len] at this; omega
  have hu : us[q]? = some us[q] := List.getElem?_eq_getElem hql
  by_cases e : ts[q]? = some us[q]
  · rw [h.eq q (by rw [hu, e])] at hq
    exact hd d (List.mem_of_getElem? hq)
  · obtain ⟨b, _, h2⟩ := h.ne q _ hu e
    rw [hq] at h2
    cases h2
    exact ⟨b, _, rfl⟩
theorem RowP.adr_eq {I : Nat → Prop} {ds ps : List D} {ts us : List TL} {q : Nat} (h : RowP I ds ps ts us) (hr : RowOk ds ts) (hI : ∀ d ∈ ds, I d.adr) (h1 : q < ds.length) (h2 : q < ps.length) (h3 : q < ts.length) (h4 : q < us.length) : (ds[q].adr = ps[q].adr) ↔ ts[q] = us[q] := by
  have hu : us[q]? = some us[q] := List.getElem?_eq_getElem h4
  by_cases e : ts[q] = us[q]
  · have := h.eq q (by rw [hu, List.getElem?_eq_getElem h3, e])
    rw [List.getElem?_eq_getElem h1, List.getElem?_eq_getElem h2] at this
    rw [Option.some.inj this]
    exact ⟨fun _ => e, fun _ => rfl⟩
  · obtain ⟨b, hb, h5⟩ := h.ne q _ hu (by rw [List.getElem?_eq_getElem h3]; exact fun e2 => e (Option.some.inj e2))
    rw [List.getElem?_eq_getElem h2] at h5
    have e5 := Option.some.inj h5
    refine ⟨fun e2 => absurd (hI _ (List.getElem_mem h1)) ?_, fun e2 => absurd e2 e⟩
    rw [e2, e5]
    exact hb
theorem shN_kept {I : Nat → Prop} {ds ps : List D} {ts us : List TL} (h : RowP I ds ps ts us) (hr : RowOk ds ts) (hI : ∀ d ∈ ds, I d.adr) (hl : us.length = ts.length) : shN ds ps = keptN ts us := by
  have l1 := hr.len
  have l2 := h.len
  have key : ∀ k, k ≤ ts.length → shN (ds.take k) (ps.take k) = keptN (ts.take k) (us.take k) := fun k => by
    induction k with
    | zero => intro _; simp [shN, keptN]
    | succ k ih =>
      intro hk
      rw [shN_take (by omega) (by omega), keptN_take (by omega) (by omega), ih (by omega)]
      have := h.adr_eq hr hI (q := k) (by omega) (by omega) (by omega) (by omega)
      by_cases e : ts[k] = us[k]
      · rw [if_pos e, if_pos (this.2 e)]
      · rw [if_neg e, if_neg fun e2 => e (this.1 e2)]
  have := key ts.length (Nat.le_refl _)
  rwa [List.take_of_length_le (by omega), List.take_of_length_le (by omega), List.take_of_length_le (by omega), List.take_of_length_le (by omega)] at this
theorem tkmin {α : Type} (l : List α) (n : Nat) : l.take (min l.length n) = l.take n := by
  rcases Nat.le_total l.length n with h | h
  · rw [Nat.min_eq_left h, List.take_length, List.take_of_length_le h]
  · rw [Nat.min_eq_right h]
set_option maxRecDepth 4000 in
set_option maxHeartbeats 1000000 in
theorem own_d (w h : Int) (ts : List TL) : DFun Try.prog 9 [shD w h ts] [] (shD w h (ts.take 17)) [] := by
  refine dcalls_go (N := 13) 0 (by kernel_rfl) Try.func9 rfl rfl rfl (by simp only [fr0, Nat.zero_add, Nat.reduceAdd]; exact rfl) rfl fun s0 hs0 => ?_
  refine zae ?_
  refine dwp_holes 2 (by simp only [holes, List.cons_append, List.nil_append]; exact rfl) ?_
  refine zad ?_
  refine walk_w rfl rfl rfl (op_boxam 0 rfl (ev1 rfl) rfl) (by simp only [upd, za, zaa]; exact rfl) ?_
  refine walk_w rfl rfl rfl (op_alloc 1 rfl zr24 rfl) (by simp only [upd, za, zaa]; exact rfl) ?_
  refine zaf ?_
  refine zae ?_
  refine zad ?_
  refine zab rfl rfl rfl (op_fa rfl fo24_2 (ev1 rfl)) ?_
  refine zab rfl rfl rfl (op_ldm rfl tb22 (ev1 rfl) rfl rfl) ?_
  refine zab rfl rfl rfl (op_fa rfl fo24_2 (ev1 rfl)) ?_
  refine zab rfl rfl rfl (op_ldm rfl tb22 (ev1 rfl) rfl rfl) ?_
  refine zab rfl rfl rfl (op_len rfl sl22 (ev1 rfl)) ?_
  refine zab rfl rfl rfl (op_min rfl (ev1 rfl) (ev1 rfl)) ?_
  refine zab rfl rfl rfl (op_sltk (j := min ts.length 17) rfl sl22 (ev1 rfl) (bd_some (ev1 rfl)) (fun _ => by omega) (fun _ => by omega) tc_len) ?_
  refine zab rfl rfl rfl (dop_call [] [] [] rfl (ev1 rfl) (ec (ev1 rfl) en) rfl rfl (cloneT_f _ (by rw [List.length_take]; omega)) rfl rfl rfl rfl rfl rfl) ?_
  refine zab rfl rfl rfl (op_fa rfl fo24_2 (ev1 rfl)) ?_
  refine walk_s rfl rfl (op_stm rfl tb22 (ev1 rfl) (ev1 rfl) (fun s v h => by cases h <;> exact ⟨rfl, rfl⟩) rfl (by first | decide | exact Nat.le_of_ble_eq_true rfl | simp)) (by simp only [upd, za, zaa]; exact rfl) ?_
  refine zaf ?_
  refine zae ?_
  refine zad ?_
  refine zab rfl rfl rfl (op_ldmw rfl tb24 (ev1 rfl) rfl rfl) ?_
  refine walk_s rfl rfl (op_stam rfl tb24 (ev1 rfl) (ev1 rfl) rfl rfl rfl rfl) (by simp only [upd, za, zaa]; exact rfl) ?_
  refine zaf ?_
  refine dwp_ret ?_
  refine kend0 (rs1 rfl (rv_mw tb24 rfl rfl rfl)) rfl ?_
  rw [tkmin]
set_option maxRecDepth 4000 in
set_option maxHeartbeats 1000000 in
theorem few_d (l : List Dt) : DFun Try.prog 29 [.slf 6 l.length (l.flatMap dtC)] [] (.slf 6 (l.take 30).length ((l.take 30).flatMap dtC)) [] := by
  refine dcalls_go (N := 9) 0 (by kernel_rfl) Try.func29 rfl rfl rfl (by simp only [fr0, Nat.zero_add, Nat.reduceAdd]; exact rfl) rfl fun s0 hs0 => ?_
  refine dwp_len (t := 0) rfl fun hl0 hL0 => ?_
  refine zae ?_
  refine zad ?_
  refine zab rfl rfl rfl (zac (.inr rfl) (ev1 rfl)) ?_
  refine zaf ?_
  refine zae ?_
  refine zad ?_
  refine zab rfl rfl rfl (zac (.inl rfl) (ev1 rfl)) ?_
  refine zab rfl rfl rfl (zac (.inl rfl) (ev1 rfl)) ?_
  refine zab rfl rfl rfl (op_len rfl sl60 (ev1 rfl)) ?_
  refine zab rfl rfl rfl (op_min rfl (ev1 rfl) (ev1 rfl)) ?_
  refine zab rfl rfl rfl (op_sltk (j := min l.length 30) rfl sl60 (ev1 rfl) (bd_some (ev1 rfl)) (fun _ => by omega) (fun _ => by omega) (fun _ => rfl)) ?_
  refine zab rfl rfl rfl (dop_call [] [] [] rfl (ev1 rfl) (ec (ev1 rfl) en) rfl rfl (cloneDt_f _ (by rw [List.length_take]; omega)) rfl rfl rfl rfl rfl rfl) ?_
  refine zab rfl rfl rfl (zac (.inr rfl) (ev1 rfl)) ?_
  refine zaf ?_
  refine dwp_ret ?_
  refine kend0 (rs1 rfl (rv_t rfl)) rfl ?_
  rw [tkmin]
end Go.Proofs.Ytkhlobbkoodkmaa
namespace Go.Proofs.Ytkhlobbkoodkmaa
set_option linter.unusedVariables false
set_option linter.unusedSimpArgs false
open Go.RowKit
def redC : C4 := ⟨255, 0, 0, 255⟩
def wkD : List Dt := [⟨9, 1, redC⟩, ⟨99, 0, redC⟩]
def wkT : List TL := List.replicate 2 (nT zC4)
def wkU : List TL := putsC 2 1 wkT wkD
theorem wkT_ok : CvOk 2 1 wkT := ⟨by decide, by decide⟩
theorem wkU_ok : CvOk 2 1 wkU := CvOk.puts wkT_ok wkD
theorem wk_kept : keptN wkT wkU = 1 := by kernel_rfl
theorem wk_nil : Wk (.val (.agg #[.int .i64 1, .int .i64 1, .slice none 0 0])) (shD 1 1 []) := (Wk.vagg _).trans (Wk.agg (.cons (.refl _) (.cons (.refl _) (.cons (Wk.slf0 256) .nil))))
theorem Okd.nl {Q : D → Prop} {d : D} (h : ∀ e, Q e → e.nl = true) (k : Okd Q d) : d.nl = true := by
  obtain ⟨e, h1, rfl⟩ := k
  simp [D.nl, D.nlL, h e h1]
theorem NewCv.nl {I : Nat → Prop} {w h : Int} {ts : List TL} {e : D} (k : NewCv I w h ts e) : e.nl = true := by
  obtain ⟨A, _, _, rfl⟩ := k
  rfl
set_option maxRecDepth 4000 in
set_option maxHeartbeats 1000000 in
theorem wakes_d : DFun Try.prog 8 [] [] (.val (.bool true)) [] := by
  refine dcalls_go (N := 91) 0 (by kernel_rfl) Try.func8 rfl rfl rfl (by simp only [fr0, Nat.zero_add, Nat.reduceAdd]; exact rfl) rfl fun s0 hs0 => ?_
  refine zae ?_
  refine zad ?_
  refine zab rfl rfl rfl (zac (.inr rfl) (ev1 rfl)) ?_
  refine zaf ?_
  refine zae ?_
  refine zad ?_
  refine walk_i rfl rfl rfl (dop_callI [] [] rfl (ev1 rfl) (ec (ev1 rfl) (ec (ev1 rfl) en)) rfl rfl (cnew_i 2 1 2 (by decide) (by decide)) rfl rfl rfl rfl (fun I d h => h.nl fun e he => he.nl)) (by simp only [upd, za, zaa]; exact rfl) ?_
  rintro I1 _ hI1 hP1 ⟨_, ⟨A1, hA1, hN1, rfl⟩, rfl⟩
  refine zab rfl rfl rfl (zac (.inl rfl) (ev1 rfl)) ?_
  refine zab rfl rfl rfl (op_ext rfl (ev1 rfl) rfl) ?_
  refine zab rfl rfl rfl (op_ext rfl (ev1 rfl) rfl) ?_
  refine zab rfl rfl rfl (zac (.inr rfl) (ev1 rfl)) ?_
  refine zab rfl rfl rfl (zac (.inr rfl) (ev1 rfl)) ?_
  refine zaf ?_
  refine zae ?_
  refine dwp_holes 1 (by simp only [holes, List.cons_append, List.nil_append]; exact rfl) ?_
  refine zad ?_
  refine zab rfl rfl rfl ((op_build (ps := [(0, .const (.int .u8 255)), (3, .const (.int .u8 255))]) rfl fl40 zr40 (vc (ev1 rfl) (vc (ev1 rfl) vn)) rfl rfl).cast (d' := .val (.agg (c4 redC).toArray)) (by kernel_rfl)) ?_
  refine walk_w rfl rfl rfl (op_alloc 0 rfl zr40 rfl) (by simp only [upd, za, zaa]; exact rfl) ?_
  refine walk_s rfl rfl (op_stwa rfl tb40 (ev1 rfl) (ev1 rfl) rfl rfl rfl rfl) (by simp only [upd, za, zaa]; exact rfl) ?_
  refine zaf ?_
  refine zae ?_
  have hr1 := pinsR_ok hA1
  refine zad ?_
  refine zab rfl rfl rfl (zac (.inl rfl) (ev1 rfl)) ?_
  refine zab rfl rfl rfl (op_ldw rfl tb40 (ev1 rfl) rfl rfl) ?_
  refine zab rfl rfl rfl (op_build (ps := [(0, .const (.int .i64 9)), (1, .const (.int .i64 1)), (2, .tmp 19)]) rfl fl47 zr47 (vc (ev1 rfl) (vc (ev1 rfl) (vc (ev1 rfl) vn))) rfl rfl) ?_
  refine zab rfl rfl rfl (op_ldw rfl tb40 (ev1 rfl) rfl rfl) ?_
  refine zab rfl rfl rfl (op_build (ps := [(0, .const (.int .i64 99)), (2, .tmp 21)]) rfl fl47 zr47 (vc (ev1 rfl) (vc (ev1 rfl) vn)) rfl rfl) ?_
  refine zab rfl rfl rfl (op_bs (ps := [(0, .tmp 20), (1, .tmp 22)]) rfl sl60 zr47 rfl (vc (ev1 rfl) (vc (ev1 rfl) vn)) rfl (by decide) (by decide)) ?_
  refine walk_i rfl rfl rfl (dop_callI [] [] rfl (ev1 rfl) (ec (ev1 rfl) (ec (ev1 rfl) en)) rfl rfl (with_i 2 1 _ _ hr1 wkT_ok wkD) rfl rfl rfl rfl (fun I d hf => by obtain ⟨_, _, rfl⟩ := hf; rfl)) (by simp only [upd, za, zaa]; exact rfl) ?_
  rintro I2 _ hI2 hP2 ⟨ps2, hp2, rfl⟩
  refine zab rfl rfl rfl (zac (.inr rfl) (ev1 rfl)) ?_
  refine zaf ?_
  refine zae ?_
  have hr2 := hp2.ok hr1 (putsC_len ..)
  refine dwp_holes 1 (by simp only [holes, List.cons_append, List.nil_append]; exact rfl) ?_
  refine zad ?_
  refine zab rfl rfl rfl (zac (.inl rfl) (ev1 rfl)) ?_
  refine zab rfl rfl rfl (dop_call [] [] [] rfl (ev1 rfl) (ec (ev1 rfl) (ec (ev1 rfl) (ec (ev1 rfl) en))) rfl rfl (at_d 2 1 _ _ hr2 wkU_ok 9 1) rfl rfl rfl rfl rfl rfl) ?_
  refine zab rfl rfl rfl (zac (.inl rfl) (ev1 rfl)) ?_
  refine zab rfl rfl rfl (op_ext rfl (ev1 rfl) rfl) ?_
  refine zab rfl rfl rfl (op_ext rfl (ev1 rfl) rfl) ?_
  refine walk_w rfl rfl rfl (op_alloc 1 rfl zr40 rfl) (by simp only [upd, za, zaa]; exact rfl) ?_
  refine walk_s rfl rfl (op_stwa rfl tb40 (ev1 rfl) (ev1 rfl) rfl rfl rfl rfl) (by simp only [upd, za, zaa]; exact rfl) ?_
  refine zab rfl rfl rfl (zac (.inr rfl) (ev1 rfl)) ?_
  refine zaf ?_
  refine zae ?_
  refine dwp_holes 1 (by simp only [holes, List.cons_append, List.nil_append]; exact rfl) ?_
  refine zad ?_
  refine zab rfl rfl rfl (zac (.inl rfl) (ev1 rfl)) ?_
  refine zab rfl rfl rfl (dop_call [] [] [] rfl (ev1 rfl) (ec (ev1 rfl) (ec (ev1 rfl) (ec (ev1 rfl) en))) rfl rfl (at_d 2 1 _ _ hr1 wkT_ok 16 0) rfl rfl rfl rfl rfl rfl) ?_
  refine zab rfl rfl rfl (zac (.inl rfl) (ev1 rfl)) ?_
  refine zab rfl rfl rfl (op_ext rfl (ev1 rfl) rfl) ?_
  refine zab rfl rfl rfl (op_ext rfl (ev1 rfl) rfl) ?_
  refine walk_w rfl rfl rfl (op_alloc 2 rfl zr40 rfl) (by simp only [upd, za, zaa]; exact rfl) ?_
  refine walk_s rfl rfl (op_stwa rfl tb40 (ev1 rfl) (ev1 rfl) rfl rfl rfl rfl) (by simp only [upd, za, zaa]; exact rfl) ?_
  refine zab rfl rfl rfl (zac (.inr rfl) (ev1 rfl)) ?_
  refine zaf ?_
  refine zae ?_
  refine zad ?_
  refine zab rfl rfl rfl (zac (.inl rfl) (ev1 rfl)) ?_
  refine zab rfl rfl rfl (dop_call [] [] [] rfl (ev1 rfl) (ec (ev1 rfl) en) rfl rfl (size_d 2 1 _ _ hr1 wkT_ok) rfl rfl rfl rfl rfl rfl) ?_
  refine zab rfl rfl rfl (zac (.inl rfl) (ev1 rfl)) ?_
  refine zab rfl rfl rfl (op_ext rfl (ev1 rfl) rfl) ?_
  refine zab rfl rfl rfl (op_ext rfl (ev1 rfl) rfl) ?_
  refine zab rfl rfl rfl (zac (.inr rfl) (ev1 rfl)) ?_
  refine zab rfl rfl rfl (zac (.inr rfl) (ev1 rfl)) ?_
  refine zaf ?_
  refine zae ?_
  refine zad ?_
  refine zab rfl rfl rfl (op_build (ps := [(0, .const (.int .i64 1)), (1, .const (.int .i64 1))]) rfl fl24 zr24 (vc (ev1 rfl) (vc (ev1 rfl) vn)) rfl rfl) ?_
  refine zab rfl rfl rfl (dop_call [] [] [] rfl (ev1 rfl) (ec (evwk (ev1 rfl) wk_nil) en) rfl rfl (of_0 1 1 [] (by decide)) rfl rfl rfl rfl rfl rfl) ?_
  refine zab rfl rfl rfl (zac (.inl rfl) (ev1 rfl)) ?_
  refine zab rfl rfl rfl (op_ext rfl (ev1 rfl) rfl) ?_
  refine zab rfl rfl rfl (op_ext rfl (ev1 rfl) rfl) ?_
  refine zab rfl rfl rfl (zac (.inr rfl) (ev1 rfl)) ?_
  refine zab rfl rfl rfl (zac (.inr rfl) (ev1 rfl)) ?_
  refine zaf ?_
  refine zae ?_
  have hsh := shN_kept hp2 hr1 (fun d hd => hP2 1 _ rfl _ (pins_cv (pinsR_pins _ _) d hd)) (putsC_len ..)
  refine zad ?_
  refine zab rfl rfl rfl (zac (.inl rfl) (ev1 rfl)) ?_
  refine zab rfl rfl rfl ((op_eql rfl (ev1 rfl) (ev1 rfl)).cast (d' := .val (.bool true)) (by kernel_rfl)) ?_
  refine zab rfl rfl rfl (zac (.inl rfl) (ev1 rfl)) ?_
  refine walk_k (gd_t (b := true) rfl rfl rfl) rfl rfl rfl (zac (.inl rfl) (ev1 rfl)) (by simp only [upd, za, zaa]; exact rfl) ?_
  refine walk_k (gd_t (b := true) rfl rfl rfl) rfl rfl rfl ((op_eql rfl (ev2 rfl) (ev1 rfl)).cast (d' := .val (.bool true)) (by kernel_rfl)) (by simp only [upd, za, zaa]; exact rfl) ?_
  refine zab rfl rfl rfl ((op_and rfl (ev1 rfl) (ev3 rfl (fun _ => rfl))).cast (d' := .val (.bool true)) (by rfl)) ?_
  refine zab rfl rfl rfl (zac (.inl rfl) (ev1 rfl)) ?_
  refine walk_k (gd_t (b := true) rfl rfl rfl) rfl rfl rfl (op_ldw rfl tb40 (ev1 rfl) rfl rfl) (by simp only [upd, za, zaa]; exact rfl) ?_
  refine walk_k (gd_t (b := true) rfl rfl rfl) rfl rfl rfl (op_ldw rfl tb40 (ev1 rfl) rfl rfl) (by simp only [upd, za, zaa]; exact rfl) ?_
  refine walk_k (gd_t (b := true) rfl rfl rfl) rfl rfl rfl (op_eqr eq40 rfl gd40 tb40 (ev2 rfl) (ev2 rfl)) (by simp only [upd, za, zaa]; exact rfl) ?_
  refine zab rfl rfl rfl (op_and rfl (ev1 rfl) (ev3 rfl (fun _ => rfl))) ?_
  refine zab rfl rfl rfl (zac (.inl rfl) (ev1 rfl)) ?_
  refine walk_gr (gd_t rfl rfl rfl) rfl rfl rfl (zac (.inl rfl) (ev1 rfl)) ?_
  refine zab rfl rfl rfl (op_and rfl (ev1 rfl) (ev3 rfl id)) ?_
  refine zab rfl rfl rfl (zac (.inl rfl) (ev1 rfl)) ?_
  refine walk_gr (gd_t rfl rfl rfl) rfl rfl rfl (zac (.inl rfl) (ev1 rfl)) ?_
  refine walk_gr (gd_t rfl rfl rfl) rfl rfl rfl (op_not rfl (ev2 rfl)) ?_
  refine zab rfl rfl rfl (op_and rfl (ev1 rfl) (ev3 rfl id)) ?_
  refine zab rfl rfl rfl (zac (.inl rfl) (ev1 rfl)) ?_
  refine walk_gr (gd_t rfl rfl rfl) rfl rfl rfl (zac (.inl rfl) (ev1 rfl)) ?_
  refine walk_gr (gd_t rfl rfl rfl) rfl rfl rfl (op_eql rfl (ev2 rfl) (ev1 rfl)) ?_
  refine zab rfl rfl rfl (op_and rfl (ev1 rfl) (ev3 rfl id)) ?_
  refine zab rfl rfl rfl (zac (.inl rfl) (ev1 rfl)) ?_
  refine walk_gr (gd_t rfl rfl rfl) rfl rfl rfl (zac (.inl rfl) (ev1 rfl)) ?_
  refine walk_gr (gd_t rfl rfl rfl) rfl rfl rfl (op_eql rfl (ev2 rfl) (ev1 rfl)) ?_
  refine zab rfl rfl rfl (op_and rfl (ev1 rfl) (ev3 rfl id)) ?_
  refine zab rfl rfl rfl (zac (.inl rfl) (ev1 rfl)) ?_
  refine walk_gr (gd_t rfl rfl rfl) rfl rfl rfl (zac (.inl rfl) (ev1 rfl)) ?_
  refine walk_gr (gd_t rfl rfl rfl) rfl rfl rfl (zac (.inl rfl) (ev1 rfl)) ?_
  refine walk_gr (gd_t rfl rfl rfl) rfl rfl rfl (dop_call [] [] [] rfl (ev1 rfl) (ec (ev2 rfl) (ec (ev2 rfl) en)) rfl rfl (shared_d 2 1 _ _ (by rw [hp2.len]) (by rw [pinsR_len hA1]; decide) (pinsR_pins _ _) (hp2.pins (pinsR_pins _ _) hr1 (putsC_len ..))) rfl rfl rfl rfl rfl rfl) ?_
  refine walk_gr (gd_t rfl rfl rfl) rfl rfl rfl (op_eql rfl (ev2 rfl) (ev1 rfl)) ?_
  refine zab rfl rfl rfl (op_and rfl (ev1 rfl) (ev3 rfl id)) ?_
  refine zab rfl rfl rfl (zac (.inl rfl) (ev1 rfl)) ?_
  refine walk_gr (gd_t rfl rfl rfl) rfl rfl rfl (zac (.inl rfl) (ev1 rfl)) ?_
  refine walk_gr (gd_t rfl rfl rfl) rfl rfl rfl (zac (.inl rfl) (ev1 rfl)) ?_
  refine walk_gr (gd_t rfl rfl rfl) rfl rfl rfl (dop_call [] [] [] rfl (ev1 rfl) (ec (ev2 rfl) (ec (ev2 rfl) en)) rfl rfl (differ_d 2 1 _ _ _ _ hr1 hr2 wkT_ok wkU_ok) rfl rfl rfl rfl rfl rfl) ?_
  refine walk_gr (gd_t rfl rfl rfl) rfl rfl rfl ((op_build (ps := [(0, .const (.int .i64 9)), (1, .const (.int .i64 1))]) rfl fl56 zr56 (vc (ev1 rfl) (vc (ev1 rfl) vn)) rfl rfl).cast (d' := .val (.agg (p2 ⟨9, 1⟩).toArray)) (by kernel_rfl)) ?_
  refine walk_gr (gd_t rfl rfl rfl) rfl rfl rfl (op_bs (ps := [(0, .tmp 81)]) rfl sl25 zr56 rfl (vc (ev2 rfl) vn) rfl (by decide) (by decide)) ?_
  refine walk_gr (gd_t rfl rfl rfl) rfl rfl rfl (dop_call [] [] [] rfl (ev1 rfl) (ec (ev2 rfl) (ec (ev2 rfl) en)) rfl rfl (equalP _ [⟨9, 1⟩]) rfl rfl rfl rfl rfl rfl) ?_
  refine zab rfl rfl rfl (op_and rfl (ev1 rfl) (ev3 rfl id)) ?_
  refine zab rfl rfl rfl (zac (.inl rfl) (ev1 rfl)) ?_
  refine walk_gr (gd_t rfl rfl rfl) rfl rfl rfl (zac (.inl rfl) (ev1 rfl)) ?_
  refine walk_gr (gd_t rfl rfl rfl) rfl rfl rfl (zac (.inl rfl) (ev1 rfl)) ?_
  refine walk_gr (gd_t rfl rfl rfl) rfl rfl rfl (dop_call [] [] [] rfl (ev1 rfl) (ec (ev2 rfl) (ec (ev2 rfl) en)) rfl rfl (same_cv 2 1 _ _ _ _ hr1 hr2 wkT_ok wkU_ok) rfl rfl rfl rfl rfl rfl) ?_
  refine walk_gr (gd_t rfl rfl rfl) rfl rfl rfl (op_not rfl (ev2 rfl)) ?_
  refine zab rfl rfl rfl (op_and rfl (ev1 rfl) (ev3 rfl id)) ?_
  refine zab rfl rfl rfl (zac (.inr rfl) (ev1 rfl)) ?_
  refine zaf ?_
  refine dwp_ret ?_
  refine kend0 (rs1 rfl (rv_t rfl)) rfl ?_
  rw [hsh.trans wk_kept]
  kernel_rfl
end Go.Proofs.Ytkhlobbkoodkmaa
