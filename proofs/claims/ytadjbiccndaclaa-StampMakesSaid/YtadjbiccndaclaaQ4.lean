/- canvases with dots; canvases with dots, as they show; canvases compared, point by point; where canvases differ; How many entries a map has; rows of elements whose cells are all one; Rows cut with three bounds, in the middle: of memory that stays, and of one's own; stamps; stamps turned, and flipped; A scope in which functions are deferred, and the run jumps back to one label; turns and flips; stamps asked, made, and counted; stamps turned, flipped, and counted, by the document; stamps cut out of canvases. No condition. -/
import Derived.Test.YtadjbiccndaclaaQ3
import Derived.Test.YtadjbiccndaclaaRows
namespace Go.Proofs.Ytadjbiccndaclaa
set_option maxRecDepth 4000
set_option linter.unusedVariables false
set_option linter.unusedSimpArgs false
open Go.RowKit
theorem fl132 : fdL Try.prog 132 = some [(0, 2), (2, 1), (3, 1), (4, 1)] := by kernel_rfl
theorem sl97 : slE Try.prog 97 = some (112, 6, 24) := by kernel_rfl
theorem tb112 : tyB Try.prog 112 = some (true, 6) := by kernel_rfl
theorem zr112 : zrC Try.prog 112 = some [.int .i64 0, .int .i64 0, .int .u8 0, .int .u8 0, .int .u8 0, .int .u8 0] := by kernel_rfl
theorem zr132 : zrC Try.prog 132 = some [.int .i64 0, .int .i64 0, .nilFunc, .slice none 0 0, .map none] := by kernel_rfl
theorem rowS_fits {f g n : Nat} {ts es : List TL} {ds : List D} {ks seen : List Nat} {σ : List Nat} {V : Nat → Bool} {M : List Blk} {T : TypeId} {l l' : List D} (hn : D.nlL ds = true) (hl : l = rowS f ts es ds ks seen) (hl' : l' = rowS g ts es ds ks seen) (hp : pos σ f = some g) : (vwL σ V M l).map (Blk.arx T 1 n) = some (Blk.arx T 1 n l') := by
  subst hl hl'
  have h : ∀ r : List Nat, (∀ q ∈ r, q < ds.length) → vwL σ V M (r.map fun q => if q ∈ ks ∧ ks.idxOf q ∈ seen ∧ es[ks.idxOf q]? ≠ ts[q]? then D.floc f (ks.idxOf q) 0 else ds.getD q .junk) = some (r.map fun q => if q ∈ ks ∧ ks.idxOf q ∈ seen ∧ es[ks.idxOf q]? ≠ ts[q]? then D.floc g (ks.idxOf q) 0 else ds.getD q .junk) := fun r hr => by
    induction r with
    | nil => rfl
    | cons a r ih =>
      rw [List.map_cons, vwL, ih fun q hq => hr q (by simp [hq])]
      have : vw σ V M (if a ∈ ks ∧ ks.idxOf a ∈ seen ∧ es[ks.idxOf a]? ≠ ts[a]? then D.floc f (ks.idxOf a) 0 else ds.getD a .junk) = some (if a ∈ ks ∧ ks.idxOf a ∈ seen ∧ es[ks.idxOf a]? ≠ ts[a]? then D.floc g (ks.idxOf a) 0 else ds.getD a .junk) := by
        split
        · unfold vw; rw [hp]
        · exact vw_nl σ V M _ (nlL_mem hn (dsD (hr a (by simp))))
      rw [this]; rfl
  have := h (List.range ds.length) fun q hq => by simpa using hq
  unfold rowS
  rw [this]; rfl
theorem tc_whole (t : TL) : ((tc t).drop 0).take 256 = tc t := by rw [List.drop_zero, List.take_of_length_le (by rw [tc_len]; exact Nat.le_refl _)]
theorem getq {l : List TL} {p : Nat} (h : p < l.length) : l[p]? = some (l.getD p zT) := by rw [List.getElem?_eq_getElem h, tl_at h]
theorem all_in : ∀ {n : Nat} {seen : List Nat} (h : seen.Nodup) (hl : ∀ p ∈ seen, p < n), seen.length ≤ n
  | 0, seen, h, hl => by
    cases seen with
    | nil => exact Nat.le_refl _
    | cons a l => exact absurd (hl a (by simp)) (Nat.not_lt_zero _)
  | n + 1, seen, h, hl => by
    have h1 := all_in (n := n) (seen := seen.erase n) (h.erase n) fun p hp => by
      have h2 := hl p (List.mem_of_mem_erase hp)
      have h3 : p ≠ n := fun e => by subst e; exact absurd hp (List.Nodup.not_mem_erase h)
      omega
    rw [List.length_erase] at h1
    split at h1 <;> omega
def FromCv (I : Nat → Prop) (w h : Int) (ds : List D) (ts us : List TL) (d : D) : Prop := ∃ ps, RowP I ds ps ts us ∧ d = cvD w h ps
set_option maxRecDepth 4000 in
set_option maxHeartbeats 1000000 in
theorem done_i (w h : Int) (ds : List D) (ts us : List TL) (hr : RowOk ds ts) (hc : CvOk w h ts) (s : List Nat × List TL) (hs : DotOk ts us s) : DFunI Try.prog 80 [.loc 0 0] [.mix 132 [.val (.int .i64 w), .val (.int .i64 h), .fn (.func 89) [] [.loc 4 0, .loc 5 0], .arr 1, .hnd 2], .arx 104 1 ds.length ds, .mpd (kI s.1) (ptN 3 s.2.length), .fam (tlM s.2), .flat 3 [.int .i64 (w * 8)], .flat 3 [.int .i64 (h * 8)]] (fun I => FromCv I w h ds ts us) [.gone, .gone, .gone, .gone, .gone, .gone] := by
  have hlen := hs.len
  have hdl := hr.len
  refine dcallsI_go (N := 45) 6 (by kernel_rfl) Try.func80 rfl rfl rfl (by simp only [fr0, Nat.zero_add, Nat.reduceAdd]; exact rfl) rfl fun s0 hs0 => ?_
  refine zaf ?_
  refine zad ?_
  refine zab rfl rfl rfl (zac (.inr rfl) (ev1 rfl)) ?_
  refine zae ?_
  refine zaf ?_
  refine zaf ?_
  refine zai 1 (by simp only [holes, List.cons_append, List.nil_append]; exact rfl) ?_
  refine zad ?_
  refine zab rfl rfl rfl (zac (.inl rfl) (ev1 rfl)) ?_
  refine zab rfl rfl rfl (op_nc rfl (ev1 rfl) (fun s v h => by cases h; exact ⟨_, rfl⟩)) ?_
  refine zab rfl rfl rfl (op_fa rfl fo132_3 (ev1 rfl)) ?_
  refine zab rfl rfl rfl (op_ldm rfl tb130 (ev1 rfl) rfl rfl) ?_
  refine zak rfl rfl rfl (op_rgd 6 rfl mp130 (ev1 rfl) rfl rfl) (by simp only [upd, za, zaa]; exact rfl) ?_
  refine zae ?_
  refine dwp_block ?_
  refine dwp_loopS ⟨hs0, rfl⟩ (α := List Nat) (fun sn => []) [(0, _), (9, _)] (fun sn => [(1, .arx 104 1 ds.length (rowS 3 ts s.2 ds s.1 sn)), (6, .mit (.hnd 2) (kI s.1).length sn)]) [_, .hole, _, _, _, _, .hole] (fun sn => sn.Nodup ∧ ∀ p ∈ sn, p < s.1.length) (fun sn => s.1.length - sn.length) [] [0, 1, 2, 3, 4, 5, 6] (⟨List.nodup_nil, fun p hp => by simp at hp⟩) rfl ⟨rfl, rfl, trivial⟩ trivial ⟨rfl, arxn_fits hr.nl rfl (rowS_nil ..).symm, ptN_mpd rfl rfl rfl rfl, rfl, rfl, rfl, rfl, trivial⟩ ?_
  intro sn hx
  simp only [upd, za, zaa, List.cons_append, List.nil_append]
  obtain ⟨hnd, hlt⟩ := hx
  refine zaf ?_
  refine zad ?_
  refine walk_e rfl rfl rfl (op_nxd rfl (ev1 rfl) rfl rfl) ?_
  rintro d wr (⟨rfl, rfl, hall⟩ | ⟨p, kp, ep, hkp, hep, hnp, rfl, rfl⟩)
  · simp only [upd]
    refine zab rfl rfl rfl (op_ext rfl (ev1 rfl) rfl) ?_
    refine zae ?_
    refine zaf ?_
    refine dwp_if_f rfl (rfl) ?_
    refine dwp_exit ?_
    refine zaf ?_
    refine dwp_frz 3 1 rfl rfl (tlM_flat) fun ad had => ?_
    simp only [za, zaa]
    have hP := rowS_frz (f := 3) (I := s0.I) (seen := sn) hr hs (fun p hp => hall p (by simpa using hp)) (fun k hk => had k (by simpa using hk))
    have hPk := hP.ok hr hs.ul
    refine dwp_givem 0 3 (hPk.nl) rfl rfl rfl (by simp only [za, zaa]; exact rfl) ?_
    refine dwp_draw [([], []), ([], []), ([], []), ([0], []), ([], []), ([], []), ([], []), ([0], []), ([], []), ([], []), ([], [])] mixed (by kernel_rfl) ?_
    refine zag rfl rfl (zac (.inl rfl) (ev1 rfl)) ?_
    refine zag rfl rfl (op_nc rfl (ev1 rfl) (fun s v h => by cases h; exact ⟨_, rfl⟩)) ?_
    refine zag rfl rfl (op_fa rfl fo132_0 (ev1 rfl)) ?_
    refine zag rfl rfl (op_ldmv (R := [_, _]) rfl tb101 (ev1 rfl) rfl rfl rfl) ?_
    refine zag rfl rfl (zac (.inl rfl) (ev1 rfl)) ?_
    refine zag rfl rfl (op_nc rfl (ev1 rfl) (fun s v h => by cases h; exact ⟨_, rfl⟩)) ?_
    refine zag rfl rfl (op_fa rfl fo132_2 (ev1 rfl)) ?_
    refine zag rfl rfl (op_ldm rfl tb102 (ev1 rfl) rfl rfl) ?_
    refine zag rfl rfl (op_bldD (ps := [(0, .tmp 38), (1, .tmp 42)]) rfl fl107 zr107 (ec (ev1 rfl) (ec (ev1 rfl) en)) rfl rfl rfl) ?_
    refine zag rfl rfl (op_boxf rfl rfl (ev1 rfl)) ?_
    refine zag rfl rfl (zac (.inr rfl) (ev1 rfl)) ?_
    refine lex_nil ?_
    refine dwp_gone 0 (by simp only [za, zaa]; exact rfl) ?_
    refine dwp_gone 2 (by simp only [za, zaa]; exact rfl) ?_
    refine dwp_gone 4 (by simp only [za, zaa]; exact rfl) ?_
    refine dwp_gone 5 (by simp only [za, zaa]; exact rfl) ?_
    refine dwp_ret ?_
    refine kendI (post := fun I => FromCv I w h ds ts us) (I := s0.I) (Mo := [.gone, .gone, .gone, .gone, .gone, .gone]) [0, 1, 2, 3, 4, 5] (rs1 rfl (rv_t rfl)) rfl rfl ?_ ⟨rfl, rfl, rfl, rfl, rfl, rfl, trivial⟩
    exact ⟨_, hP, by rw [cvD, hP.len]; rfl⟩
  · simp only [upd, za, zaa]
    have hp1 : p < s.1.length := by have := (List.getElem?_eq_some_iff.1 hkp).1; simpa using this
    obtain ⟨q, hq⟩ : ∃ q, s.1[p]? = some q := ⟨_, List.getElem?_eq_getElem hp1⟩
    obtain rfl : kp = (q : Int) := by rw [List.getElem?_map, hq] at hkp; exact (Option.some.inj hkp).symm
    obtain rfl : ep = .floc 3 p 0 := by rw [ptN_at (by omega)] at hep; exact (Option.some.inj hep).symm
    have hqt := hs.lt q (List.mem_of_getElem? hq)
    obtain ⟨e, hd, _, _, _, hw⟩ := hr.at hqt
    have hes := tlM_at (es := s.2) (k := p) (by omega)
    refine zab rfl rfl rfl (op_ext rfl (ev1 rfl) rfl) ?_
    refine zae ?_
    refine zaf ?_
    refine dwp_if_t rfl (rfl) ?_
    refine dwp_skip ?_
    refine dwp_block ?_
    refine zaf ?_
    refine zad ?_
    refine zab rfl rfl rfl (op_ent rfl (ev1 rfl) rfl rfl (hkp) (hep)) ?_
    refine zab rfl rfl rfl (op_ext rfl (ev1 rfl) rfl) ?_
    refine zab rfl rfl rfl (op_ext rfl (ev1 rfl) rfl) ?_
    refine zab rfl rfl rfl (zac (.inr rfl) (ev1 rfl)) ?_
    refine zab rfl rfl rfl (zac (.inr rfl) (ev1 rfl)) ?_
    refine zae ?_
    refine zaf ?_
    refine dwp_draw [([], []), ([], []), ([3], []), ([], []), ([], []), ([], []), ([0], []), ([], []), ([1], []), ([1], []), ([], []), ([], []), ([], [])] mixed (by kernel_rfl) ?_
    refine zag rfl rfl (zac (.inl rfl) (ev1 rfl)) ?_
    refine zag rfl rfl (op_nc rfl (ev1 rfl) (fun s v h => by cases h; exact ⟨_, rfl⟩)) ?_
    refine zag rfl rfl (op_ldfp rfl tb60 (ev1 rfl) rfl (hes) (tc_whole _) (tc_len _)) ?_
    refine zag rfl rfl (zac (.inl rfl) (ev1 rfl)) ?_
    refine zag rfl rfl (op_nc rfl (ev1 rfl) (fun s v h => by cases h; exact ⟨_, rfl⟩)) ?_
    refine zag rfl rfl (op_fa rfl fo132_2 (ev1 rfl)) ?_
    refine zag rfl rfl (op_ldm rfl tb102 (ev1 rfl) rfl rfl) ?_
    refine zag rfl rfl (zac (.inl rfl) (ev1 rfl)) ?_
    refine zag rfl rfl (op_ixx (q) rfl sl102 (ev1 rfl) (ev1 rfl) rfl (fun _ => rfl) (fun _ => by omega)) ?_
    refine zag rfl rfl ((op_ldx rfl tb104 (ev1 rfl) rfl (by rw [Nat.mul_one, rowS_at hs.nd hq hnp (by omega)]; exact hd)).wk (hw)) ?_
    refine zag rfl rfl (op_nc rfl (ev1 rfl) (fun s v h => by cases h; exact ⟨_, rfl⟩)) ?_
    refine zag rfl rfl (op_ldwd rfl tb60 (ev1 rfl) (tc_len _)) ?_
    refine zag rfl rfl (op_ner eq60 rfl gd60 tb60 (ev1 rfl) (ev1 rfl)) ?_
    refine lex_nil ?_
    have hle2 := all_in (n := s.1.length) (seen := sn ++ [p]) (by rw [List.nodup_append]; exact ⟨hnd, by simp, fun a ha b hb => by simp at hb; subst hb; exact fun e => hnp (e ▸ ha)⟩) (fun r hr => (List.mem_append.1 hr).elim (hlt r) fun h => by simp at h; subst h; exact hp1)
    rw [List.length_append] at hle2
    have hI : (sn ++ [p]).Nodup ∧ ∀ r ∈ sn ++ [p], r < s.1.length := ⟨by rw [List.nodup_append]; exact ⟨hnd, by simp, fun a ha b hb => by simp at hb; subst hb; exact fun e => hnp (e ▸ ha)⟩, fun r hr => (List.mem_append.1 hr).elim (hlt r) fun h => by simp at h; subst h; exact hp1⟩
    refine dwp_cond rfl (fun c2 => ?_) (fun c2 => ?_)
    · have hne : s.2[p]? ≠ ts[q]? := by rw [getq (by omega), getq hqt]; exact fun e => (show ¬ s.2.getD p zT = ts.getD q zT by simpa using c2) (Option.some.inj e)
      refine zad ?_
      refine zab rfl rfl rfl (zac (.inl rfl) (ev1 rfl)) ?_
      refine zab rfl rfl rfl (op_nc rfl (ev1 rfl) (fun s v h => by cases h; exact ⟨_, rfl⟩)) ?_
      refine zab rfl rfl rfl (op_fa rfl fo132_2 (ev1 rfl)) ?_
      refine zab rfl rfl rfl (op_ldm rfl tb102 (ev1 rfl) rfl rfl) ?_
      refine zab rfl rfl rfl (zac (.inl rfl) (ev1 rfl)) ?_
      refine zab rfl rfl rfl (zac (.inl rfl) (ev1 rfl)) ?_
      refine zab rfl rfl rfl (op_ixx (q) rfl sl102 (ev1 rfl) (ev1 rfl) rfl (fun _ => rfl) (fun _ => by omega)) ?_
      refine walk_s rfl rfl (op_stx0 (j := q) rfl tb104 (ev1 rfl) (ev1 rfl) rfl (by rw [rowS_len]; omega) (fun s v h => by cases h <;> exact ⟨rfl, rfl⟩)) (by simp only [upd, za, zaa]; exact rfl) ?_
      refine zae ?_
      refine ⟨sn ++ [p], [0, 1, 2, 3, 4, 5, 6], hI, by simp only [List.length_append, List.length_cons, List.length_nil] at hle2 ⊢; omega, rfl, ⟨rfl, rfl, trivial⟩, ⟨rfl, rowS_fits hr.nl (by rw [rowS_step hs.nd hq hnp (by omega), if_pos hne]) rfl rfl, ptN_mpd rfl rfl rfl rfl, rfl, rfl, rfl, rfl, trivial⟩⟩
    · have hne : ¬ s.2[p]? ≠ ts[q]? := by rw [getq (by omega), getq hqt]; simpa using c2
      refine dwp_skip ?_
      refine ⟨sn ++ [p], [0, 1, 2, 3, 4, 5, 6], hI, by simp only [List.length_append, List.length_cons, List.length_nil] at hle2 ⊢; omega, rfl, ⟨rfl, rfl, trivial⟩, ⟨rfl, rowS_fits hr.nl rfl (by rw [rowS_step hs.nd hq hnp (by omega), if_neg hne]) rfl, ptN_mpd rfl rfl rfl rfl, rfl, rfl, rfl, rfl, trivial⟩⟩
theorem sb_ptNm {τ : List Nat} {ks : List Int} {f g n : Nat} (hp : τ[f]? = some g) : sbB τ (.mpd ks (ptN f n)) = some (.mpd ks (ptN g n)) := by
  have h : ∀ r : List Nat, sbL τ (r.map fun k => D.floc f k 0) = some (r.map fun k => D.floc g k 0) := fun r => by
    induction r with
    | nil => rfl
    | cons a r ih =>
      rw [List.map_cons, sbL, ih]
      have : sb τ (.floc f a 0) = some (.floc g a 0) := by unfold sb; rw [hp]; rfl
      rw [this]; rfl
  show (sbL τ _).map _ = _
  rw [h]; rfl
theorem FromCv.nl {I : Nat → Prop} {w h : Int} {ds : List D} {ts us : List TL} {d : D} (hr : RowOk ds ts) (hl : us.length = ts.length) (hf : FromCv I w h ds ts us d) : d.nl = true := by
  obtain ⟨ps, hp, rfl⟩ := hf
  rfl
set_option maxRecDepth 4000 in
set_option maxHeartbeats 1000000 in
theorem clonePt_d (ds : List D) (ts : List TL) (hr : RowOk ds ts) (h1 : 1 ≤ ts.length) (hn : ts.length ≤ 5000) : DFun Try.prog 78 [.slm 1 ds.length ds] [] (.arr 0) [.arx 104 1 ds.length ds] := by
  have hdl := hr.len
  refine dcalls_go (N := 8) 0 (by kernel_rfl) Try.func78 rfl rfl rfl (by simp only [fr0, Nat.zero_add, Nat.reduceAdd]; exact rfl) rfl fun s0 hs0 => ?_
  refine dwp_lenm (t := 0) rfl fun hl0 hL0 => ?_
  refine zaf ?_
  refine zad ?_
  refine zab rfl rfl rfl (zac (.inr rfl) (ev1 rfl)) ?_
  refine zae ?_
  refine zaf ?_
  refine zaf ?_
  refine zad ?_
  refine zab rfl rfl rfl (zac (.inl rfl) (ev1 rfl)) ?_
  refine walk_nilm? rfl rfl rfl rfl sl102 (ev1 rfl) fun nb4 hnb4 => ?_
  refine zae ?_
  refine dwp_cond rfl (fun c1 => ?_) (fun c1 => ?_)
  · exact absurd (hnb4 c1).1 (by omega)
  · try simp only [decide_eq_true_eq, decide_eq_false_iff_not, beq_iff_eq, bne_iff_ne, beq_eq_false_iff_ne, bne_eq_false_iff_eq, Bool.not_eq_true', Bool.not_eq_false', Bool.and_eq_true, Bool.or_eq_true, Bool.or_eq_false_iff, ne_eq, Decidable.not_not, Int.not_lt, Int.not_le] at c1
    refine dwp_skip ?_
    refine zaf ?_
    refine zai 2 (by simp only [holes, List.cons_append, List.nil_append]; exact rfl) ?_
    refine zad ?_
    refine zak rfl rfl rfl (op_bsx (ps := []) 0 (fun s d v hd hr => by simp at hd) rfl sl102 zr104 rfl en (by decide) rfl) (by simp only [upd, za, zaa]; exact rfl) ?_
    refine zab rfl rfl rfl (zac (.inl rfl) (ev1 rfl)) ?_
    refine zak rfl rfl rfl (op_appr (j := 1) rfl sl102 zr104 rfl (ev1 rfl) (ev1 rfl) rfl rfl (hr.oc) (fun _ => ⟨by omega, by omega⟩)) (by simp only [upd, za, zaa]; exact rfl) ?_
    refine zab rfl rfl rfl (zac (.inr rfl) (ev1 rfl)) ?_
    refine zae ?_
    refine dwp_ret ?_
    refine kend [1] (rs1 rfl (rv_t rfl)) rfl rfl ?_ ⟨?_, trivial⟩
    rfl
    exact arxn_fits hr.nl (Nat.zero_add _) rfl
set_option maxRecDepth 4000 in
set_option maxHeartbeats 1000000 in
theorem with_i (w h : Int) (ds : List D) (ts : List TL) (hr : RowOk ds ts) (hc : CvOk w h ts) (l : List Dt) : DFunI Try.prog 56 [cvD w h ds, .slf 6 l.length (l.flatMap dtC)] [] (fun I => FromCv I w h ds ts (putsC w h ts l)) [] := by
  have hle := hc.le
  have hdl := hr.len
  refine dcallsI_go (N := 42) 0 (by kernel_rfl) Try.func56 rfl rfl rfl (by simp only [fr0, Nat.zero_add, Nat.reduceAdd]; exact rfl) rfl fun s0 hs0 => ?_
  refine dwp_len (t := 1) rfl fun hl1 hL1 => ?_
  refine zaf ?_
  refine zad ?_
  refine zab rfl rfl rfl (zac (.inr rfl) (ev1 rfl)) ?_
  refine zae ?_
  refine zaf ?_
  refine zaf ?_
  refine zad ?_
  refine zab rfl rfl rfl (zac (.inl rfl) (ev1 rfl)) ?_
  refine zab rfl rfl rfl (op_pnilm rfl pt62 (ev1 rfl)) ?_
  refine zae ?_
  refine dwp_if_f rfl (rfl) ?_
  refine dwp_skip ?_
  refine zaf ?_
  refine zai 5 (by simp only [holes, List.cons_append, List.nil_append]; exact rfl) ?_
  refine dwp_draw [([], []), ([], []), ([], []), ([], []), ([], []), ([], []), ([], []), ([], []), ([0, 1], [0, 1]), ([], []), ([], []), ([], []), ([], []), ([2], [2]), ([3], [3]), ([3], []), ([4], [4]), ([], [])] mixed (by kernel_rfl) ?_
  refine zag rfl rfl (zac (.inl rfl) (ev1 rfl)) ?_
  refine zag rfl rfl (op_nc rfl (ev1 rfl) (fun s v h => by cases h; exact ⟨_, rfl⟩)) ?_
  refine zag rfl rfl (op_fadm rfl fo107_0 (ev1 rfl)) ?_
  refine zag rfl rfl (op_lddv [_, _] rfl tb101 (ev1 rfl) rfl rfl) ?_
  refine zag rfl rfl (zac (.inl rfl) (ev1 rfl)) ?_
  refine zag rfl rfl (op_nc rfl (ev1 rfl) (fun s v h => by cases h; exact ⟨_, rfl⟩)) ?_
  refine zag rfl rfl (op_fadm rfl fo107_0 (ev1 rfl)) ?_
  refine zag rfl rfl (op_lddv [_, _] rfl tb101 (ev1 rfl) rfl rfl) ?_
  refine lex_w rfl rfl (zaj [] [] [0, 1] rfl (ev1 rfl) (ec (ev1 rfl) en) rfl rfl (sasks_d w h hc.may) rfl rfl rfl rfl rfl rfl) rfl (by simp only [upd, za, zaa]; exact rfl) ?_
  refine zag rfl rfl (zac (.inl rfl) (ev1 rfl)) ?_
  refine zag rfl rfl (op_nc rfl (ev1 rfl) (fun s v h => by cases h; exact ⟨_, rfl⟩)) ?_
  refine zag rfl rfl (op_fadm rfl fo107_1 (ev1 rfl)) ?_
  refine zag rfl rfl (op_lddm rfl tb102 (ev1 rfl) rfl) ?_
  refine lex_w rfl rfl (zaj [] [] [2] rfl (ev1 rfl) (ec (ev1 rfl) en) rfl rfl (clonePt_d ds ts hr hle.2 (by omega)) rfl rfl rfl (by exact (wrc (sb_arxn hr.nl) rfl)) rfl rfl) rfl (by simp only [upd, za, zaa]; exact rfl) ?_
  refine lex_w rfl rfl (op_mkd 3 rfl rfl) rfl (by simp only [upd, za, zaa]; exact rfl) ?_
  refine zag rfl rfl (op_bldDh (ps := [(0, .tmp 14), (1, .tmp 19), (2, .tmp 24), (3, .tmp 25)]) 3 rfl fl132 zr132 (ec (ev1 rfl) (ec (ev1 rfl) (ec (ev1 rfl) (ec (ev1 rfl) en)))) rfl rfl rfl rfl) ?_
  refine lex_w rfl rfl (op_boxam 4 rfl (ev1 rfl) rfl) rfl (by simp only [upd, za, zaa]; exact rfl) ?_
  refine zag rfl rfl (zac (.inr rfl) (ev1 rfl)) ?_
  refine lex_nil ?_
  refine zaf ?_
  refine zad ?_
  refine zab rfl rfl rfl (zac (.inl rfl) (ev1 rfl)) ?_
  refine zab rfl rfl rfl (op_mkf rfl (ec (ev1 rfl) en) en) ?_
  refine zab rfl rfl rfl (zac (.inr rfl) (ev1 rfl)) ?_
  refine zae ?_
  refine zaf ?_
  refine zaf ?_
  refine dwp_hole ?_
  refine dwp_fam 5 rfl (by simp only [List.cons_append, List.nil_append, za, zaa]; exact rfl) ?_
  refine zad ?_
  refine zab rfl rfl rfl (zac (.inl rfl) (ev1 rfl)) ?_
  refine zab rfl rfl rfl (op_len rfl sl97 (ev1 rfl)) ?_
  refine zab rfl rfl rfl (zac (.inl rfl) (ev1 rfl)) ?_
  refine zae ?_
  refine dwp_block ?_
  refine dwp_loopS ⟨hs0, rfl⟩ (α := Nat) (fun k => [(32, .val (.int .i64 (k : Int)))]) [(5, _), (6, _), (30, _), (31, _)] (fun k => [(3, .mpd (kI (dotsS w h ts (l.take k)).1) (ptN 5 (dotsS w h ts (l.take k)).2.length)), (5, .fam (tlM (dotsS w h ts (l.take k)).2))]) [_, _, _, .hole, _, .hole] (fun k => k ≤ l.length) (fun k => l.length - k) 0 [0, 1, 2, 3, 4, 5] (Nat.zero_le _) rfl ⟨rfl, rfl, rfl, rfl, trivial⟩ ⟨rfl, trivial⟩ ⟨rfl, rfl, arxd_fits hr, rfl, rfl, rfl, trivial⟩ ?_
  intro k hx
  simp only [upd, za, zaa, List.cons_append, List.nil_append]
  have hk := hx
  have hs := dotsS_ok hc (l.take k) ts _ (dotOk_nil ts)
  refine zaf ?_
  refine zad ?_
  refine zab rfl rfl rfl (op_lss rfl (ev1 rfl) (ev1 rfl)) ?_
  refine zae ?_
  refine zaf ?_
  refine dwp_cond rfl (fun c2 => ?_) (fun c2 => ?_)
  · try simp only [decide_eq_true_eq, decide_eq_false_iff_not, beq_iff_eq, bne_iff_ne, beq_eq_false_iff_ne, bne_eq_false_iff_eq, Bool.not_eq_true', Bool.not_eq_false', Bool.and_eq_true, Bool.or_eq_true, Bool.or_eq_false_iff, ne_eq, Decidable.not_not, Int.not_lt, Int.not_le] at c2
    refine dwp_skip ?_
    refine zaf ?_
    refine dwp_block ?_
    refine zaf ?_
    refine zai 1 (by simp only [holes, List.cons_append, List.nil_append]; exact rfl) ?_
    refine zad ?_
    refine zab rfl rfl rfl (op_ixsr (j := k) rfl sl97 (ev1 rfl) (ev1 rfl) (fun _ => rfl) (by decide) (by omega) (by omega)) ?_
    refine zab rfl rfl rfl (op_ldwd rfl tb112 (ev1 rfl) rfl) ?_
    refine zak rfl rfl rfl (zal 6 rfl zr112 rfl) (by simp only [upd, za, zaa]; exact rfl) ?_
    refine walk_s rfl rfl (op_stwa rfl tb112 (ev1 rfl) (ev1 rfl) rfl rfl rfl rfl) (by simp only [upd, za, zaa]; exact rfl) ?_
    refine zae ?_
    refine zad ?_
    refine zab rfl rfl rfl (zac (.inl rfl) (ev1 rfl)) ?_
    refine zab rfl rfl rfl (op_ldw rfl tb112 (ev1 rfl) rfl rfl) ?_
    refine zak rfl rfl rfl (zaj [4, 2, 3, 5, 0, 1] [] [] rfl (ev1 rfl) (ec (ev1 rfl) en) rfl (by exact mfits _ _ ⟨rfl, arxd_fits hr, ptN_mpd rfl rfl rfl rfl, rfl, rfl, rfl, trivial⟩) (dot_d w h ds ts _ hr hc (dotsS w h ts (l.take k)) hs l[k]) rfl rfl rfl (by exact (wrc rfl (wrc (sb_arxn hr.nl) (wrc (sb_ptNm rfl) (wrc rfl (wrc rfl (wrc rfl rfl))))))) rfl rfl) (by simp only [upd, za, zaa]; exact rfl) ?_
    refine zae ?_
    refine zad ?_
    refine zab rfl rfl rfl (op_add' rfl (ev1 rfl) (ev1 rfl) (fun _ => IntWalk.i64_in _ (by omega))) ?_
    refine zab rfl rfl rfl (zac (.inl rfl) (ev1 rfl)) ?_
    refine zae ?_
    refine ⟨k + 1, [0, 1, 2, 3, 4, 5], by omega, by simp only []; omega, rfl, ⟨rfl, rfl, rfl, rfl, rfl, trivial⟩, ⟨rfl, rfl, arxd_fits hr, ptN_mpd (by rw [dotsS_take (by omega)]) rfl (by rw [dotsS_take (by omega)]) rfl, rfl, by rw [dotsS_take (by omega)]; rfl, trivial⟩⟩
  · try simp only [decide_eq_true_eq, decide_eq_false_iff_not, beq_iff_eq, bne_iff_ne, beq_eq_false_iff_ne, bne_eq_false_iff_eq, Bool.not_eq_true', Bool.not_eq_false', Bool.and_eq_true, Bool.or_eq_true, Bool.or_eq_false_iff, ne_eq, Decidable.not_not, Int.not_lt, Int.not_le] at c2
    refine dwp_exit ?_
    refine zaf ?_
    rw [List.take_of_length_le (by omega)] at *
    refine zad ?_
    refine zab rfl rfl rfl (zac (.inl rfl) (ev1 rfl)) ?_
    refine walk_i rfl rfl rfl (dop_callI [4, 2, 3, 5, 0, 1] [] rfl (ev1 rfl) (ec (ev1 rfl) en) rfl (by exact mfits _ _ ⟨rfl, arxd_fits hr, ptN_mpd rfl rfl rfl rfl, rfl, rfl, rfl, trivial⟩) (done_i w h ds ts _ hr hc _ (dotsS_ok hc l ts _ (dotOk_nil ts))) rfl rfl rfl rfl (fun I d hf => hf.nl hr (putsC_len ..))) (by simp only [upd, za, zaa]; exact rfl) ?_
    rintro I _ hI hP ⟨ps, h1, rfl⟩
    refine zab rfl rfl rfl (zac (.inr rfl) (ev1 rfl)) ?_
    refine zae ?_
    refine dwp_ret ?_
    refine kendI (post := fun I => FromCv I w h ds ts (putsC w h ts l)) (I := s0.I) (Mo := []) [] (rs1 rfl (rv_t rfl)) rfl rfl ?_ trivial
    exact ⟨ps, ⟨h1.len, h1.eq, fun q t h2 h3 => let ⟨b, h4, h5⟩ := h1.ne q t h2 h3; ⟨b, fun h6 => h4 (hI b h6), h5⟩⟩, rfl⟩
end Go.Proofs.Ytadjbiccndaclaa
namespace Go.Proofs.Ytadjbiccndaclaa
set_option maxRecDepth 4000
set_option linter.unusedVariables false
set_option linter.unusedSimpArgs false
open Go.RowKit
theorem with_d (w h : Int) (ds : List D) (ts : List TL) (hr : RowOk ds ts) (hc : CvOk w h ts) (l : List Dt) : DFun Try.prog 56 [cvD w h ds, .slf 6 l.length (l.flatMap dtC)] [] (cvD w h (dpR (putsC w h ts l))) [] :=
  (with_i w h ds ts hr hc l).fun fun I d hf => by
    obtain ⟨ps, h1, rfl⟩ := hf
    exact (h1.ok hr (putsC_len ..)).wkd w h
def D.adr : D → Nat
  | .pin b _ => b
  | _ => 0
def Pins (l : List D) : Prop := ∀ d ∈ l, ∃ b L, d = .pin b L
theorem Pins.at {l : List D} (h : Pins l) {k : Nat} (hk : k < l.length) : ∃ L, l[k] = .pin l[k].adr L := by
  obtain ⟨b, L, e⟩ := h l[k] (List.getElem_mem hk)
  rw [e]
  exact ⟨L, rfl⟩
end Go.Proofs.Ytadjbiccndaclaa
namespace Go.Proofs.Ytadjbiccndaclaa
set_option maxRecDepth 4000
set_option linter.unusedVariables false
set_option linter.unusedSimpArgs false
open Go.RowKit
theorem eq101 {a0 : Int} {a1 : Int} {b0 : Int} {b1 : Int} : eqT Try.prog 9 101 [.int .i64 a0, .int .i64 a1] [.int .i64 b0, .int .i64 b1] = some ((a0 == b0) && ((a1 == b1) && true)) := by kernel_rfl
theorem eq38 {a b : C4} : eqT Try.prog 9 38 (c4 a) (c4 b) = some (decide (a = b)) := by
  rw [← eqC_iff]
  exact (show eqT Try.prog 9 38 [.int .u8 a.r, .int .u8 a.g, .int .u8 a.b, .int .u8 a.a] [.int .u8 b.r, .int .u8 b.g, .int .u8 b.b, .int .u8 b.a] = some (eqC a b) by kernel_rfl)
theorem gd101 : Try.prog.eqGuardType Try.prog.depth 101 = false := by kernel_rfl
theorem gd38 : Try.prog.eqGuardType Try.prog.depth 38 = false := by kernel_rfl
theorem tb36 : tyB Try.prog 36 = some (true, 2) := by kernel_rfl
theorem tb62 : tyB Try.prog 62 = some (false, 1) := by kernel_rfl
set_option maxRecDepth 4000 in
set_option maxHeartbeats 1000000 in
theorem points_d (w h : Int) (hm : mayS w h = true) : DFun Try.prog 67 [.val (.agg #[.int .i64 w, .int .i64 h])] [] (.fn (.func 85) [] [.loc 0 0, .loc 1 0]) [.flat 3 [.int .i64 (h * 8)], .flat 3 [.int .i64 (w * 8)]] := by
  refine dcalls_go (N := 11) 0 (by kernel_rfl) Try.func67 rfl rfl rfl (by simp only [fr0, Nat.zero_add, Nat.reduceAdd]; exact rfl) rfl fun s0 hs0 => ?_
  refine zaf ?_
  refine zai 1 (by simp only [holes, List.cons_append, List.nil_append]; exact rfl) ?_
  refine zad ?_
  refine zak rfl rfl rfl (op_boxa 0 rfl (ev1 rfl) rfl) (by simp only [upd, za, zaa]; exact rfl) ?_
  refine zab rfl rfl rfl (zac (.inr rfl) (ev1 rfl)) ?_
  refine zae ?_
  refine zaf ?_
  refine zai 2 (by simp only [holes, List.cons_append, List.nil_append]; exact rfl) ?_
  refine zad ?_
  refine zab rfl rfl rfl (op_ldw rfl tb101 (ev1 rfl) rfl rfl) ?_
  refine zab rfl rfl rfl (zaj [] [] [] rfl (ev1 rfl) (ec (ev1 rfl) en) rfl rfl (spix_d w h hm) rfl rfl rfl rfl rfl rfl) ?_
  refine zab rfl rfl rfl (zac (.inl rfl) (ev1 rfl)) ?_
  refine zab rfl rfl rfl (op_ext rfl (ev1 rfl) rfl) ?_
  refine zab rfl rfl rfl (op_ext rfl (ev1 rfl) rfl) ?_
  refine zak rfl rfl rfl (zal 1 rfl zr3 rfl) (by simp only [upd, za, zaa]; exact rfl) ?_
  refine zak rfl rfl rfl (zal 2 rfl zr3 rfl) (by simp only [upd, za, zaa]; exact rfl) ?_
  refine walk_s rfl rfl (op_stwi rfl tb3 (ev1 rfl) (ev1 rfl) rfl) (by simp only [upd, za, zaa]; exact rfl) ?_
  refine walk_s rfl rfl (op_stwi rfl tb3 (ev1 rfl) (ev1 rfl) rfl) (by simp only [upd, za, zaa]; exact rfl) ?_
  refine zae ?_
  refine zaf ?_
  refine zad ?_
  refine zab rfl rfl rfl (op_mkf rfl en (ec (ev1 rfl) (ec (ev1 rfl) en))) ?_
  refine zab rfl rfl rfl (zac (.inr rfl) (ev1 rfl)) ?_
  refine zae ?_
  refine dwp_ret ?_
  refine kend [2, 1] (rs1 rfl (rv_t rfl)) rfl rfl ?_ ⟨rfl, rfl, trivial⟩
  rfl
end Go.Proofs.Ytadjbiccndaclaa
namespace Go.Proofs.Ytadjbiccndaclaa
set_option maxRecDepth 4000
set_option linter.unusedVariables false
set_option linter.unusedSimpArgs false
open Go.RowKit
theorem sl25 : slE Try.prog 25 = some (36, 2, 16) := by kernel_rfl
theorem tb25 : tyB Try.prog 25 = some (false, 1) := by kernel_rfl
theorem zr25 : zrC Try.prog 25 = some [.slice none 0 0] := by kernel_rfl
noncomputable def difA : Code := rfA (pth [1, 1, 1, 0, 1, 0] (bodyOf Try.f38))
noncomputable def difB : Code := rfB (pth [1, 1, 1, 0, 1, 0] (bodyOf Try.f38))
abbrev rowP (l : List P2) : Mem := .arr 36 2 l.length (l.flatMap p2)
def fmP (l : List P2) : List Mem := List.replicate l.length .gone ++ [rowP l]
theorem fmP_at (l : List P2) : (fmP l)[l.length]? = some (rowP l) := by
  unfold fmP
  rw [List.getElem?_append_right (by simp)]
  simp
theorem fmP_len (l : List P2) : (fmP l).length = (l.length) + 1 := by simp [fmP]
theorem fmP_add (l : List P2) (p : P2) : (fmP l).set l.length .gone ++ [Mem.arr 36 2 (l.length + 1) (l.flatMap p2 ++ p2 p)] = fmP (l ++ [p]) := by
  unfold fmP
  rw [List.set_append_right _ _ (by simp), List.length_append, List.length_replicate, Nat.sub_self, show l.length + [p].length = l.length + 1 from rfl, List.replicate_succ']
  simp [rowP, List.flatMap_append]
set_option maxRecDepth 4000 in
set_option maxHeartbeats 1000000 in
theorem difRound_yes (w h : Int) (da db : List D) (ts us : List TL) (ra : RowOk da ts) (rb : RowOk db us) (ca : CvOk w h ts) (cb : CvOk w h us) (x y : Int) (ho : onS w h x y = true) (l : List P2) (hl : l.length ≤ 5000) (h1 : getC w ts x y ≠ getC w us x y) : DRound Try.prog 0 [.val (.agg #[.int .i64 x, .int .i64 y])] [.lp 42 [(2, .loc 1 0), (3, .loc 2 0), (5, .loc 3 0)] #[29] difA difB .ready none, .mix 62 [cvD w h da], .mix 62 [cvD w h db], .mix 25 [.farr 4 (l).length], .fam (fmP (l))] true [.lp 42 [(2, .loc 1 0), (3, .loc 2 0), (5, .loc 3 0)] #[29] difA difB .ready none, .mix 62 [cvD w h da], .mix 62 [cvD w h db], .mix 25 [.farr 4 (l ++ [(⟨x, y⟩ : P2)]).length], .fam (fmP (l ++ [(⟨x, y⟩ : P2)]))] := by
  refine dround_go 5 rfl rfl (by simp) rfl rfl fun s0 hs0 => ?_
  refine zai 1 (by simp only [holes, List.cons_append, List.nil_append]; exact rfl) ?_
  refine zad ?_
  refine zak rfl rfl rfl (zal 5 rfl zr36 rfl) (by simp only [upd, za, zaa]; exact rfl) ?_
  refine walk_s rfl rfl (op_stwa rfl tb36 (ev1 rfl) (ev1 rfl) rfl rfl rfl rfl) (by simp only [upd, za, zaa]; exact rfl) ?_
  refine zae ?_
  refine ⟨rfl, ?_⟩
  simp only [za, zaa]
  refine dwp_block ?_
  refine zaf ?_
  refine dwp_draw [([1], []), ([5], []), ([], []), ([2], []), ([5], []), ([], []), ([], [])] mixed (by kernel_rfl) ?_
  refine zag rfl rfl (op_ldm rfl tb62 (ev1 rfl) rfl rfl) ?_
  refine zag rfl rfl (op_ldw rfl tb36 (ev1 rfl) rfl rfl) ?_
  refine zag rfl rfl (zaj [] [] [] rfl (ev1 rfl) (ec (ev1 rfl) (ec (ev1 rfl) en)) rfl rfl (color_d w h da ts ra ca x y ho) rfl rfl rfl rfl rfl rfl) ?_
  refine zag rfl rfl (op_ldm rfl tb62 (ev1 rfl) rfl rfl) ?_
  refine zag rfl rfl (op_ldw rfl tb36 (ev1 rfl) rfl rfl) ?_
  refine zag rfl rfl (zaj [] [] [] rfl (ev1 rfl) (ec (ev1 rfl) (ec (ev1 rfl) en)) rfl rfl (color_d w h db us rb cb x y ho) rfl rfl rfl rfl rfl rfl) ?_
  refine zag rfl rfl (op_ner eq38 rfl gd38 tb38 (ev1 rfl) (ev1 rfl)) ?_
  refine lex_nil ?_
  refine dwp_if_t rfl (by simpa using h1) ?_
  refine zai 2 (by simp only [holes, List.cons_append, List.nil_append]; exact rfl) ?_
  refine zad ?_
  refine zab rfl rfl rfl (op_ldm rfl tb25 (ev1 rfl) rfl rfl) ?_
  refine zab rfl rfl rfl (op_ldw rfl tb36 (ev1 rfl) rfl rfl) ?_
  refine zab rfl rfl rfl (op_bs (ps := [(0, .tmp 38)]) rfl sl25 zr36 rfl (vc (ev1 rfl) vn) rfl (by decide) (by decide)) ?_
  refine zak rfl rfl rfl (op_appF (j1 := 6) (j2 := 7) rfl rfl sl25 zr36 rfl (ev1 rfl) (ev1 rfl) rfl (fmP_at l) rfl rfl rfl (fun _ => rfl) (fun _ => ⟨by omega, by omega⟩)) (by simp only [upd, za, zaa]; exact rfl) ?_
  refine walk_s rfl rfl (op_stm rfl tb25 (ev1 rfl) (ev1 rfl) (fun s v h => by cases h <;> exact ⟨rfl, rfl⟩) rfl (by first | decide | exact Nat.le_of_ble_eq_true rfl | simp)) (by simp only [upd, za, zaa]; exact rfl) ?_
  refine zae ?_
  refine ⟨by first | rfl | assumption | simp_all, rfl, [0, 1, 2, 3, 4], rfl, ⟨rfl, rfl, rfl, by rw [fmP_len, List.length_append]; rfl, by rw [← fmP_add]; rfl, trivial⟩⟩
set_option maxRecDepth 4000 in
set_option maxHeartbeats 1000000 in
theorem difRound_no (w h : Int) (da db : List D) (ts us : List TL) (ra : RowOk da ts) (rb : RowOk db us) (ca : CvOk w h ts) (cb : CvOk w h us) (x y : Int) (ho : onS w h x y = true) (l : List P2) (hl : l.length ≤ 5000) (h1 : getC w ts x y = getC w us x y) : DRound Try.prog 0 [.val (.agg #[.int .i64 x, .int .i64 y])] [.lp 42 [(2, .loc 1 0), (3, .loc 2 0), (5, .loc 3 0)] #[29] difA difB .ready none, .mix 62 [cvD w h da], .mix 62 [cvD w h db], .mix 25 [.farr 4 (l).length], .fam (fmP (l))] true [.lp 42 [(2, .loc 1 0), (3, .loc 2 0), (5, .loc 3 0)] #[29] difA difB .ready none, .mix 62 [cvD w h da], .mix 62 [cvD w h db], .mix 25 [.farr 4 (l).length], .fam (fmP (l))] := by
  refine dround_go 5 rfl rfl (by simp) rfl rfl fun s0 hs0 => ?_
  refine zai 1 (by simp only [holes, List.cons_append, List.nil_append]; exact rfl) ?_
  refine zad ?_
  refine zak rfl rfl rfl (zal 5 rfl zr36 rfl) (by simp only [upd, za, zaa]; exact rfl) ?_
  refine walk_s rfl rfl (op_stwa rfl tb36 (ev1 rfl) (ev1 rfl) rfl rfl rfl rfl) (by simp only [upd, za, zaa]; exact rfl) ?_
  refine zae ?_
  refine ⟨rfl, ?_⟩
  simp only [za, zaa]
  refine dwp_block ?_
  refine zaf ?_
  refine dwp_draw [([1], []), ([5], []), ([], []), ([2], []), ([5], []), ([], []), ([], [])] mixed (by kernel_rfl) ?_
  refine zag rfl rfl (op_ldm rfl tb62 (ev1 rfl) rfl rfl) ?_
  refine zag rfl rfl (op_ldw rfl tb36 (ev1 rfl) rfl rfl) ?_
  refine zag rfl rfl (zaj [] [] [] rfl (ev1 rfl) (ec (ev1 rfl) (ec (ev1 rfl) en)) rfl rfl (color_d w h da ts ra ca x y ho) rfl rfl rfl rfl rfl rfl) ?_
  refine zag rfl rfl (op_ldm rfl tb62 (ev1 rfl) rfl rfl) ?_
  refine zag rfl rfl (op_ldw rfl tb36 (ev1 rfl) rfl rfl) ?_
  refine zag rfl rfl (zaj [] [] [] rfl (ev1 rfl) (ec (ev1 rfl) (ec (ev1 rfl) en)) rfl rfl (color_d w h db us rb cb x y ho) rfl rfl rfl rfl rfl rfl) ?_
  refine zag rfl rfl (op_ner eq38 rfl gd38 tb38 (ev1 rfl) (ev1 rfl)) ?_
  refine lex_nil ?_
  refine dwp_if_f rfl (by simpa using h1) ?_
  refine dwp_skip ?_
  refine ⟨by first | rfl | assumption | simp_all, rfl, [0, 1, 2, 3, 4], rfl, ⟨rfl, rfl, rfl, rfl, rfl, trivial⟩⟩
set_option maxRecDepth 4000 in
set_option maxHeartbeats 1000000 in
theorem pts_dif (w h : Int) (da db : List D) (ts us : List TL) (ra : RowOk da ts) (rb : RowOk db us) (ca : CvOk w h ts) (cb : CvOk w h us) : DFun Try.prog 85 [.yld 0, .loc 5 0, .loc 6 0] [.lp 42 [(2, .loc 1 0), (3, .loc 2 0), (5, .loc 3 0)] #[29] difA difB .ready none, .mix 62 [cvD w h da], .mix 62 [cvD w h db], .mix 25 [.farr 4 (([] : List P2)).length], .fam (fmP (([] : List P2))), .flat 3 [.int .i64 (h * 8)], .flat 3 [.int .i64 (w * 8)]] (.tup []) [.lp 42 [(2, .loc 1 0), (3, .loc 2 0), (5, .loc 3 0)] #[29] difA difB .ready none, .mix 62 [cvD w h da], .mix 62 [cvD w h db], .mix 25 [.farr 4 (difC w h ts us).length], .fam (fmP (difC w h ts us)), .flat 3 [.int .i64 (h * 8)], .flat 3 [.int .i64 (w * 8)]] := by
  have hb := mayS_b ca.may
  refine dcalls_go (N := 22) 7 (by kernel_rfl) Try.func85 rfl rfl rfl (by simp only [fr0, Nat.zero_add, Nat.reduceAdd]; exact rfl) rfl fun s0 hs0 => ?_
  refine zaf ?_
  refine zad ?_
  refine zab rfl rfl rfl (op_ldo rfl tb3 (ev1 rfl) rfl rfl) ?_
  refine zab rfl rfl rfl (zac (.inl rfl) (ev1 rfl)) ?_
  refine zae ?_
  refine dwp_block ?_
  refine dwp_loopS ⟨hs0, rfl⟩ (α := Nat) (fun y => [(7, .val (.int .i64 (y : Int)))]) [(0, _), (2, _), (6, _)] (fun y => [(3, .mix 25 [.farr 4 (difU w ts us (w * 8).toNat y).length]), (4, .fam (fmP (difU w ts us (w * 8).toNat y)))]) [_, _, _, .hole, .hole, _, _] (fun y => (y : Int) ≤ h * 8) (fun y => (h * 8).toNat - y) 0 [0, 1, 2, 3, 4, 5, 6] (by omega) rfl ⟨rfl, rfl, rfl, trivial⟩ ⟨rfl, trivial⟩ ⟨rfl, rfl, rfl, rfl, rfl, rfl, rfl, trivial⟩ ?_
  intro y hx
  simp only [upd, za, zaa, List.cons_append, List.nil_append]
  have hy := hx
  have hlU := difU_len w ts us (w * 8).toNat y
  have hlU2 : y * (w * 8).toNat ≤ 32 * 32 := Nat.mul_le_mul (by omega) (by omega)
  refine zaf ?_
  refine zad ?_
  refine zab rfl rfl rfl (op_lss rfl (ev1 rfl) (ev1 rfl)) ?_
  refine zae ?_
  refine zaf ?_
  refine dwp_cond rfl (fun c1 => ?_) (fun c1 => ?_)
  · try simp only [decide_eq_true_eq, decide_eq_false_iff_not, beq_iff_eq, bne_iff_ne, beq_eq_false_iff_ne, bne_eq_false_iff_eq, Bool.not_eq_true', Bool.not_eq_false', Bool.and_eq_true, Bool.or_eq_true, Bool.or_eq_false_iff, ne_eq, Decidable.not_not, Int.not_lt, Int.not_le] at c1
    refine dwp_skip ?_
    refine zaf ?_
    refine dwp_block ?_
    refine zaf ?_
    refine zad ?_
    refine zab rfl rfl rfl (zac (.inl rfl) (ev1 rfl)) ?_
    refine zab rfl rfl rfl (zac (.inr rfl) (ev1 rfl)) ?_
    refine zae ?_
    refine zaf ?_
    refine zad ?_
    refine zab rfl rfl rfl (op_ldo rfl tb3 (ev1 rfl) rfl rfl) ?_
    refine zab rfl rfl rfl (zac (.inl rfl) (ev1 rfl)) ?_
    refine zae ?_
    refine dwp_block ?_
    refine dwp_loopS ⟨hs0, rfl⟩ (α := Nat) (fun x => [(11, .val (.int .i64 (x : Int)))]) [(0, _), (2, _), (4, _), (6, _), (7, _), (10, _)] (fun x => [(3, .mix 25 [.farr 4 (difU w ts us (w * 8).toNat y ++ difR w ts us y x).length]), (4, .fam (fmP (difU w ts us (w * 8).toNat y ++ difR w ts us y x)))]) [_, _, _, .hole, .hole, _, _] (fun x => (x : Int) ≤ w * 8) (fun x => (w * 8).toNat - x) 0 [0, 1, 2, 3, 4, 5, 6] (by omega) rfl ⟨rfl, rfl, rfl, rfl, rfl, rfl, trivial⟩ ⟨rfl, trivial⟩ ⟨rfl, rfl, rfl, by rw [difR_0, List.append_nil]; rfl, by rw [difR_0, List.append_nil]; rfl, rfl, rfl, trivial⟩ ?_
    intro x hx
    simp only [upd, za, zaa, List.cons_append, List.nil_append]
    have hx2 := hx
    have hlR := difR_len w ts us y x
    have hlL : (difU w ts us (w * 8).toNat y ++ difR w ts us y x).length ≤ 5000 := by rw [List.length_append]; omega
    refine zaf ?_
    refine zad ?_
    refine zab rfl rfl rfl (op_lss rfl (ev1 rfl) (ev1 rfl)) ?_
    refine zae ?_
    refine zaf ?_
    refine dwp_cond rfl (fun c2 => ?_) (fun c2 => ?_)
    · try simp only [decide_eq_true_eq, decide_eq_false_iff_not, beq_iff_eq, bne_iff_ne, beq_eq_false_iff_ne, bne_eq_false_iff_eq, Bool.not_eq_true', Bool.not_eq_false', Bool.and_eq_true, Bool.or_eq_true, Bool.or_eq_false_iff, ne_eq, Decidable.not_not, Int.not_lt, Int.not_le] at c2
      refine dwp_skip ?_
      refine zaf ?_
      refine dwp_block ?_
      refine zaf ?_
      refine zad ?_
      refine zab rfl rfl rfl (zac (.inl rfl) (ev1 rfl)) ?_
      refine zab rfl rfl rfl (zac (.inr rfl) (ev1 rfl)) ?_
      refine zae ?_
      refine zaf ?_
      by_cases hne : getC w ts (x : Int) (y : Int) ≠ getC w us (x : Int) (y : Int)
      · have ho : onS w h (x : Int) (y : Int) = true := onS_iff.2 ⟨by omega, by omega⟩
        refine zad ?_
        refine zab rfl rfl rfl (zac (.inl rfl) (ev1 rfl)) ?_
        refine zab rfl rfl rfl (zac (.inl rfl) (ev1 rfl)) ?_
        refine zab rfl rfl rfl (zac (.inl rfl) (ev1 rfl)) ?_
        refine zab rfl rfl rfl (op_build (ps := [(0, .tmp 15), (1, .tmp 16)]) rfl fl36 zr36 (vc (ev1 rfl) (vc (ev1 rfl) vn)) rfl rfl) ?_
        refine zak rfl rfl rfl (op_y (i := 0) [0, 1, 2, 3, 4] [] [] rfl (ev1 rfl) (ec (ev1 rfl) en) rfl rfl rfl (difRound_yes w h da db ts us ra rb ca cb x y ho _ hlL hne) rfl rfl rfl rfl rfl) (by simp only [upd, za, zaa]; exact rfl) ?_
        refine zab rfl rfl rfl (op_not rfl (ev1 rfl)) ?_
        refine zae ?_
        refine dwp_if_f rfl (rfl) ?_
        refine dwp_skip ?_
        refine zad ?_
        refine zab rfl rfl rfl (op_add' rfl (ev1 rfl) (ev1 rfl) (fun _ => IntWalk.i64_in _ (by omega))) ?_
        refine zab rfl rfl rfl (zac (.inl rfl) (ev1 rfl)) ?_
        refine zae ?_
        refine ⟨x + 1, [0, 1, 2, 3, 4, 5, 6], by omega, by simp only []; omega, rfl, ⟨rfl, rfl, rfl, rfl, rfl, rfl, rfl, trivial⟩, ⟨rfl, rfl, rfl, by rw [difR_yes hne, ← List.append_assoc]; rfl, by rw [difR_yes hne, ← List.append_assoc]; rfl, rfl, rfl, trivial⟩⟩
      · have ho : onS w h (x : Int) (y : Int) = true := onS_iff.2 ⟨by omega, by omega⟩
        refine zad ?_
        refine zab rfl rfl rfl (zac (.inl rfl) (ev1 rfl)) ?_
        refine zab rfl rfl rfl (zac (.inl rfl) (ev1 rfl)) ?_
        refine zab rfl rfl rfl (zac (.inl rfl) (ev1 rfl)) ?_
        refine zab rfl rfl rfl (op_build (ps := [(0, .tmp 15), (1, .tmp 16)]) rfl fl36 zr36 (vc (ev1 rfl) (vc (ev1 rfl) vn)) rfl rfl) ?_
        refine zak rfl rfl rfl (op_y (i := 0) [0, 1, 2, 3, 4] [] [] rfl (ev1 rfl) (ec (ev1 rfl) en) rfl rfl rfl (difRound_no w h da db ts us ra rb ca cb x y ho _ hlL (by simpa using hne)) rfl rfl rfl rfl rfl) (by simp only [upd, za, zaa]; exact rfl) ?_
        refine zab rfl rfl rfl (op_not rfl (ev1 rfl)) ?_
        refine zae ?_
        refine dwp_if_f rfl (rfl) ?_
        refine dwp_skip ?_
        refine zad ?_
        refine zab rfl rfl rfl (op_add' rfl (ev1 rfl) (ev1 rfl) (fun _ => IntWalk.i64_in _ (by omega))) ?_
        refine zab rfl rfl rfl (zac (.inl rfl) (ev1 rfl)) ?_
        refine zae ?_
        refine ⟨x + 1, [0, 1, 2, 3, 4, 5, 6], by omega, by simp only []; omega, rfl, ⟨rfl, rfl, rfl, rfl, rfl, rfl, rfl, trivial⟩, ⟨rfl, rfl, rfl, by rw [difR_no (by simpa using hne)]; rfl, by rw [difR_no (by simpa using hne)]; rfl, rfl, rfl, trivial⟩⟩
    · try simp only [decide_eq_true_eq, decide_eq_false_iff_not, beq_iff_eq, bne_iff_ne, beq_eq_false_iff_ne, bne_eq_false_iff_eq, Bool.not_eq_true', Bool.not_eq_false', Bool.and_eq_true, Bool.or_eq_true, Bool.or_eq_false_iff, ne_eq, Decidable.not_not, Int.not_lt, Int.not_le] at c2
      refine dwp_exit ?_
      refine zad ?_
      refine zab rfl rfl rfl (op_add' rfl (ev1 rfl) (ev1 rfl) (fun _ => IntWalk.i64_in _ (by omega))) ?_
      refine zab rfl rfl rfl (zac (.inl rfl) (ev1 rfl)) ?_
      refine zae ?_
      obtain rfl : x = (w * 8).toNat := by omega
      refine ⟨y + 1, [0, 1, 2, 3, 4, 5, 6], by omega, by simp only []; omega, rfl, ⟨rfl, rfl, rfl, rfl, trivial⟩, ⟨rfl, rfl, rfl, by rw [difU_succ]; rfl, by rw [difU_succ]; rfl, rfl, rfl, trivial⟩⟩
  · try simp only [decide_eq_true_eq, decide_eq_false_iff_not, beq_iff_eq, bne_iff_ne, beq_eq_false_iff_ne, bne_eq_false_iff_eq, Bool.not_eq_true', Bool.not_eq_false', Bool.and_eq_true, Bool.or_eq_true, Bool.or_eq_false_iff, ne_eq, Decidable.not_not, Int.not_lt, Int.not_le] at c1
    refine dwp_exit ?_
    obtain rfl : y = (h * 8).toNat := by omega
    refine kend [0, 1, 2, 3, 4, 5, 6] (res_none rfl) rfl rfl ?_ ⟨rfl, rfl, rfl, rfl, rfl, rfl, rfl, trivial⟩
    rfl
set_option maxRecDepth 4000 in
set_option maxHeartbeats 1000000 in
theorem differ_d (w h : Int) (da db : List D) (ts us : List TL) (ra : RowOk da ts) (rb : RowOk db us) (ca : CvOk w h ts) (cb : CvOk w h us) : DFun Try.prog 38 [cvD w h da, cvD w h db] [] (.slf 2 (difC w h ts us).length ((difC w h ts us).flatMap p2)) [] := by
  refine dcalls_go (N := 42) 0 (by kernel_rfl) Try.func38 rfl rfl rfl (by simp only [fr0, Nat.zero_add, Nat.reduceAdd]; exact rfl) rfl fun s0 hs0 => ?_
  refine zaf ?_
  refine zai 2 (by simp only [holes, List.cons_append, List.nil_append]; exact rfl) ?_
  refine zad ?_
  refine zak rfl rfl rfl (op_boxm 0 rfl (ev1 rfl) (fun s v h => by cases h <;> rfl) rfl) (by simp only [upd, za, zaa]; exact rfl) ?_
  refine zak rfl rfl rfl (op_boxm 1 rfl (ev1 rfl) (fun s v h => by cases h <;> rfl) rfl) (by simp only [upd, za, zaa]; exact rfl) ?_
  refine zab rfl rfl rfl (zac (.inr rfl) (ev1 rfl)) ?_
  refine zae ?_
  refine zaf ?_
  refine zaf ?_
  refine dwp_draw [([0], []), ([], []), ([], []), ([1], []), ([], []), ([], []), ([], []), ([0], []), ([], []), ([], []), ([], []), ([1], []), ([], []), ([], []), ([], []), ([], []), ([], [])] mixed (by kernel_rfl) ?_
  refine zag rfl rfl (op_ldm rfl tb62 (ev1 rfl) rfl rfl) ?_
  refine zag rfl rfl (op_pnilm rfl pt62 (ev1 rfl)) ?_
  refine zag rfl rfl (zac (.inl rfl) (ev1 rfl)) ?_
  refine lex_gr (gd_f rfl rfl rfl) rfl rfl (op_ldm rfl tb62 (ev1 rfl) rfl rfl) ?_
  refine lex_gr (gd_f rfl rfl rfl) rfl rfl (op_pnilm rfl pt62 (ev2 rfl)) ?_
  refine zag rfl rfl (op_or rfl (ev1 rfl) (ev3 rfl id)) ?_
  refine zag rfl rfl (zac (.inl rfl) (ev1 rfl)) ?_
  refine lex_gr (gd_f rfl rfl rfl) rfl rfl (op_ldm rfl tb62 (ev1 rfl) rfl rfl) ?_
  refine lex_gr (gd_f rfl rfl rfl) rfl rfl (op_nc rfl (ev2 rfl) (fun s v h => by cases h; exact ⟨_, rfl⟩)) ?_
  refine lex_gr (gd_f rfl rfl rfl) rfl rfl (op_fadm rfl fo107_0 (ev2 rfl)) ?_
  refine lex_gr (gd_f rfl rfl rfl) rfl rfl (op_lddv [_, _] rfl tb101 (ev2 rfl) rfl rfl) ?_
  refine lex_gr (gd_f rfl rfl rfl) rfl rfl (op_ldm rfl tb62 (ev1 rfl) rfl rfl) ?_
  refine lex_gr (gd_f rfl rfl rfl) rfl rfl (op_nc rfl (ev2 rfl) (fun s v h => by cases h; exact ⟨_, rfl⟩)) ?_
  refine lex_gr (gd_f rfl rfl rfl) rfl rfl (op_fadm rfl fo107_0 (ev2 rfl)) ?_
  refine lex_gr (gd_f rfl rfl rfl) rfl rfl (op_lddv [_, _] rfl tb101 (ev2 rfl) rfl rfl) ?_
  refine lex_gr (gd_f rfl rfl rfl) rfl rfl (op_ner eq101 rfl gd101 tb101 (ev2 rfl) (ev2 rfl)) ?_
  refine zag rfl rfl (op_or rfl (ev1 rfl) (ev3 rfl id)) ?_
  refine lex_nil ?_
  refine dwp_if_f rfl (by simp) ?_
  refine dwp_skip ?_
  refine zaf ?_
  refine zai 1 (by simp only [holes, List.cons_append, List.nil_append]; exact rfl) ?_
  refine zad ?_
  refine zak rfl rfl rfl (zal 2 rfl zr25 rfl) (by simp only [upd, za, zaa]; exact rfl) ?_
  refine zae ?_
  refine zaf ?_
  refine zaf ?_
  refine zai 2 (by simp only [holes, List.cons_append, List.nil_append]; exact rfl) ?_
  refine zad ?_
  refine zab rfl rfl rfl (op_ldm rfl tb62 (ev1 rfl) rfl rfl) ?_
  refine zab rfl rfl rfl (op_nc rfl (ev1 rfl) (fun s v h => by cases h; exact ⟨_, rfl⟩)) ?_
  refine zab rfl rfl rfl (op_fadm rfl fo107_0 (ev1 rfl)) ?_
  refine zab rfl rfl rfl (op_lddv [_, _] rfl tb101 (ev1 rfl) rfl rfl) ?_
  refine zak rfl rfl rfl (zaj [] [] [3, 4] rfl (ev1 rfl) (ec (ev1 rfl) en) rfl rfl (points_d w h ca.may) rfl rfl rfl rfl rfl rfl) (by simp only [upd, za, zaa]; exact rfl) ?_
  refine zae ?_
  refine dwp_block ?_
  refine dwp_adoptm 2 36 2 rfl (by simp only [List.cons_append, List.nil_append, za, zaa, List.length_cons, List.length_nil, Nat.zero_add, Nat.reduceAdd]; exact rfl) ?_
  refine dwp_hole ?_
  refine dwp_fam 6 rfl (by simp only [List.cons_append, List.nil_append, za, zaa]; exact rfl) ?_
  refine dwp_absc 2 0 6 rfl rfl rfl rfl (by simp only [List.cons_append, List.nil_append, za, zaa]; exact rfl) ?_
  refine dwp_hole ?_
  simp only [List.cons_append, List.nil_append]
  refine dwp_rf (FL := [(2, _), (3, _), (5, _)]) (st := .ready) (pe := none) [7, 0, 1, 2, 6, 3, 4] [] [] 7 rfl rfl (ev1 rfl) rfl (subF_lk ⟨rfl, rfl, rfl, trivial⟩) rfl rfl rfl (pts_dif w h da db ts us ra rb ca cb) rfl rfl rfl rfl rfl rfl rfl (by simp) (fun e => ?_) (fun c e => ?_)
  · simp only [upd, za, zaa]
    refine zaf ?_
    refine zad ?_
    refine zab rfl rfl rfl (op_ldm rfl tb25 (ev1 rfl) rfl rfl) ?_
    refine zab rfl rfl rfl (zac (.inr rfl) (ev1 rfl)) ?_
    refine zae ?_
    refine dwp_hole ?_
    refine dwp_rel 4 6 (j := 8) rfl rfl (fmP_at _) rfl (by simp only [List.cons_append, List.nil_append, za, zaa]; exact rfl) ?_
    refine dwp_giveA 4 rfl rfl (by simp only [List.cons_append, List.nil_append, za, zaa]; exact rfl) ?_
    refine dwp_ret ?_
    refine kend0 (rs1 rfl (rv_t rfl)) rfl ?_
    rfl
  · cases e
end Go.Proofs.Ytadjbiccndaclaa
namespace Go.Proofs.Ytadjbiccndaclaa
set_option linter.unusedVariables false
set_option linter.unusedSimpArgs false
open Go.RowKit
theorem toList_made_all {Z : Array Value} {z0 : Value} (hZ : ∀ v ∈ Z, v = z0) (h0 : 0 < Z.size) (n : Nat) : (madeCells Z n).toList = List.replicate n z0 := by
  rw [List.eq_replicate_iff]
  refine ⟨by rw [Array.length_toList, size_madeCells], fun b hb => ?_⟩
  unfold madeCells at hb
  rw [Array.toList_map, List.mem_map] at hb
  obtain ⟨i, _, rfl⟩ := hb
  have hi : i % Z.size < Z.size := Nat.mod_lt _ h0
  rw [getElem!_pos Z (i % Z.size) hi]
  exact hZ _ (Array.getElem_mem hi)
theorem op_mkg {P : Program} {pc : Bool} {o : Oper} {F : Fr} {M : List Blk} {T e : TypeId} {x y : Operand} {by' sz : Nat} (j n : Nat) {k k' : IntKind} {z z' : Int} (z0 : Value) {Z : List Value} (ho : o.op = .makeSlice T x y) (hT : slE P T = some (e, sz, by')) (hZ : zrC P e = some Z) (hz0 : Z = List.replicate sz z0) (hsz : 0 < sz) (hx : Ev pc F x (.val (.int k z))) (hy : Ev pc F y (.val (.int k' z'))) (hz : pc = true → z = (n : Int)) (hz' : pc = true → z' = (n : Int)) (hj : M[j]? = some .hole) (hb : pc = true → by' * n ≤ 281474976710656 ∧ n ≤ 9223372036854775807) :
    DOp P pc o F M [j] (.arr j) [(j, .arr e sz n (List.replicate (n * sz) z0))] := by
  intro hp a s hok hops hfp
  obtain ⟨e1, ti, e2, e3, e4⟩ := slE_spec hT
  obtain ⟨ti', zv, q1, q2, q3⟩ := zrC_spec hZ
  rw [e2] at q1
  obtain rfl := Option.some.inj q1
  have h1 := (ev_at hp hx (by simp [ho, Op.operands]) hops).val_eq
  have h2 := (ev_at hp hy (by simp [ho, Op.operands]) hops).val_eq
  rw [hz hp] at h1
  rw [hz' hp] at h2
  obtain ⟨b1, b2⟩ := hb hp
  have hj' : s.M[j]? = some .hole := by rw [hfp j (by simp)]; exact hj
  have hjl : j < s.β.length := by rw [hok.len]; exact (List.getElem?_eq_some_iff.1 hj').1
  have hb3 : (ti.bytes : Int) * (n : Int) ≤ 281474976710656 := by
    have h : ((ti.bytes * n : Nat) : Int) ≤ 281474976710656 := by rw [e4]; omega
    rwa [Int.natCast_mul] at h
  have hrun := run_make (P := P) s.w T e ti zv e1 e2 q2 k k' n n (by omega) (Int.le_refl _) hb3 (by omega)
  simp only [Int.toNat_natCast] at hrun
  have hc : ∀ v ∈ zv.cells, v = z0 := fun v hv => by
    have h : v ∈ Z := by rw [← q3]; exact Array.mem_toList_iff.2 hv
    rw [hz0] at h
    exact List.eq_of_mem_replicate h
  have hs0 : 0 < zv.cells.size := by
    have := congrArg List.length q3
    rw [Array.length_toList, hz0, List.length_replicate] at this
    omega
  have hrow := World.ownsRow_lit (base := 0) (e := e) (size := ti.size) s.w (madeCells zv.cells (n * ti.size)) n (Nat.zero_le _) (by unfold maxLen; omega) (size_madeCells _ _)
  rw [toList_made_all hc hs0, e3] at hrow
  rw [e3] at hrun
  refine dg_step (s' := ⟨s.β.set j (.slice (some ⟨s.w.heap.size, 0, none⟩) n n), s.I, s.M.set j (.arr e sz n (List.replicate (n * sz) z0)), _⟩) (v := .slice (some ⟨s.w.heap.size, 0, none⟩) n n) ?_ (tr_new hok hj' _ _ _ (by simp) (fun b hb => by cases hb; rfl) (fun b h => Below.heap_alloc _ _ _ h) (fun b hb => by cases hb; simp) (by simp) rfl rfl rfl hrow) rfl (.arr (by simp [hjl]))
  unfold execOp
  simp only [ho, h1, h2]
  exact run_v hrun
end Go.Proofs.Ytadjbiccndaclaa
namespace Go.Proofs.Ytadjbiccndaclaa
set_option linter.unusedVariables false
set_option linter.unusedSimpArgs false
open Go.RowKit
section
variable {P : Program} {pc : Bool} {o : Oper} {F : Fr} {M : List Blk}
theorem flat_take' {α : Type} {en : α → List Value} {sz : Nat} (hen : ∀ a, (en a).length = sz) : ∀ (r : List α) (m : Nat), (r.take m).flatMap en = (r.flatMap en).take (m * sz)
  | r, 0 => by simp
  | [], m + 1 => by simp
  | x :: r, m + 1 => by
    have e : (en x).take (sz + m * sz) = en x := List.take_of_length_le (by rw [hen]; omega)
    rw [List.take_succ_cons, List.flatMap_cons, List.flatMap_cons, flat_take' hen r m, Nat.add_mul, Nat.one_mul, Nat.add_comm, List.take_append, e, hen, Nat.add_sub_cancel_left]
theorem op_sl3e {α : Type} {en : α → List Value} {r : List α} {T e : TypeId} {sz by' : Nat} {x lo hi mx : Operand} {k k' k'' : IntKind} {h h' h'' : Int} {i j : Nat} (ho : o.op = .slice T x (some lo) (some hi) (some mx)) (hT : slE P T = some (e, sz, by')) (hx : Ev pc F x (.slf sz r.length (r.flatMap en))) (hlo : Ev pc F lo (.val (.int k'' h''))) (hhi : Ev pc F hi (.val (.int k h))) (hmx : Ev pc F mx (.val (.int k' h')))
    (hl : pc = true → h'' = (i : Int)) (hh : pc = true → h = (j : Int)) (hm : pc = true → h' = (j : Int)) (hi : pc = true → i ≤ j ∧ j ≤ r.length) (hen : ∀ a, (en a).length = sz) : DOp P pc o F M [] (.slf sz ((r.drop i).take (j - i)).length (((r.drop i).take (j - i)).flatMap en)) [] := by
  intro hp a s hok hops _
  have hr := ev_at hp hx (by simp [ho, Op.operands]) hops
  have e0 := (ev_at hp hlo (by simp [ho, Op.operands]) hops).val_eq
  have e1 := (ev_at hp hhi (by simp [ho, Op.operands]) hops).val_eq
  have e2 := (ev_at hp hmx (by simp [ho, Op.operands]) hops).val_eq
  rw [hl hp] at e0
  rw [hh hp] at e1
  rw [hm hp] at e2
  obtain ⟨hij, hjr⟩ := hi hp
  obtain ⟨q1, ti, q2, q3, q4⟩ := slE_spec hT
  have hlen : ((r.drop i).take (j - i)).length = j - i := by rw [List.length_take, List.length_drop]; omega
  generalize hv : a.eval x = vx at hr
  cases hr with
  | @slf _ _ cap ad _ hl hn hc ha hL =>
    have hjc : j ≤ cap := by omega
    have hic : i ≤ cap := by omega
    have hrun : (execOp a.eval o).run P s.w = .ok (.value (.slice (if j - i = 0 then ad else ad.map (·.add (i * sz))) (j - i) (j - i))) s.w := by
      unfold execOp
      simp only [ho, hv, Option.map_some, e0, e1, e2]
      refine run_v ?_
      simp [Instr.sliceAt, Instr.slice, run_underlying q1, Sem.run_bind, Instr.sliceBounds, Instr.sliceBound, asIntOf, hjc, hij, hic, sizeOf, typeInfo, q2, q3]
      congr 1
      exact propext ⟨fun h => by omega, fun h => by omega⟩
    refine dg_val hok hrun ?_
    rw [hlen]
    refine .slf (by rw [flat_len hen, hlen]) (Nat.le_refl _) (by omega) (fun e => ?_) ?_
    · split at e
      · assumption
      · rw [Option.map_eq_none_iff] at e
        have := ha e; omega
    · rcases hL with hL | ⟨b, q, e, hI, hcl⟩
      · left
        rw [flat_take' hen, flat_drop' hen, hL]; simp
      · by_cases hz : j - i = 0
        · left
          rw [List.eq_nil_of_length_eq_zero (hlen.trans hz)]; rfl
        · right
          refine ⟨b, q + i * sz, by rw [if_neg hz, e, Option.map_some, Addr.add_mid], hI, ?_⟩
          rw [flat_take' hen, flat_drop' hen]
          exact cellsAt_sub hcl (i * sz) ((j - i) * sz)
theorem op_sla3 {T e T' : TypeId} {sz by' n q : Nat} {x lo hi mx : Operand} {L : List Value} {k k' k'' : IntKind} {h h' h'' : Int} {i j : Nat} (ho : o.op = .slice T x (some lo) (some hi) (some mx)) (hT : slE P T = some (e, sz, by')) (hx : Ev pc F x (.arr q)) (hM : M[q]? = some (.arr T' sz n L)) (hlo : Ev pc F lo (.val (.int k'' h''))) (hhi : Ev pc F hi (.val (.int k h))) (hmx : Ev pc F mx (.val (.int k' h')))
    (hl : pc = true → h'' = (i : Int)) (hh : pc = true → h = (j : Int)) (hm : pc = true → h' = (j : Int)) (hi : pc = true → i < j ∧ j ≤ n) : DOp P pc o F M [q] (.own q sz i (j - i)) [] := by
  intro hp a s hok hops hfp
  have hr := ev_at hp hx (by simp [ho, Op.operands]) hops
  have e0 := (ev_at hp hlo (by simp [ho, Op.operands]) hops).val_eq
  have e1 := (ev_at hp hhi (by simp [ho, Op.operands]) hops).val_eq
  have e2 := (ev_at hp hmx (by simp [ho, Op.operands]) hops).val_eq
  rw [hl hp] at e0
  rw [hh hp] at e1
  rw [hm hp] at e2
  obtain ⟨hij, hjn⟩ := hi hp
  obtain ⟨q1, ti, q2, q3, q4⟩ := slE_spec hT
  generalize hv : a.eval x = vx at hr
  cases hr with
  | @arr _ ad n' c hβ =>
    have hM' : s.M[q]? = some (.arr T' sz n L) := by rw [hfp q (by simp)]; exact hM
    have hk : s.w.ownsRow 0 T' sz _ n L := hok.blk q _ _ hM' hβ
    rcases hk.2 with ⟨f1, f2⟩ | ⟨g, cap, cur, f1, f2, f3, f4, f5, f6, f7⟩
    · omega
    · cases f1
      have hjc : j ≤ c := by omega
      have hic : i ≤ c := by omega
      have hij2 : i ≤ j := by omega
      have hrun : (execOp a.eval o).run P s.w = .ok (.value (.slice (some ⟨g, i * sz, none⟩) (j - i) (j - i))) s.w := by
        unfold execOp
        simp only [ho, hv, Option.map_some, e0, e1, e2]
        refine run_v ?_
        have hne : ¬ (j : Int) - i = 0 := by omega
        simp [Instr.sliceAt, Instr.slice, run_underlying q1, Sem.run_bind, Instr.sliceBounds, Instr.sliceBound, asIntOf, hjc, hij2, hic, sizeOf, typeInfo, q2, q3, Addr.add]
        rw [if_neg (by omega)]
        split
        · rename_i hz; rw [hz]
        · rfl
      refine dg_val hok hrun ?_
      exact .own hβ (.inr rfl) (by omega) (fun e => by cases e) (Nat.le_refl _) (by omega)
/-- all of a row of one's own is written over by a row that stays -/
theorem op_cpw {T T2 e : TypeId} {x y : Operand} {i n sz by' : Nat} {L L2 : List Value} (ho : o.op = .call { callee := .builtin .copy, args := #[x, y], argTypes := #[T, T2] }) (hT : slE P T = some (e, sz, by')) (hx : Ev pc F x (.arr i)) (hy : Ev pc F y (.slf sz n L2)) (hM : M[i]? = some (.arr e sz n L)) (h1 : L2.all (·.oneCell') = true) (h0 : 0 < n) :
    DOp P pc o F M [i] (.val (.int .i64 (n : Int))) [(i, .arr e sz n L2)] := by
  intro hp a s hok hops hfp
  obtain ⟨e1, ti, e2, e3, e4⟩ := slE_spec hT
  have hr := ev_at hp hx (by simp [ho, Op.operands, Call.operands]) hops
  have hry := ev_at hp hy (by simp [ho, Op.operands, Call.operands]) hops
  have hM' : s.M[i]? = some (.arr e sz n L) := by rw [hfp i (by simp)]; exact hM
  have hs1 : (P.info? e).map (·.size) = some sz := by rw [e2]; simp [e3]
  generalize hv : a.eval x = vx at hr
  generalize hvy : a.eval y = vy at hry
  cases hry with
  | @slf _ _ cap2 a2 _ hl2 hn2 hc2 ha2 hL2 =>
  cases hr with
  | @arr _ ad n' c h =>
    have hk : s.w.ownsRow 0 e sz _ n L := hok.blk i _ _ hM' h
    have hlL := hk.1
    rcases hk.2 with ⟨e1', e2'⟩ | ⟨g, cap, cur, e1', e2', e3', e4', e5', e6', e7'⟩
    · omega
    · cases e1'
      obtain ⟨t1, t2, t3⟩ := tr_sta (p := 0) (C := L2) hok hM' h (by omega)
      have hset : setL L 0 L2 = L2 := setL_all (by omega)
      rw [hset] at t1
      obtain ⟨ad2, rfl, hcells⟩ : ∃ ad, a2 = some ad ∧ ∀ (j : Nat) u, L2[j]? = some u → s.w.cell? (ad.add j) = some u := by
        cases a2 with
        | none => have := ha2 rfl; omega
        | some ad =>
          refine ⟨ad, rfl, fun k u hk => ?_⟩
          rcases hL2 with e | ⟨b, q, e, hI, hcl⟩
          · rw [e] at hk
            simp at hk
          · cases e
            rw [Addr.add_mid]
            exact hcl k u hk
      have hrun := run_copy_all (P := P) s.w T T2 o.type e sz g n c ad2 cap2 L2 e1 hs1 hl2 hcells (fun j hj => by simpa using t2 j hj) (fun j hj => by simpa using t3 j hj) (fun v hv => List.all_eq_true.1 h1 v hv)
      exact dg_step (v := goInt (n : Int)) (run_builtin ho (fun cs => rfl) (by simpa [hv, hvy] using hrun)) t1 rfl (.val _)
end
end Go.Proofs.Ytadjbiccndaclaa
namespace Go.Proofs.Ytadjbiccndaclaa
set_option maxRecDepth 4000
set_option linter.unusedVariables false
set_option linter.unusedSimpArgs false
open Go.RowKit
theorem fo24_0 : fdO Try.prog 24 0 = some 0 := by kernel_rfl
theorem fo24_1 : fdO Try.prog 24 1 = some 1 := by kernel_rfl
theorem fo24_2 : fdO Try.prog 24 2 = some 2 := by kernel_rfl
theorem fo83_0 : fdO Try.prog 83 0 = some 0 := by kernel_rfl
theorem sl22 : slE Try.prog 22 = some (38, 4, 4) := by kernel_rfl
theorem tb22 : tyB Try.prog 22 = some (false, 1) := by kernel_rfl
/-! ### stamps -/
def sideB (n : Int) : Bool := decide (1 ≤ n) && decide (n ≤ 8)
theorem sideB_iff {n : Int} : sideB n = true ↔ 1 ≤ n ∧ n ≤ 8 := by simp [sideB]
def rightS (w h : Int) (l : List C4) : Bool := (sideB w && sideB h) && decide ((l.length : Int) = w * h)
structure StOk (W H : Nat) (l : List C4) : Prop where
  w : 1 ≤ W ∧ W ≤ 8
  h : 1 ≤ H ∧ H ≤ 8
  len : l.length = W * H
theorem rightS_ok {w h : Int} {l : List C4} (e : rightS w h l = true) : ∃ W H : Nat, w = (W : Int) ∧ h = (H : Int) ∧ StOk W H l := by
  unfold rightS at e
  simp only [Bool.and_eq_true, sideB_iff, decide_eq_true_eq] at e
  obtain ⟨⟨h1, h2⟩, h3⟩ := e
  refine ⟨w.toNat, h.toNat, by omega, by omega, ⟨by omega, by omega, ?_⟩⟩
  have e1 : ((w.toNat : Nat) : Int) = w := by omega
  have e2 : ((h.toNat : Nat) : Int) = h := by omega
  have : ((w.toNat * h.toNat : Nat) : Int) = w * h := by rw [Int.natCast_mul, e1, e2]
  omega
theorem StOk.right {W H : Nat} {l : List C4} (hs : StOk W H l) : rightS W H l = true := by
  unfold rightS
  rw [sideB_iff.2 (by have := hs.w; omega), sideB_iff.2 (by have := hs.h; omega), hs.len, Int.natCast_mul]
  simp
theorem mul_le64 {W H : Nat} (hw : W ≤ 8) (hh : H ≤ 8) : W * H ≤ 64 := Nat.mul_le_mul hw hh
theorem StOk.le {W H : Nat} {l : List C4} (hs : StOk W H l) : l.length ≤ 64 ∧ 1 ≤ l.length := by
  rw [hs.len]
  exact ⟨mul_le64 hs.w.2 hs.h.2, Nat.mul_pos hs.w.1 hs.h.1⟩
def getS (W : Nat) (l : List C4) (x y : Nat) : C4 := l.getD (y * W + x) zC4
theorem ix_lt {W H x y : Nat} (hx : x < W) (hy : y < H) : y * W + x < W * H := by
  have h1 : (y + 1) * W ≤ H * W := Nat.mul_le_mul_right _ hy
  rw [Nat.succ_mul, Nat.mul_comm H W] at h1
  omega
theorem ix_div {W x y : Nat} (hx : x < W) : (y * W + x) / W = y := by
  rw [Nat.mul_comm, Nat.mul_add_div (by omega), Nat.div_eq_of_lt hx, Nat.add_zero]
theorem ix_mod {W x y : Nat} (hx : x < W) : (y * W + x) % W = x := by
  rw [Nat.mul_comm, Nat.mul_add_mod, Nat.mod_eq_of_lt hx]
theorem ix_back {W : Nat} (k : Nat) : k / W * W + k % W = k := by
  rw [Nat.mul_comm]; exact Nat.div_add_mod k W
theorem ix_hi {W H k : Nat} (hk : k < W * H) : k / W < H ∧ k % W < W := by
  have hW : 0 < W := Nat.pos_of_ne_zero fun e => by subst e; simp at hk
  exact ⟨Nat.div_lt_of_lt_mul hk, Nat.mod_lt _ hW⟩
def turnL (W H : Nat) (l : List C4) : List C4 := (List.range (W * H)).map fun k => getS W l (k / H) (H - 1 - k % H)
def flipL (W H : Nat) (l : List C4) : List C4 := (List.range (W * H)).map fun k => getS W l (W - 1 - k % W) (k / W)
theorem turnL_len (W H : Nat) (l : List C4) : (turnL W H l).length = H * W := by rw [turnL, List.length_map, List.length_range, Nat.mul_comm]
theorem flipL_len (W H : Nat) (l : List C4) : (flipL W H l).length = W * H := by rw [flipL, List.length_map, List.length_range]
structure StM where
  W : Nat
  H : Nat
  l : List C4
deriving DecidableEq
def StM.ok (s : StM) : Prop := StOk s.W s.H s.l
def turnS (s : StM) : StM := ⟨s.H, s.W, turnL s.W s.H s.l⟩
def flipS (s : StM) : StM := ⟨s.W, s.H, flipL s.W s.H s.l⟩
def turnN : Nat → StM → StM
  | 0, s => s
  | n + 1, s => turnN n (turnS s)
theorem turnS_ok {s : StM} (h : s.ok) : (turnS s).ok := ⟨h.h, h.w, turnL_len ..⟩
theorem flipS_ok {s : StM} (h : s.ok) : (flipS s).ok := ⟨h.w, h.h, flipL_len ..⟩
theorem turnN_ok : ∀ (n : Nat) {s : StM}, s.ok → (turnN n s).ok
  | 0, _, h => h
  | n + 1, _, h => turnN_ok n (turnS_ok h)
theorem turnN_add : ∀ (m n : Nat) (s : StM), turnN n (turnN m s) = turnN (m + n) s
  | 0, n, s => by rw [Nat.zero_add]; rfl
  | m + 1, n, s => by rw [Nat.succ_add]; exact turnN_add m n (turnS s)
theorem fold_set {f g : Nat → Nat} {N : Nat} (l : List C4) (hf : ∀ i, i < N → f i < N ∧ g (f i) = i) : ∀ n, n ≤ N → ∀ k : Nat, ((List.range n).foldl (fun o i => o.set (f i) (l.getD i zC4)) (List.replicate N zC4))[k]? = if k < N then some (if g k < n ∧ f (g k) = k then l.getD (g k) zC4 else zC4) else none
  | 0, _, k => by
    simp only [List.range_zero, List.foldl_nil, List.getElem?_replicate, Nat.not_lt_zero, false_and, if_false]
  | n + 1, hn, k => by
    rw [List.range_succ, List.foldl_append]
    simp only [List.foldl_cons, List.foldl_nil]
    obtain ⟨h1, h2⟩ := hf n (by omega)
    have ih := fold_set l hf n (by omega) k
    by_cases e : f n = k
    · subst e
      rw [List.getElem?_set]
      have hlen : ((List.range n).foldl (fun o i => o.set (f i) (l.getD i zC4)) (List.replicate N zC4)).length = N := by
        have : ∀ m : Nat, ((List.range m).foldl (fun o i => o.set (f i) (l.getD i zC4)) (List.replicate N zC4)).length = N := fun m => by
          induction m with
          | zero => simp
          | succ m ih => rw [List.range_succ, List.foldl_append]; simp only [List.foldl_cons, List.foldl_nil, List.length_set]; exact ih
        exact this n
      rw [if_pos rfl, hlen, if_pos h1, if_pos h1, h2, if_pos ⟨by omega, rfl⟩]
    · rw [List.getElem?_set_ne e, ih]
      by_cases hk : k < N
      · rw [if_pos hk, if_pos hk]
        congr 1
        by_cases hg : g k < n ∧ f (g k) = k
        · rw [if_pos hg, if_pos ⟨by omega, hg.2⟩]
        · rw [if_neg hg]
          rw [if_neg]
          rintro ⟨h3, h4⟩
          by_cases h5 : g k = n
          · rw [h5] at h4; exact e h4
          · exact hg ⟨by omega, h4⟩
      · rw [if_neg hk, if_neg hk]
def setsN (f : Nat → Nat) (l : List C4) (N n : Nat) : List C4 := (List.range n).foldl (fun o i => o.set (f i) (l.getD i zC4)) (List.replicate N zC4)
theorem setsN_succ (f : Nat → Nat) (l : List C4) (N n : Nat) : setsN f l N (n + 1) = (setsN f l N n).set (f n) (l.getD n zC4) := by
  unfold setsN
  rw [List.range_succ, List.foldl_append]; rfl
theorem setsN_len (f : Nat → Nat) (l : List C4) (N : Nat) : ∀ n, (setsN f l N n).length = N
  | 0 => by simp [setsN]
  | n + 1 => by rw [setsN_succ, List.length_set]; exact setsN_len f l N n
theorem setsN_end {f g : Nat → Nat} {N : Nat} (l : List C4) (hf : ∀ i, i < N → f i < N ∧ g (f i) = i) (hg : ∀ k, k < N → g k < N ∧ f (g k) = k) : setsN f l N N = (List.range N).map fun k => l.getD (g k) zC4 := by
  apply List.ext_getElem?
  intro k
  rw [setsN, fold_set l hf N (Nat.le_refl _) k, List.getElem?_map]
  by_cases hk : k < N
  · rw [if_pos hk, List.getElem?_range hk, if_pos (hg k hk)]; rfl
  · rw [if_neg hk, List.getElem?_eq_none (by simpa using hk)]; rfl
def toT (W H i : Nat) : Nat := i % W * H + (H - 1 - i / W)
def toF (W i : Nat) : Nat := i / W * W + (W - 1 - i % W)
theorem toT_of {W H q r : Nat} (hq : q < H) (hr : r < W) : (H - 1 - (r * H + (H - 1 - q)) % H) * W + (r * H + (H - 1 - q)) / H = q * W + r ∧ r * H + (H - 1 - q) < W * H := by
  rw [ix_mod (by omega), ix_div (by omega), show H - 1 - (H - 1 - q) = q by omega, Nat.mul_comm W H]
  exact ⟨rfl, ix_lt (by omega) hr⟩
theorem toF_of {W H q r : Nat} (hq : q < H) (hr : r < W) : (q * W + (W - 1 - r)) / W * W + (W - 1 - (q * W + (W - 1 - r)) % W) = q * W + r ∧ q * W + (W - 1 - r) < W * H := by
  rw [ix_mod (by omega), ix_div (by omega), show W - 1 - (W - 1 - r) = r by omega]
  exact ⟨rfl, ix_lt (by omega) hq⟩
theorem turn_sets {W H : Nat} (l : List C4) : setsN (toT W H) l (W * H) (W * H) = turnL W H l := by
  refine (setsN_end (g := fun k => (H - 1 - k % H) * W + k / H) l (fun i hi => ?_) fun k hk => ?_)
  · obtain ⟨h1, h2⟩ := ix_hi hi
    obtain ⟨e1, e2⟩ := toT_of h1 h2
    exact ⟨e2, e1.trans (ix_back i)⟩
  · obtain ⟨h1, h2⟩ := ix_hi (W := H) (H := W) (k := k) (by rw [Nat.mul_comm]; exact hk)
    have h3 : H - 1 - k % H < H := Nat.lt_of_le_of_lt (Nat.sub_le _ _) (by omega)
    refine ⟨ix_lt h1 h3, ?_⟩
    unfold toT
    rw [ix_mod h1, ix_div h1]
    have e := ix_back (W := H) k
    generalize k % H = r at h2 e ⊢
    rw [show H - 1 - (H - 1 - r) = r by omega]
    exact e
theorem flip_sets {W H : Nat} (l : List C4) : setsN (toF W) l (W * H) (W * H) = flipL W H l := by
  refine (setsN_end (g := fun k => k / W * W + (W - 1 - k % W)) l (fun i hi => ?_) fun k hk => ?_)
  · obtain ⟨h1, h2⟩ := ix_hi hi
    obtain ⟨e1, e2⟩ := toF_of h1 h2
    exact ⟨e2, e1.trans (ix_back i)⟩
  · obtain ⟨h1, h2⟩ := ix_hi hk
    obtain ⟨e1, e2⟩ := toF_of h1 h2
    exact ⟨e2, e1.trans (ix_back k)⟩
set_option maxRecDepth 4000 in
set_option maxHeartbeats 1000000 in
theorem side_d (n : Int) : DFun Try.prog 40 [.val (.int .i64 n)] [] (.val (.bool (sideB n))) [] := by
  refine dcalls_go (N := 9) 0 (by kernel_rfl) Try.func40 rfl rfl rfl (by simp only [fr0, Nat.zero_add, Nat.reduceAdd]; exact rfl) rfl fun s0 hs0 => ?_
  refine zaf ?_
  refine zad ?_
  refine zab rfl rfl rfl (zac (.inr rfl) (ev1 rfl)) ?_
  refine zae ?_
  refine zaf ?_
  refine zad ?_
  refine zab rfl rfl rfl (zac (.inl rfl) (ev1 rfl)) ?_
  refine zab rfl rfl rfl (op_geq rfl (ev1 rfl) (ev1 rfl)) ?_
  refine zab rfl rfl rfl (zac (.inl rfl) (ev1 rfl)) ?_
  refine zah (gd_t rfl rfl rfl) rfl rfl rfl (zac (.inl rfl) (ev1 rfl)) ?_
  refine zah (gd_t rfl rfl rfl) rfl rfl rfl (op_leq rfl (ev2 rfl) (ev1 rfl)) ?_
  refine zab rfl rfl rfl (op_and rfl (ev1 rfl) (ev3 rfl id)) ?_
  refine zab rfl rfl rfl (zac (.inr rfl) (ev1 rfl)) ?_
  refine zae ?_
  refine dwp_ret ?_
  refine kend0 (rs1 rfl (rv_t rfl)) rfl ?_
  unfold sideB
  rfl
theorem side_mul {w h : Int} (hw : sideB w = true) (hh : sideB h = true) : 1 ≤ w * h ∧ w * h ≤ 64 := by
  have h1 := sideB_iff.1 hw
  have h2 := sideB_iff.1 hh
  have h3 : w * h ≤ 8 * 8 := Int.mul_le_mul h1.2 h2.2 (by omega) (by omega)
  have h4 : 1 * 1 ≤ w * h := Int.mul_le_mul h1.1 h2.1 (by omega) (by omega)
  omega
set_option maxRecDepth 4000 in
set_option maxHeartbeats 1000000 in
theorem scheck_d (w h : Int) (l : List C4) : DFun Try.prog 11 [.agg [.val (.int .i64 w), .val (.int .i64 h), .slf 4 l.length (l.flatMap c4)]] [] (.val (.int .i64 (errOr (rightS w h l) 190))) [] := by
  refine dcalls_go (N := 24) 0 (by kernel_rfl) Try.func11 rfl rfl rfl (by simp only [fr0, Nat.zero_add, Nat.reduceAdd]; exact rfl) rfl fun s0 hs0 => ?_
  refine zaf ?_
  refine zai 1 (by simp only [holes, List.cons_append, List.nil_append]; exact rfl) ?_
  refine zad ?_
  refine zak rfl rfl rfl (op_boxam 0 rfl (ev1 rfl) rfl) (by simp only [upd, za, zaa]; exact rfl) ?_
  refine zab rfl rfl rfl (zac (.inr rfl) (ev1 rfl)) ?_
  refine zae ?_
  refine zaf ?_
  refine zaf ?_
  refine zad ?_
  refine zab rfl rfl rfl (op_fa rfl fo24_0 (ev1 rfl)) ?_
  refine zab rfl rfl rfl (op_ldm rfl tb3 (ev1 rfl) rfl rfl) ?_
  refine zab rfl rfl rfl (zaj [] [] [] rfl (ev1 rfl) (ec (ev1 rfl) en) rfl rfl (side_d _) rfl rfl rfl rfl rfl rfl) ?_
  refine zab rfl rfl rfl (op_not rfl (ev1 rfl)) ?_
  refine zab rfl rfl rfl (zac (.inl rfl) (ev1 rfl)) ?_
  refine zah (gd_f rfl rfl rfl) rfl rfl rfl (op_fa rfl fo24_1 (ev1 rfl)) ?_
  refine zah (gd_f rfl rfl rfl) rfl rfl rfl (op_ldm rfl tb3 (ev2 rfl) rfl rfl) ?_
  refine zah (gd_f rfl rfl rfl) rfl rfl rfl (zaj [] [] [] rfl (ev1 rfl) (ec (ev2 rfl) en) rfl rfl (side_d _) rfl rfl rfl rfl rfl rfl) ?_
  refine zah (gd_f rfl rfl rfl) rfl rfl rfl (op_not rfl (ev2 rfl)) ?_
  refine zab rfl rfl rfl (op_or rfl (ev1 rfl) (ev3 rfl id)) ?_
  refine zab rfl rfl rfl (zac (.inl rfl) (ev1 rfl)) ?_
  refine zah (gd_f rfl rfl rfl) rfl rfl rfl (op_fa rfl fo24_2 (ev1 rfl)) ?_
  refine zah (gd_f rfl rfl rfl) rfl rfl rfl (op_ldm rfl tb22 (ev2 rfl) rfl rfl) ?_
  refine zah (gd_f rfl rfl rfl) rfl rfl rfl (op_len rfl sl22 (ev2 rfl)) ?_
  refine zah (gd_f rfl rfl rfl) rfl rfl rfl (op_fa rfl fo24_0 (ev1 rfl)) ?_
  refine zah (gd_f rfl rfl rfl) rfl rfl rfl (op_ldm rfl tb3 (ev2 rfl) rfl rfl) ?_
  refine zah (gd_f rfl rfl rfl) rfl rfl rfl (op_fa rfl fo24_1 (ev1 rfl)) ?_
  refine zah (gd_f rfl rfl rfl) rfl rfl rfl (op_ldm rfl tb3 (ev2 rfl) rfl rfl) ?_
  refine zah (gd_f rfl rfl rfl) rfl rfl rfl (op_mul rfl (ev2 rfl) (ev2 rfl)) ?_
  refine zah (gd_f rfl rfl rfl) rfl rfl rfl (op_neq rfl (ev2 rfl) (ev2 rfl)) ?_
  refine zab rfl rfl rfl (op_or rfl (ev1 rfl) (ev3 rfl id)) ?_
  refine zae ?_
  refine dwp_cond rfl (fun c1 => ?_) (fun c1 => ?_)
  · have hr : rightS w h l = false := by
      cases hw : sideB w with
      | false => unfold rightS; rw [hw]; rfl
      | true =>
        cases hh : sideB h with
        | false => unfold rightS; rw [hw, hh]; rfl
        | true =>
          have hb := side_mul hw hh
          rw [hw, hh, IntWalk.i64_in _ (by omega)] at c1
          simp at c1
          unfold rightS
          rw [decide_eq_false (by omega)]
          exact Bool.and_false _
    refine zaf ?_
    refine zad ?_
    refine zab rfl rfl rfl (zac (.inr rfl) (ev1 rfl)) ?_
    refine zae ?_
    refine dwp_ret ?_
    refine kend0 (rs1 rfl (rv_t rfl)) rfl ?_
    rw [hr]
    rfl
  · have hr : rightS w h l = true := by
      cases hw : sideB w with
      | false => rw [hw] at c1; simp at c1
      | true =>
        cases hh : sideB h with
        | false => rw [hw, hh] at c1; simp at c1
        | true =>
          have hb := side_mul hw hh
          rw [hw, hh, IntWalk.i64_in _ (by omega)] at c1
          simp at c1
          unfold rightS
          rw [hw, hh, decide_eq_true (by omega)]
          rfl
    refine dwp_skip ?_
    refine zaf ?_
    refine zad ?_
    refine zab rfl rfl rfl (zac (.inr rfl) (ev1 rfl)) ?_
    refine zae ?_
    refine dwp_ret ?_
    refine kend0 (rs1 rfl (rv_t rfl)) rfl ?_
    rw [hr]
    rfl
set_option maxRecDepth 4000 in
set_option maxHeartbeats 1000000 in
theorem equalC (l r : List C4) : DFun Try.prog 26 [.slf 4 l.length (l.flatMap c4), .slf 4 r.length (r.flatMap c4)] [] (.val (.bool (decide (l = r)))) [] := by
  refine dcalls_go (N := 26) 0 (by kernel_rfl) Try.func26 rfl rfl rfl (by simp only [fr0, Nat.zero_add, Nat.reduceAdd]; exact rfl) rfl fun s0 hs0 => ?_
  refine dwp_len (t := 0) rfl fun hl0 hL0 => ?_
  refine dwp_len (t := 1) rfl fun hl1 hL1 => ?_
  refine zaf ?_
  refine zad ?_
  refine zab rfl rfl rfl (zac (.inr rfl) (ev1 rfl)) ?_
  refine zae ?_
  refine zaf ?_
  refine zaf ?_
  refine zad ?_
  refine zab rfl rfl rfl (zac (.inl rfl) (ev1 rfl)) ?_
  refine zab rfl rfl rfl (op_len rfl sl22 (ev1 rfl)) ?_
  refine zab rfl rfl rfl (zac (.inl rfl) (ev1 rfl)) ?_
  refine zab rfl rfl rfl (op_len rfl sl22 (ev1 rfl)) ?_
  refine zab rfl rfl rfl (op_neq rfl (ev1 rfl) (ev1 rfl)) ?_
  refine zae ?_
  refine dwp_cond rfl (fun c1 => ?_) (fun c1 => ?_)
  · try simp only [decide_eq_true_eq, decide_eq_false_iff_not, beq_iff_eq, bne_iff_ne, beq_eq_false_iff_ne, bne_eq_false_iff_eq, Bool.not_eq_true', Bool.not_eq_false', Bool.and_eq_true, Bool.or_eq_true, Bool.or_eq_false_iff, ne_eq, Decidable.not_not, Int.not_lt, Int.not_le] at c1
    refine zaf ?_
    refine zad ?_
    refine zab rfl rfl rfl (zac (.inr rfl) (ev1 rfl)) ?_
    refine zae ?_
    refine dwp_ret ?_
    refine kend0 (rs1 rfl (rv_t rfl)) rfl ?_
    have hne : l ≠ r := fun e => by subst e; exact c1 rfl
    rw [decide_eq_false hne]
  · try simp only [decide_eq_true_eq, decide_eq_false_iff_not, beq_iff_eq, bne_iff_ne, beq_eq_false_iff_ne, bne_eq_false_iff_eq, Bool.not_eq_true', Bool.not_eq_false', Bool.and_eq_true, Bool.or_eq_true, Bool.or_eq_false_iff, ne_eq, Decidable.not_not, Int.not_lt, Int.not_le] at c1
    have hlen : l.length = r.length := by omega
    refine dwp_skip ?_
    refine zaf ?_
    refine zaf ?_
    refine zad ?_
    refine zab rfl rfl rfl (zac (.inl rfl) (ev1 rfl)) ?_
    refine zab rfl rfl rfl (op_len rfl sl22 (ev1 rfl)) ?_
    refine zab rfl rfl rfl (zac (.inl rfl) (ev1 rfl)) ?_
    refine zae ?_
    refine dwp_block ?_
    refine dwp_loopS ⟨hs0, rfl⟩ (α := Nat) (fun k => [(13, .val (.int .i64 (k : Int)))]) [(0, _), (1, _), (12, _)] (fun k => []) [] (fun k => k ≤ l.length ∧ l.take k = r.take k) (fun k => l.length - k) 0 [] (by simp) rfl ⟨rfl, rfl, rfl, trivial⟩ ⟨rfl, trivial⟩ trivial ?_
    intro k hx
    simp only [upd, za, zaa, List.cons_append, List.nil_append]
    obtain ⟨hk, he⟩ := hx
    refine zaf ?_
    refine zad ?_
    refine zab rfl rfl rfl (op_lss rfl (ev1 rfl) (ev1 rfl)) ?_
    refine zae ?_
    refine zaf ?_
    refine dwp_cond rfl (fun c2 => ?_) (fun c2 => ?_)
    · try simp only [decide_eq_true_eq, decide_eq_false_iff_not, beq_iff_eq, bne_iff_ne, beq_eq_false_iff_ne, bne_eq_false_iff_eq, Bool.not_eq_true', Bool.not_eq_false', Bool.and_eq_true, Bool.or_eq_true, Bool.or_eq_false_iff, ne_eq, Decidable.not_not, Int.not_lt, Int.not_le] at c2
      refine dwp_skip ?_
      refine zaf ?_
      refine dwp_block ?_
      refine zaf ?_
      refine zad ?_
      refine zab rfl rfl rfl (zac (.inl rfl) (ev1 rfl)) ?_
      refine zab rfl rfl rfl (zac (.inr rfl) (ev1 rfl)) ?_
      refine zae ?_
      refine zaf ?_
      refine dwp_draw [([], []), ([], []), ([], []), ([], []), ([], []), ([], []), ([], []), ([], []), ([], [])] mixed (by kernel_rfl) ?_
      refine zag rfl rfl (zac (.inl rfl) (ev1 rfl)) ?_
      refine zag rfl rfl (zac (.inl rfl) (ev1 rfl)) ?_
      refine zag rfl rfl (op_ixsr (j := k) rfl sl22 (ev1 rfl) (ev1 rfl) (fun _ => rfl) (by decide) (by omega) (by omega)) ?_
      refine zag rfl rfl (op_ldwd rfl tb38 (ev1 rfl) rfl) ?_
      refine zag rfl rfl (zac (.inl rfl) (ev1 rfl)) ?_
      refine zag rfl rfl (zac (.inl rfl) (ev1 rfl)) ?_
      refine zag rfl rfl (op_ixsr (j := k) rfl sl22 (ev1 rfl) (ev1 rfl) (fun _ => rfl) (by decide) (by omega) (by omega)) ?_
      refine zag rfl rfl (op_ldwd rfl tb38 (ev1 rfl) rfl) ?_
      refine zag rfl rfl (op_ner eq38 rfl gd38 tb38 (ev1 rfl) (ev1 rfl)) ?_
      refine lex_nil ?_
      refine dwp_cond rfl (fun c2 => ?_) (fun c2 => ?_)
      · have c3 : l[k] ≠ r[k] := by simpa using c2
        refine zaf ?_
        refine zad ?_
        refine zab rfl rfl rfl (zac (.inr rfl) (ev1 rfl)) ?_
        refine zae ?_
        refine dwp_ret ?_
        refine kend0 (rs1 rfl (rv_t rfl)) rfl ?_
        have hne : l ≠ r := fun e => by subst e; exact c3 rfl
        rw [decide_eq_false hne]
      · have c3 : l[k] = r[k] := by simpa using c2
        refine dwp_skip ?_
        refine zad ?_
        refine zab rfl rfl rfl (op_add' rfl (ev1 rfl) (ev1 rfl) (fun _ => IntWalk.i64_in _ (by omega))) ?_
        refine zab rfl rfl rfl (zac (.inl rfl) (ev1 rfl)) ?_
        refine zae ?_
        refine ⟨k + 1, [], ⟨by omega, by rw [List.take_succ_eq_append_getElem (by omega), List.take_succ_eq_append_getElem (by omega), he, c3]⟩, by simp only []; omega, rfl, ⟨rfl, rfl, rfl, rfl, trivial⟩, trivial⟩
    · try simp only [decide_eq_true_eq, decide_eq_false_iff_not, beq_iff_eq, bne_iff_ne, beq_eq_false_iff_ne, bne_eq_false_iff_eq, Bool.not_eq_true', Bool.not_eq_false', Bool.and_eq_true, Bool.or_eq_true, Bool.or_eq_false_iff, ne_eq, Decidable.not_not, Int.not_lt, Int.not_le] at c2
      refine dwp_exit ?_
      refine zaf ?_
      refine zad ?_
      refine zab rfl rfl rfl (zac (.inr rfl) (ev1 rfl)) ?_
      refine zae ?_
      refine dwp_ret ?_
      refine kend0 (rs1 rfl (rv_t rfl)) rfl ?_
      have e : l = r := by
        have h := he
        rw [List.take_of_length_le (by omega), List.take_of_length_le (by omega)] at h
        exact h
      rw [decide_eq_true e]
set_option maxRecDepth 4000 in
set_option maxHeartbeats 1000000 in
theorem cloneC (l : List C4) (h : l.length ≤ 5000) : DFun Try.prog 22 [.slf 4 l.length (l.flatMap c4)] [] (.arr 0) [.arr 38 4 l.length (l.flatMap c4)] := by
  refine dcalls_go (N := 8) 0 (by kernel_rfl) Try.func22 rfl rfl rfl (by simp only [fr0, Nat.zero_add, Nat.reduceAdd]; exact rfl) rfl fun s0 hs0 => ?_
  refine dwp_len (t := 0) rfl fun hl0 hL0 => ?_
  refine zaf ?_
  refine zad ?_
  refine zab rfl rfl rfl (zac (.inr rfl) (ev1 rfl)) ?_
  refine zae ?_
  refine zaf ?_
  refine zaf ?_
  refine zad ?_
  refine zab rfl rfl rfl (zac (.inl rfl) (ev1 rfl)) ?_
  refine walk_nil? rfl rfl rfl rfl sl22 (ev1 rfl) fun nb4 hnb4 => ?_
  refine zae ?_
  refine dwp_cond rfl (fun c1 => ?_) (fun c1 => ?_)
  · try simp only [decide_eq_true_eq, decide_eq_false_iff_not, beq_iff_eq, bne_iff_ne, beq_eq_false_iff_ne, bne_eq_false_iff_eq, Bool.not_eq_true', Bool.not_eq_false', Bool.and_eq_true, Bool.or_eq_true, Bool.or_eq_false_iff, ne_eq, Decidable.not_not, Int.not_lt, Int.not_le] at c1
    refine zaf ?_
    refine zad ?_
    refine zab rfl rfl rfl (zac (.inr rfl) (ev1 rfl)) ?_
    refine zae ?_
    refine dwp_adopt 2 38 4 rfl rfl rfl ?_
    refine dwp_ret ?_
    refine kend [0] (rs1 rfl (rv_t rfl)) rfl rfl ?_ ⟨?_, trivial⟩
    rfl
    exact (by obtain ⟨h1, h2⟩ := hnb4 c1; simp_all [MFits, vwB])
  · try simp only [decide_eq_true_eq, decide_eq_false_iff_not, beq_iff_eq, bne_iff_ne, beq_eq_false_iff_ne, bne_eq_false_iff_eq, Bool.not_eq_true', Bool.not_eq_false', Bool.and_eq_true, Bool.or_eq_true, Bool.or_eq_false_iff, ne_eq, Decidable.not_not, Int.not_lt, Int.not_le] at c1
    refine dwp_skip ?_
    refine zaf ?_
    refine zai 2 (by simp only [holes, List.cons_append, List.nil_append]; exact rfl) ?_
    refine zad ?_
    refine zak rfl rfl rfl (op_bsa (ps := []) 0 rfl sl22 zr38 rfl vn rfl (by decide) (by decide) rfl) (by simp only [upd, za, zaa]; exact rfl) ?_
    refine zab rfl rfl rfl (zac (.inl rfl) (ev1 rfl)) ?_
    refine zak rfl rfl rfl (op_app (j := 1) rfl sl22 zr38 rfl (ev1 rfl) (ev1 rfl) src_slf rfl rfl (fun _ => flat_oc (fun _ => rfl) l) (fun _ => ⟨by omega, by omega⟩)) (by simp only [upd, za, zaa]; exact rfl) ?_
    refine zab rfl rfl rfl (zac (.inr rfl) (ev1 rfl)) ?_
    refine zae ?_
    refine dwp_ret ?_
    refine kend [1] (rs1 rfl (rv_t rfl)) rfl rfl ?_ ⟨?_, trivial⟩
    rfl
    simp [vwB]
theorem cloneC_f (l : List C4) (h : l.length ≤ 5000) : DFun Try.prog 22 [.slf 4 l.length (l.flatMap c4)] [] (.slf 4 l.length (l.flatMap c4)) [] := freeze (cloneC l h) rfl
set_option maxRecDepth 4000 in
set_option maxHeartbeats 1000000 in
theorem ssame_d (w h w2 h2 : Int) (l r : List C4) : DFun Try.prog 12 [.agg [.val (.int .i64 w), .val (.int .i64 h), .slf 4 l.length (l.flatMap c4)], .agg [.val (.int .i64 w2), .val (.int .i64 h2), .slf 4 r.length (r.flatMap c4)]] [] (.val (.bool (decide (w = w2 ∧ h = h2 ∧ l = r)))) [] := by
  refine dcalls_go (N := 24) 0 (by kernel_rfl) Try.func12 rfl rfl rfl (by simp only [fr0, Nat.zero_add, Nat.reduceAdd]; exact rfl) rfl fun s0 hs0 => ?_
  refine zaf ?_
  refine zai 2 (by simp only [holes, List.cons_append, List.nil_append]; exact rfl) ?_
  refine zad ?_
  refine zak rfl rfl rfl (op_boxam 0 rfl (ev1 rfl) rfl) (by simp only [upd, za, zaa]; exact rfl) ?_
  refine zak rfl rfl rfl (op_boxam 1 rfl (ev1 rfl) rfl) (by simp only [upd, za, zaa]; exact rfl) ?_
  refine zab rfl rfl rfl (zac (.inr rfl) (ev1 rfl)) ?_
  refine zae ?_
  refine zaf ?_
  refine zad ?_
  refine zab rfl rfl rfl (op_fa rfl fo24_0 (ev1 rfl)) ?_
  refine zab rfl rfl rfl (op_ldm rfl tb3 (ev1 rfl) rfl rfl) ?_
  refine zab rfl rfl rfl (op_fa rfl fo24_0 (ev1 rfl)) ?_
  refine zab rfl rfl rfl (op_ldm rfl tb3 (ev1 rfl) rfl rfl) ?_
  refine zab rfl rfl rfl (op_eql rfl (ev1 rfl) (ev1 rfl)) ?_
  refine zab rfl rfl rfl (zac (.inl rfl) (ev1 rfl)) ?_
  refine zah (gd_t rfl rfl rfl) rfl rfl rfl (op_fa rfl fo24_1 (ev1 rfl)) ?_
  refine zah (gd_t rfl rfl rfl) rfl rfl rfl (op_ldm rfl tb3 (ev2 rfl) rfl rfl) ?_
  refine zah (gd_t rfl rfl rfl) rfl rfl rfl (op_fa rfl fo24_1 (ev1 rfl)) ?_
  refine zah (gd_t rfl rfl rfl) rfl rfl rfl (op_ldm rfl tb3 (ev2 rfl) rfl rfl) ?_
  refine zah (gd_t rfl rfl rfl) rfl rfl rfl (op_eql rfl (ev2 rfl) (ev2 rfl)) ?_
  refine zab rfl rfl rfl (op_and rfl (ev1 rfl) (ev3 rfl id)) ?_
  refine zab rfl rfl rfl (zac (.inl rfl) (ev1 rfl)) ?_
  refine zah (gd_t rfl rfl rfl) rfl rfl rfl (op_fa rfl fo24_2 (ev1 rfl)) ?_
  refine zah (gd_t rfl rfl rfl) rfl rfl rfl (op_ldm rfl tb22 (ev2 rfl) rfl rfl) ?_
  refine zah (gd_t rfl rfl rfl) rfl rfl rfl (op_fa rfl fo24_2 (ev1 rfl)) ?_
  refine zah (gd_t rfl rfl rfl) rfl rfl rfl (op_ldm rfl tb22 (ev2 rfl) rfl rfl) ?_
  refine zah (gd_t rfl rfl rfl) rfl rfl rfl (zaj [] [] [] rfl (ev1 rfl) (ec (ev2 rfl) (ec (ev2 rfl) en)) rfl rfl (equalC _ _) rfl rfl rfl rfl rfl rfl) ?_
  refine zab rfl rfl rfl (op_and rfl (ev1 rfl) (ev3 rfl id)) ?_
  refine zab rfl rfl rfl (zac (.inr rfl) (ev1 rfl)) ?_
  refine zae ?_
  refine dwp_ret ?_
  refine kend0 (rs1 rfl (rv_t rfl)) rfl ?_
  rw [D.val.injEq, Value.bool.injEq, Bool.eq_iff_iff]
  simp [and_assoc]
def rwL (W : Nat) (l : List C4) (y : Nat) : List C4 := (l.drop (y * W)).take W
theorem rwL_len {W H : Nat} {l : List C4} (hs : StOk W H l) {y : Nat} (hy : y < H) : (rwL W l y).length = W := by
  have h1 : (y + 1) * W ≤ H * W := Nat.mul_le_mul_right _ hy
  rw [Nat.succ_mul, Nat.mul_comm H W] at h1
  have := hs.len
  rw [rwL, List.length_take, List.length_drop]
  omega
theorem rwL_at {W H : Nat} {l : List C4} (hs : StOk W H l) {x y : Nat} (hx : x < W) (hy : y < H) : (rwL W l y)[x]? = some (getS W l x y) := by
  have h1 := ix_lt hx hy
  have := hs.len
  rw [rwL, List.getElem?_take, if_pos hx, List.getElem?_drop, getS, List.getD_eq_getElem?_getD, List.getElem?_eq_getElem (by omega)]
  rfl
theorem rwL_el {W H : Nat} {l : List C4} (hs : StOk W H l) {x y : Nat} (hx : x < W) (hy : y < H) (h : x < (rwL W l y).length) : (rwL W l y)[x] = getS W l x y := by
  have := rwL_at hs hx hy
  rw [List.getElem?_eq_getElem h] at this
  exact Option.some.inj this
theorem mulc (a b : Nat) : (a : Int) * (b : Int) = ((a * b : Nat) : Int) := (Int.natCast_mul a b).symm
set_option maxRecDepth 4000 in
set_option maxHeartbeats 1000000 in
theorem row_d (W H : Nat) (l : List C4) (hs : StOk W H l) (y : Nat) (hy : y < H) : DFun Try.prog 47 [.agg [.val (.int .i64 (W : Int)), .val (.int .i64 (H : Int)), .slf 4 l.length (l.flatMap c4)], .val (.int .i64 (y : Int))] [] (.slf 4 (rwL W l y).length ((rwL W l y).flatMap c4)) [] := by
  have hle := hs.le
  have hln := hs.len
  have hmw := hs.w
  have hmh := hs.h
  have hi1 : (y + 1) * W ≤ H * W := Nat.mul_le_mul_right _ hy
  rw [Nat.mul_comm H W] at hi1
  have hi0 : (y + 1) * W = y * W + W := Nat.succ_mul y W
  have hm1 := mulc y W
  have hm2 : ((y : Int) + 1) * (W : Int) = (((y + 1) * W : Nat) : Int) := by rw [Int.natCast_mul]; rfl
  refine dcalls_go (N := 25) 0 (by kernel_rfl) Try.func47 rfl rfl rfl (by simp only [fr0, Nat.zero_add, Nat.reduceAdd]; exact rfl) rfl fun s0 hs0 => ?_
  refine zaf ?_
  refine zai 1 (by simp only [holes, List.cons_append, List.nil_append]; exact rfl) ?_
  refine zad ?_
  refine zak rfl rfl rfl (op_boxam 0 rfl (ev1 rfl) rfl) (by simp only [upd, za, zaa]; exact rfl) ?_
  refine zab rfl rfl rfl (zac (.inr rfl) (ev1 rfl)) ?_
  refine zae ?_
  refine zaf ?_
  refine dwp_draw [([], []), ([], []), ([], []), ([0], []), ([], []), ([], []), ([], []), ([], []), ([], []), ([0], []), ([], []), ([], []), ([], [])] mixed (by kernel_rfl) ?_
  refine zag rfl rfl (zac (.inl rfl) (ev1 rfl)) ?_
  refine zag rfl rfl (op_fa rfl fo83_0 (ev1 rfl)) ?_
  refine zag rfl rfl (op_fa rfl fo24_0 (ev1 rfl)) ?_
  refine zag rfl rfl (op_ldm rfl tb3 (ev1 rfl) rfl rfl) ?_
  refine zag rfl rfl (op_mul' rfl (ev1 rfl) (ev1 rfl) (fun _ => IntWalk.i64_in _ (by omega))) ?_
  refine zag rfl rfl (zac (.inl rfl) (ev1 rfl)) ?_
  refine zag rfl rfl (op_add' rfl (ev1 rfl) (ev1 rfl) (fun _ => IntWalk.i64_in _ (by omega))) ?_
  refine zag rfl rfl (op_fa rfl fo83_0 (ev1 rfl)) ?_
  refine zag rfl rfl (op_fa rfl fo24_0 (ev1 rfl)) ?_
  refine zag rfl rfl (op_ldm rfl tb3 (ev1 rfl) rfl rfl) ?_
  refine zag rfl rfl (op_mul' rfl (ev1 rfl) (ev1 rfl) (fun _ => IntWalk.i64_in _ (by omega))) ?_
  refine zag rfl rfl (zac (.inr rfl) (ev1 rfl)) ?_
  refine zag rfl rfl (zac (.inr rfl) (ev1 rfl)) ?_
  refine lex_nil ?_
  refine zaf ?_
  refine zad ?_
  refine zab rfl rfl rfl (op_fa rfl fo83_0 (ev1 rfl)) ?_
  refine zab rfl rfl rfl (op_fa rfl fo24_2 (ev1 rfl)) ?_
  refine zab rfl rfl rfl (op_ldm rfl tb22 (ev1 rfl) rfl rfl) ?_
  refine zab rfl rfl rfl (zac (.inl rfl) (ev1 rfl)) ?_
  refine zab rfl rfl rfl (zac (.inl rfl) (ev1 rfl)) ?_
  refine zab rfl rfl rfl (zac (.inl rfl) (ev1 rfl)) ?_
  refine zab rfl rfl rfl (op_sl3e (i := y * W) (j := (y + 1) * W) rfl sl22 (ev1 rfl) (ev1 rfl) (ev1 rfl) (ev1 rfl) (fun hp => by first | omega | (simp at hp; omega)) (fun hp => by first | omega | (simp at hp; omega)) (fun hp => by first | omega | (simp at hp; omega)) (fun hp => by first | omega | (simp at hp; omega)) (fun _ => rfl)) ?_
  refine zab rfl rfl rfl (zac (.inr rfl) (ev1 rfl)) ?_
  refine zae ?_
  refine dwp_ret ?_
  rw [show (y + 1) * W - y * W = W by omega]
  refine kend0 (rs1 rfl (rv_t rfl)) rfl ?_
  rfl
set_option maxRecDepth 4000 in
set_option maxHeartbeats 1000000 in
theorem pixels_d (w h : Int) (l : List C4) : DFun Try.prog 41 [.agg [.val (.int .i64 w), .val (.int .i64 h), .slf 4 l.length (l.flatMap c4)]] [] (.fn (.func 71) [] [.loc 0 0]) [.mix 83 [.val (.int .i64 w), .val (.int .i64 h), .slf 4 l.length (l.flatMap c4)]] := by
  refine dcalls_go (N := 4) 0 (by kernel_rfl) Try.func41 rfl rfl rfl (by simp only [fr0, Nat.zero_add, Nat.reduceAdd]; exact rfl) rfl fun s0 hs0 => ?_
  refine zaf ?_
  refine zai 1 (by simp only [holes, List.cons_append, List.nil_append]; exact rfl) ?_
  refine zad ?_
  refine zak rfl rfl rfl (op_boxam 0 rfl (ev1 rfl) rfl) (by simp only [upd, za, zaa]; exact rfl) ?_
  refine zab rfl rfl rfl (zac (.inr rfl) (ev1 rfl)) ?_
  refine zae ?_
  refine zaf ?_
  refine zad ?_
  refine zab rfl rfl rfl (op_mkf rfl en (ec (ev1 rfl) en)) ?_
  refine zab rfl rfl rfl (zac (.inr rfl) (ev1 rfl)) ?_
  refine zae ?_
  refine dwp_ret ?_
  refine kend [0] (rs1 rfl (rv_t rfl)) rfl rfl ?_ ⟨rfl, trivial⟩
  rfl
set_option maxRecDepth 4000 in
set_option maxHeartbeats 1000000 in
theorem turned1_d (W H : Nat) (l : List C4) (hs : StOk W H l) (x y : Nat) (hx : x < W) (hy : y < H) : DFun Try.prog 74 [.val (.agg #[.int .i64 (x : Int), .int .i64 (y : Int)]), .loc 0 0] [.mix 83 [.val (.int .i64 (W : Int)), .val (.int .i64 (H : Int)), .slf 4 l.length (l.flatMap c4)]] (.val (.int .i64 (((x * H + (H - 1 - y) : Nat)) : Int))) [.mix 83 [.val (.int .i64 (W : Int)), .val (.int .i64 (H : Int)), .slf 4 l.length (l.flatMap c4)]] := by
  have hix := ix_lt hx hy
  have hle := hs.le
  have hln := hs.len
  have hmw := hs.w
  have hmh := hs.h
  have hm1 := mulc x H
  have hm2 := mulc y W
  have hx8 : x * H ≤ 64 := Nat.mul_le_mul (Nat.le_trans (Nat.le_of_lt hx) hmw.2) hmh.2
  have hy8 : y * W ≤ 64 := Nat.mul_le_mul (Nat.le_trans (Nat.le_of_lt hy) hmh.2) hmw.2
  refine dcalls_go (N := 18) 1 (by kernel_rfl) Try.func74 rfl rfl rfl (by simp only [fr0, Nat.zero_add, Nat.reduceAdd]; exact rfl) rfl fun s0 hs0 => ?_
  refine zaf ?_
  refine zai 1 (by simp only [holes, List.cons_append, List.nil_append]; exact rfl) ?_
  refine zad ?_
  refine zak rfl rfl rfl (op_boxa 1 rfl (ev1 rfl) rfl) (by simp only [upd, za, zaa]; exact rfl) ?_
  refine zab rfl rfl rfl (zac (.inr rfl) (ev1 rfl)) ?_
  refine zae ?_
  refine zaf ?_
  refine zad ?_
  refine zab rfl rfl rfl (op_fa rfl fo36_0 (ev1 rfl)) ?_
  refine zab rfl rfl rfl (op_ldo rfl tb3 (ev1 rfl) rfl rfl) ?_
  refine zab rfl rfl rfl (op_fa rfl fo83_0 (ev1 rfl)) ?_
  refine zab rfl rfl rfl (op_fa rfl fo24_1 (ev1 rfl)) ?_
  refine zab rfl rfl rfl (op_ldm rfl tb3 (ev1 rfl) rfl rfl) ?_
  refine zab rfl rfl rfl (op_mul' rfl (ev1 rfl) (ev1 rfl) (fun _ => IntWalk.i64_in _ (by omega))) ?_
  refine zab rfl rfl rfl (op_fa rfl fo83_0 (ev1 rfl)) ?_
  refine zab rfl rfl rfl (op_fa rfl fo24_1 (ev1 rfl)) ?_
  refine zab rfl rfl rfl (op_ldm rfl tb3 (ev1 rfl) rfl rfl) ?_
  refine zab rfl rfl rfl (op_add' rfl (ev1 rfl) (ev1 rfl) (fun _ => IntWalk.i64_in _ (by omega))) ?_
  refine zab rfl rfl rfl (op_sub' rfl (ev1 rfl) (ev1 rfl) (fun _ => IntWalk.i64_in _ (by omega))) ?_
  refine zab rfl rfl rfl (op_fa rfl fo36_1 (ev1 rfl)) ?_
  refine zab rfl rfl rfl (op_ldo rfl tb3 (ev1 rfl) rfl rfl) ?_
  refine zab rfl rfl rfl (op_sub' rfl (ev1 rfl) (ev1 rfl) (fun _ => IntWalk.i64_in _ (by omega))) ?_
  refine zab rfl rfl rfl (zac (.inr rfl) (ev1 rfl)) ?_
  refine zae ?_
  refine dwp_ret ?_
  refine kend [0] (rs1 rfl (rv_t rfl)) rfl rfl ?_ ⟨rfl, trivial⟩
  rw [D.val.injEq, Value.int.injEq]; exact ⟨rfl, by omega⟩
set_option maxRecDepth 4000 in
set_option maxHeartbeats 1000000 in
theorem flipped1_d (W H : Nat) (l : List C4) (hs : StOk W H l) (x y : Nat) (hx : x < W) (hy : y < H) : DFun Try.prog 73 [.val (.agg #[.int .i64 (x : Int), .int .i64 (y : Int)]), .loc 0 0] [.mix 83 [.val (.int .i64 (W : Int)), .val (.int .i64 (H : Int)), .slf 4 l.length (l.flatMap c4)]] (.val (.int .i64 (((y * W + (W - 1 - x) : Nat)) : Int))) [.mix 83 [.val (.int .i64 (W : Int)), .val (.int .i64 (H : Int)), .slf 4 l.length (l.flatMap c4)]] := by
  have hix := ix_lt hx hy
  have hle := hs.le
  have hln := hs.len
  have hmw := hs.w
  have hmh := hs.h
  have hm1 := mulc x H
  have hm2 := mulc y W
  have hx8 : x * H ≤ 64 := Nat.mul_le_mul (Nat.le_trans (Nat.le_of_lt hx) hmw.2) hmh.2
  have hy8 : y * W ≤ 64 := Nat.mul_le_mul (Nat.le_trans (Nat.le_of_lt hy) hmh.2) hmw.2
  refine dcalls_go (N := 18) 1 (by kernel_rfl) Try.func73 rfl rfl rfl (by simp only [fr0, Nat.zero_add, Nat.reduceAdd]; exact rfl) rfl fun s0 hs0 => ?_
  refine zaf ?_
  refine zai 1 (by simp only [holes, List.cons_append, List.nil_append]; exact rfl) ?_
  refine zad ?_
  refine zak rfl rfl rfl (op_boxa 1 rfl (ev1 rfl) rfl) (by simp only [upd, za, zaa]; exact rfl) ?_
  refine zab rfl rfl rfl (zac (.inr rfl) (ev1 rfl)) ?_
  refine zae ?_
  refine zaf ?_
  refine zad ?_
  refine zab rfl rfl rfl (op_fa rfl fo36_1 (ev1 rfl)) ?_
  refine zab rfl rfl rfl (op_ldo rfl tb3 (ev1 rfl) rfl rfl) ?_
  refine zab rfl rfl rfl (op_fa rfl fo83_0 (ev1 rfl)) ?_
  refine zab rfl rfl rfl (op_fa rfl fo24_0 (ev1 rfl)) ?_
  refine zab rfl rfl rfl (op_ldm rfl tb3 (ev1 rfl) rfl rfl) ?_
  refine zab rfl rfl rfl (op_mul' rfl (ev1 rfl) (ev1 rfl) (fun _ => IntWalk.i64_in _ (by omega))) ?_
  refine zab rfl rfl rfl (op_fa rfl fo83_0 (ev1 rfl)) ?_
  refine zab rfl rfl rfl (op_fa rfl fo24_0 (ev1 rfl)) ?_
  refine zab rfl rfl rfl (op_ldm rfl tb3 (ev1 rfl) rfl rfl) ?_
  refine zab rfl rfl rfl (op_add' rfl (ev1 rfl) (ev1 rfl) (fun _ => IntWalk.i64_in _ (by omega))) ?_
  refine zab rfl rfl rfl (op_sub' rfl (ev1 rfl) (ev1 rfl) (fun _ => IntWalk.i64_in _ (by omega))) ?_
  refine zab rfl rfl rfl (op_fa rfl fo36_0 (ev1 rfl)) ?_
  refine zab rfl rfl rfl (op_ldo rfl tb3 (ev1 rfl) rfl rfl) ?_
  refine zab rfl rfl rfl (op_sub' rfl (ev1 rfl) (ev1 rfl) (fun _ => IntWalk.i64_in _ (by omega))) ?_
  refine zab rfl rfl rfl (zac (.inr rfl) (ev1 rfl)) ?_
  refine zae ?_
  refine dwp_ret ?_
  refine kend [0] (rs1 rfl (rv_t rfl)) rfl rfl ?_ ⟨rfl, trivial⟩
  rw [D.val.injEq, Value.int.injEq]; exact ⟨rfl, by omega⟩
end Go.Proofs.Ytadjbiccndaclaa
namespace Go.Proofs.Ytadjbiccndaclaa
set_option maxRecDepth 4000
set_option linter.unusedVariables false
set_option linter.unusedSimpArgs false
open Go.RowKit
theorem fl24 : fdL Try.prog 24 = some [(0, 1), (1, 1), (2, 1)] := by kernel_rfl
theorem fl83 : fdL Try.prog 83 = some [(0, 3)] := by kernel_rfl
theorem fl92 : fdL Try.prog 92 = some [(0, 1)] := by kernel_rfl
theorem fo92_0 : fdO Try.prog 92 0 = some 0 := by kernel_rfl
theorem ni92 : niF Try.prog 92 = true := by kernel_rfl
theorem tb123 : tyB Try.prog 123 = some (false, 1) := by kernel_rfl
theorem tb24 : tyB Try.prog 24 = some (true, 3) := by kernel_rfl
theorem tb29 : tyB Try.prog 29 = some (false, 1) := by kernel_rfl
theorem tb83 : tyB Try.prog 83 = some (true, 3) := by kernel_rfl
theorem tb92 : tyB Try.prog 92 = some (true, 1) := by kernel_rfl
theorem zr22 : zrC Try.prog 22 = some [.slice none 0 0] := by kernel_rfl
theorem zr24 : zrC Try.prog 24 = some [.int .i64 0, .int .i64 0, .slice none 0 0] := by kernel_rfl
theorem zr83 : zrC Try.prog 83 = some [.int .i64 0, .int .i64 0, .slice none 0 0] := by kernel_rfl
theorem zr92 : zrC Try.prog 92 = some [.int .i64 0] := by kernel_rfl
theorem zv92 : zrV Try.prog 92 = some (.agg #[.int .i64 0]) := by kernel_rfl
noncomputable def movA : Code := rfA (pth [1, 1, 0, 1, 0] (bodyOf Try.f72))
noncomputable def movB : Code := rfB (pth [1, 1, 0, 1, 0] (bodyOf Try.f72))
theorem z4_rep (n : Nat) : (List.replicate n zC4).flatMap c4 = List.replicate (n * 4) (Value.int .u8 0) := by
  have e : c4 zC4 = List.replicate 4 (Value.int .u8 0) := by kernel_rfl
  induction n with
  | zero => simp
  | succ n ih => rw [List.replicate_succ, List.flatMap_cons, ih, e, List.replicate_append_replicate]; congr 1; omega
theorem setsT_step {W H : Nat} {l : List C4} (hs : StOk W H l) {x y : Nat} (hx : x < W) (hy : y < H) (h : x < (rwL W l y).length) : setsN (toT W H) l l.length (y * W + (x + 1)) = (setsN (toT W H) l l.length (y * W + x)).set (x * H + (H - 1 - y)) (rwL W l y)[x] := by
  rw [← Nat.add_assoc, setsN_succ, rwL_el hs hx hy]
  unfold toT
  rw [ix_mod hx, ix_div hx]
  rfl
theorem setsF_step {W H : Nat} {l : List C4} (hs : StOk W H l) {x y : Nat} (hx : x < W) (hy : y < H) (h : x < (rwL W l y).length) : setsN (toF W) l l.length (y * W + (x + 1)) = (setsN (toF W) l l.length (y * W + x)).set (y * W + (W - 1 - x)) (rwL W l y)[x] := by
  rw [← Nat.add_assoc, setsN_succ, rwL_el hs hx hy]
  unfold toF
  rw [ix_mod hx, ix_div hx]
  rfl
theorem turn_end {W H : Nat} {l : List C4} (hs : StOk W H l) : setsN (toT W H) l l.length (H * W) = turnL W H l := by rw [hs.len, Nat.mul_comm H W, turn_sets]
theorem flip_end {W H : Nat} {l : List C4} (hs : StOk W H l) : setsN (toF W) l l.length (H * W) = flipL W H l := by rw [hs.len, Nat.mul_comm H W, flip_sets]
set_option maxRecDepth 4000 in
set_option maxHeartbeats 1000000 in
theorem turnedRound (W H : Nat) (l : List C4) (hs : StOk W H l) (x y : Nat) (hx : x < W) (hy : y < H) (o : List C4) (ho : o.length = l.length) (c : C4) : DRound Try.prog 0 [.val (.agg #[.int .i64 (x : Int), .int .i64 (y : Int)]), .val (.agg (c4 c).toArray)] [.lp 22 [(5, .loc 1 0), (7, .loc 2 0)] #[13, 14] movA movB .ready none, .mix 123 [.fn (.func 74) [] [.loc 4 0]], .mix 22 [.arr 3], .arr 38 4 l.length ((o).flatMap c4), .mix 83 [.val (.int .i64 (W : Int)), .val (.int .i64 (H : Int)), .slf 4 l.length (l.flatMap c4)]] true [.lp 22 [(5, .loc 1 0), (7, .loc 2 0)] #[13, 14] movA movB .ready none, .mix 123 [.fn (.func 74) [] [.loc 4 0]], .mix 22 [.arr 3], .arr 38 4 l.length ((o.set (x * H + (H - 1 - y)) c).flatMap c4), .mix 83 [.val (.int .i64 (W : Int)), .val (.int .i64 (H : Int)), .slf 4 l.length (l.flatMap c4)]] := by
  refine dround_go 5 rfl rfl (by simp) rfl rfl fun s0 hs0 => ?_
  refine zaf ?_
  refine zai 1 (by simp only [holes, List.cons_append, List.nil_append]; exact rfl) ?_
  refine zad ?_
  refine zak rfl rfl rfl (zal 5 rfl zr36 rfl) (by simp only [upd, za, zaa]; exact rfl) ?_
  refine walk_s rfl rfl (op_stwa rfl tb36 (ev1 rfl) (ev1 rfl) rfl rfl rfl rfl) (by simp only [upd, za, zaa]; exact rfl) ?_
  refine zae ?_
  refine zai 1 (by simp only [holes, List.cons_append, List.nil_append]; exact rfl) ?_
  refine zad ?_
  refine zak rfl rfl rfl (zal 6 rfl zr38 rfl) (by simp only [upd, za, zaa]; exact rfl) ?_
  refine walk_s rfl rfl (op_stwa rfl tb38 (ev1 rfl) (ev1 rfl) rfl rfl rfl rfl) (by simp only [upd, za, zaa]; exact rfl) ?_
  refine zae ?_
  refine ⟨rfl, ?_⟩
  simp only [za, zaa]
  refine dwp_block ?_
  have hix := ix_lt hx hy
  have hle := hs.le
  have hln := hs.len
  have hmw := hs.w
  have hmh := hs.h
  have hit : x * H + (H - 1 - y) < W * H := (toT_of hy hx).2
  refine dwp_draw [([2], []), ([1], []), ([5], []), ([4], [4]), ([6], []), ([3], []), ([3], [3])] mixed (by kernel_rfl) ?_
  refine zag rfl rfl (op_ldm rfl tb22 (ev1 rfl) rfl rfl) ?_
  refine zag rfl rfl (op_ldm rfl tb123 (ev1 rfl) rfl rfl) ?_
  refine zag rfl rfl (op_ldw rfl tb36 (ev1 rfl) rfl rfl) ?_
  refine lex_w rfl rfl (zaj [4] [] [] rfl (ev1 rfl) (ec (ev1 rfl) en) rfl rfl (turned1_d W H l hs x y hx hy) rfl rfl rfl rfl rfl rfl) rfl (by simp only [upd, za, zaa]; exact rfl) ?_
  refine zag rfl rfl (op_ldw rfl tb38 (ev1 rfl) rfl rfl) ?_
  refine zag rfl rfl (op_ixar (j := x * H + (H - 1 - y)) rfl sl22 (ev1 rfl) (ev1 rfl) rfl (fun _ => by first | rfl | omega) (fun _ => by omega)) ?_
  refine lex_s rfl rfl (op_star rfl tb38 (ev1 rfl) rfl (ev1 rfl) (fun _ => rfl) (by first | omega | (simp only [List.length_set]; omega)) rfl) rfl (by simp only [upd, za, zaa]; exact rfl) ?_
  refine lex_nil ?_
  refine ⟨by first | rfl | assumption | simp_all, rfl, [0, 1, 2, 3, 4], rfl, ⟨rfl, rfl, rfl, rfl, rfl, trivial⟩⟩
set_option maxRecDepth 4000 in
set_option maxHeartbeats 1000000 in
theorem px_turned (W H : Nat) (l : List C4) (hs : StOk W H l) : DFun Try.prog 71 [.yld 0, .loc 5 0] [.lp 22 [(5, .loc 1 0), (7, .loc 2 0)] #[13, 14] movA movB .ready none, .mix 123 [.fn (.func 74) [] [.loc 4 0]], .mix 22 [.arr 3], .arr 38 4 l.length ((setsN (toT W H) l l.length (0)).flatMap c4), .mix 83 [.val (.int .i64 (W : Int)), .val (.int .i64 (H : Int)), .slf 4 l.length (l.flatMap c4)], .mix 83 [.val (.int .i64 (W : Int)), .val (.int .i64 (H : Int)), .slf 4 l.length (l.flatMap c4)]] (.tup []) [.lp 22 [(5, .loc 1 0), (7, .loc 2 0)] #[13, 14] movA movB .ready none, .mix 123 [.fn (.func 74) [] [.loc 4 0]], .mix 22 [.arr 3], .arr 38 4 l.length ((setsN (toT W H) l l.length (H * W)).flatMap c4), .mix 83 [.val (.int .i64 (W : Int)), .val (.int .i64 (H : Int)), .slf 4 l.length (l.flatMap c4)], .mix 83 [.val (.int .i64 (W : Int)), .val (.int .i64 (H : Int)), .slf 4 l.length (l.flatMap c4)]] := by
  have hln := hs.len
  have hmw := hs.w
  have hmh := hs.h
  refine dcalls_go (N := 30) 6 (by kernel_rfl) Try.func71 rfl rfl rfl (by simp only [fr0, Nat.zero_add, Nat.reduceAdd]; exact rfl) rfl fun s0 hs0 => ?_
  refine zaf ?_
  refine zad ?_
  refine zab rfl rfl rfl (op_fa rfl fo83_0 (ev1 rfl)) ?_
  refine zab rfl rfl rfl (op_fa rfl fo24_1 (ev1 rfl)) ?_
  refine zab rfl rfl rfl (op_ldm rfl tb3 (ev1 rfl) rfl rfl) ?_
  refine zab rfl rfl rfl (zac (.inl rfl) (ev1 rfl)) ?_
  refine zae ?_
  refine dwp_block ?_
  refine dwp_loopS ⟨hs0, rfl⟩ (α := Nat) (fun y => [(9, .val (.int .i64 (y : Int)))]) [(0, _), (1, _), (8, _)] (fun y => [(3, .arr 38 4 l.length ((setsN (toT W H) l l.length (y * W)).flatMap c4))]) [_, _, _, .hole, _, _] (fun y => y ≤ H) (fun y => H - y) 0 [0, 1, 2, 3, 4, 5] (Nat.zero_le _) rfl ⟨rfl, rfl, rfl, trivial⟩ ⟨rfl, trivial⟩ ⟨rfl, rfl, rfl, by rw [Nat.zero_mul]; rfl, rfl, rfl, trivial⟩ ?_
  intro y hx
  simp only [upd, za, zaa, List.cons_append, List.nil_append]
  have hy0 := hx
  refine zaf ?_
  refine zad ?_
  refine zab rfl rfl rfl (op_lss rfl (ev1 rfl) (ev1 rfl)) ?_
  refine zae ?_
  refine zaf ?_
  refine dwp_cond rfl (fun c1 => ?_) (fun c1 => ?_)
  · try simp only [decide_eq_true_eq, decide_eq_false_iff_not, beq_iff_eq, bne_iff_ne, beq_eq_false_iff_ne, bne_eq_false_iff_eq, Bool.not_eq_true', Bool.not_eq_false', Bool.and_eq_true, Bool.or_eq_true, Bool.or_eq_false_iff, ne_eq, Decidable.not_not, Int.not_lt, Int.not_le] at c1
    refine dwp_skip ?_
    refine zaf ?_
    refine dwp_block ?_
    refine zaf ?_
    refine zad ?_
    refine zab rfl rfl rfl (zac (.inl rfl) (ev1 rfl)) ?_
    refine zab rfl rfl rfl (zac (.inr rfl) (ev1 rfl)) ?_
    refine zae ?_
    refine zaf ?_
    have hy : y < H := by omega
    have hrl := rwL_len hs hy
    refine zad ?_
    refine zab rfl rfl rfl (op_ldmw rfl tb83 (ev1 rfl) rfl rfl) ?_
    refine zab rfl rfl rfl (zac (.inl rfl) (ev1 rfl)) ?_
    refine zab rfl rfl rfl (zaj [] [] [] rfl (ev1 rfl) (ec (ev1 rfl) (ec (ev1 rfl) en)) rfl rfl (row_d W H l hs y hy) rfl rfl rfl rfl rfl rfl) ?_
    refine zab rfl rfl rfl (op_len rfl sl22 (ev1 rfl)) ?_
    refine zab rfl rfl rfl (zac (.inl rfl) (ev1 rfl)) ?_
    refine zae ?_
    refine dwp_block ?_
    refine dwp_loopS ⟨hs0, rfl⟩ (α := Nat) (fun x => [(16, .val (.int .i64 (x : Int)))]) [(0, _), (1, _), (3, _), (8, _), (9, _), (14, _), (15, _)] (fun x => [(3, .arr 38 4 l.length ((setsN (toT W H) l l.length (y * W + x)).flatMap c4))]) [_, _, _, .hole, _, _] (fun x => x ≤ W) (fun x => W - x) 0 [0, 1, 2, 3, 4, 5] (Nat.zero_le _) rfl ⟨rfl, rfl, rfl, rfl, rfl, rfl, rfl, trivial⟩ ⟨rfl, trivial⟩ ⟨rfl, rfl, rfl, by rw [Nat.add_zero]; rfl, rfl, rfl, trivial⟩ ?_
    intro x hx
    simp only [upd, za, zaa, List.cons_append, List.nil_append]
    have hx0 := hx
    clear hx
    have hnl := setsN_len (toT W H) l l.length (y * W + x)
    refine zaf ?_
    refine zad ?_
    refine zab rfl rfl rfl (op_lss rfl (ev1 rfl) (ev1 rfl)) ?_
    refine zae ?_
    refine zaf ?_
    refine dwp_cond rfl (fun c2 => ?_) (fun c2 => ?_)
    · try simp only [decide_eq_true_eq, decide_eq_false_iff_not, beq_iff_eq, bne_iff_ne, beq_eq_false_iff_ne, bne_eq_false_iff_eq, Bool.not_eq_true', Bool.not_eq_false', Bool.and_eq_true, Bool.or_eq_true, Bool.or_eq_false_iff, ne_eq, Decidable.not_not, Int.not_lt, Int.not_le] at c2
      refine dwp_skip ?_
      refine zaf ?_
      refine dwp_block ?_
      refine zaf ?_
      have hx : x < W := by omega
      refine zai 1 (by simp only [holes, List.cons_append, List.nil_append]; exact rfl) ?_
      refine zad ?_
      refine zab rfl rfl rfl (zac (.inl rfl) (ev1 rfl)) ?_
      refine zab rfl rfl rfl (op_ixsr (j := x) rfl sl22 (ev1 rfl) (ev1 rfl) (fun _ => rfl) (by decide) (by omega) (by omega)) ?_
      refine zab rfl rfl rfl (op_ldwd rfl tb38 (ev1 rfl) rfl) ?_
      refine zak rfl rfl rfl (zal 6 rfl zr38 rfl) (by simp only [upd, za, zaa]; exact rfl) ?_
      refine zab rfl rfl rfl (zac (.inr rfl) (ev1 rfl)) ?_
      refine walk_s rfl rfl (op_stwa rfl tb38 (ev1 rfl) (ev1 rfl) rfl rfl rfl rfl) (by simp only [upd, za, zaa]; exact rfl) ?_
      refine zae ?_
      refine zaf ?_
      refine zad ?_
      refine zab rfl rfl rfl (zac (.inl rfl) (ev1 rfl)) ?_
      refine zab rfl rfl rfl (zac (.inl rfl) (ev1 rfl)) ?_
      refine zab rfl rfl rfl (zac (.inl rfl) (ev1 rfl)) ?_
      refine zab rfl rfl rfl (op_build (ps := [(0, .tmp 22), (1, .tmp 23)]) rfl fl36 zr36 (vc (ev1 rfl) (vc (ev1 rfl) vn)) rfl rfl) ?_
      refine zab rfl rfl rfl (op_ldw rfl tb38 (ev1 rfl) rfl rfl) ?_
      refine zak rfl rfl rfl (op_y (i := 0) [0, 1, 2, 3, 4] [] [] rfl (ev1 rfl) (ec (ev1 rfl) (ec (ev1 rfl) en)) rfl rfl rfl (turnedRound W H l hs x y hx hy _ hnl (rwL W l y)[x]) rfl rfl rfl rfl rfl) (by simp only [upd, za, zaa]; exact rfl) ?_
      refine zab rfl rfl rfl (op_not rfl (ev1 rfl)) ?_
      refine zae ?_
      refine dwp_if_f rfl (rfl) ?_
      refine dwp_skip ?_
      refine zad ?_
      refine zab rfl rfl rfl (op_add' rfl (ev1 rfl) (ev1 rfl) (fun _ => IntWalk.i64_in _ (by omega))) ?_
      refine zab rfl rfl rfl (zac (.inl rfl) (ev1 rfl)) ?_
      refine zae ?_
      refine ⟨x + 1, [0, 1, 2, 3, 4, 5], by omega, by simp only []; omega, rfl, ⟨rfl, rfl, rfl, rfl, rfl, rfl, rfl, rfl, trivial⟩, ⟨rfl, rfl, rfl, by rw [setsT_step hs hx hy]; rfl, rfl, rfl, trivial⟩⟩
    · try simp only [decide_eq_true_eq, decide_eq_false_iff_not, beq_iff_eq, bne_iff_ne, beq_eq_false_iff_ne, bne_eq_false_iff_eq, Bool.not_eq_true', Bool.not_eq_false', Bool.and_eq_true, Bool.or_eq_true, Bool.or_eq_false_iff, ne_eq, Decidable.not_not, Int.not_lt, Int.not_le] at c2
      refine dwp_exit ?_
      refine zad ?_
      refine zab rfl rfl rfl (op_add' rfl (ev1 rfl) (ev1 rfl) (fun _ => IntWalk.i64_in _ (by omega))) ?_
      refine zab rfl rfl rfl (zac (.inl rfl) (ev1 rfl)) ?_
      refine zae ?_
      obtain rfl : x = W := by omega
      refine ⟨y + 1, [0, 1, 2, 3, 4, 5], by omega, by simp only []; omega, rfl, ⟨rfl, rfl, rfl, rfl, trivial⟩, ⟨rfl, rfl, rfl, by rw [Nat.succ_mul]; rfl, rfl, rfl, trivial⟩⟩
  · try simp only [decide_eq_true_eq, decide_eq_false_iff_not, beq_iff_eq, bne_iff_ne, beq_eq_false_iff_ne, bne_eq_false_iff_eq, Bool.not_eq_true', Bool.not_eq_false', Bool.and_eq_true, Bool.or_eq_true, Bool.or_eq_false_iff, ne_eq, Decidable.not_not, Int.not_lt, Int.not_le] at c1
    refine dwp_exit ?_
    obtain rfl : y = H := by omega
    refine kend [0, 1, 2, 3, 4, 5] (res_none rfl) rfl rfl ?_ ⟨rfl, rfl, rfl, rfl, rfl, rfl, trivial⟩
    rfl
set_option maxRecDepth 4000 in
set_option maxHeartbeats 1000000 in
theorem moved_turned (W H : Nat) (l : List C4) (hs : StOk W H l) : DFun Try.prog 72 [.val (.int .i64 (l.length : Int)), .fn (.func 71) [] [.loc 0 0], .fn (.func 74) [] [.loc 1 0]] [.mix 83 [.val (.int .i64 (W : Int)), .val (.int .i64 (H : Int)), .slf 4 l.length (l.flatMap c4)], .mix 83 [.val (.int .i64 (W : Int)), .val (.int .i64 (H : Int)), .slf 4 l.length (l.flatMap c4)]] (.arr 2) [.mix 83 [.val (.int .i64 (W : Int)), .val (.int .i64 (H : Int)), .slf 4 l.length (l.flatMap c4)], .mix 83 [.val (.int .i64 (W : Int)), .val (.int .i64 (H : Int)), .slf 4 l.length (l.flatMap c4)], .arr 38 4 l.length ((turnL W H l).flatMap c4)] := by
  have hle := hs.le
  refine dcalls_go (N := 22) 2 (by kernel_rfl) Try.func72 rfl rfl rfl (by simp only [fr0, Nat.zero_add, Nat.reduceAdd]; exact rfl) rfl fun s0 hs0 => ?_
  refine zaf ?_
  refine zai 1 (by simp only [holes, List.cons_append, List.nil_append]; exact rfl) ?_
  refine zad ?_
  refine zak rfl rfl rfl (op_boxm 2 rfl (ev1 rfl) (fun s v h => by cases h <;> rfl) rfl) (by simp only [upd, za, zaa]; exact rfl) ?_
  refine zab rfl rfl rfl (zac (.inr rfl) (ev1 rfl)) ?_
  refine zae ?_
  refine zaf ?_
  refine zai 2 (by simp only [holes, List.cons_append, List.nil_append]; exact rfl) ?_
  refine zad ?_
  refine zab rfl rfl rfl (zac (.inl rfl) (ev1 rfl)) ?_
  refine zak rfl rfl rfl (op_mkg 3 (l.length) (.int .u8 0) rfl sl22 zr38 (by kernel_rfl) (by decide) (ev1 rfl) (ev1 rfl) (fun _ => rfl) (fun _ => rfl) rfl (fun _ => ⟨by omega, by omega⟩)) (by simp only [upd, za, zaa]; exact rfl) ?_
  refine zak rfl rfl rfl (zal 4 rfl zr22 rfl) (by simp only [upd, za, zaa]; exact rfl) ?_
  refine walk_s rfl rfl (op_stfm rfl tb22 (ev1 rfl) (ev1 rfl) (fun s v h => by cases h <;> exact ⟨rfl, rfl⟩) rfl (by decide)) (by simp only [upd, za, zaa]; exact rfl) ?_
  refine zae ?_
  refine zaf ?_
  refine zaf ?_
  rw [← z4_rep]
  refine zad ?_
  refine zab rfl rfl rfl (zac (.inl rfl) (ev1 rfl)) ?_
  refine zae ?_
  refine dwp_block ?_
  refine dwp_hole ?_
  simp only [List.cons_append, List.nil_append]
  refine dwp_rf (FL := [(5, _), (7, _)]) (st := .ready) (pe := none) [5, 2, 4, 3, 1, 0] [] [] 5 rfl rfl (ev1 rfl) rfl (subF_lk ⟨rfl, rfl, trivial⟩) rfl rfl rfl (px_turned W H l hs) rfl rfl rfl rfl rfl rfl rfl (by simp) (fun e => ?_) (fun c e => ?_)
  · simp only [upd, za, zaa]
    refine zaf ?_
    refine zad ?_
    refine zab rfl rfl rfl (op_ldm rfl tb22 (ev1 rfl) rfl rfl) ?_
    refine zab rfl rfl rfl (zac (.inr rfl) (ev1 rfl)) ?_
    refine zae ?_
    refine dwp_ret ?_
    refine kend [0, 1, 3] (rs1 rfl (rv_t rfl)) rfl rfl ?_ ⟨?_, ?_, ?_, trivial⟩
    rfl
    all_goals first | exact rfl | (rw [turn_end hs]; exact rfl)
  · cases e
set_option maxRecDepth 4000 in
set_option maxHeartbeats 1000000 in
theorem turned_o (W H : Nat) (l : List C4) (hs : StOk W H l) : DFun Try.prog 49 [.agg [.val (.int .i64 (W : Int)), .val (.int .i64 (H : Int)), .slf 4 l.length (l.flatMap c4)]] [] (.agg [.val (.int .i64 (H : Int)), .val (.int .i64 (W : Int)), .arr 0]) [.arr 38 4 l.length ((turnL W H l).flatMap c4)] := by
  refine dcalls_go (N := 21) 0 (by kernel_rfl) Try.func49 rfl rfl rfl (by simp only [fr0, Nat.zero_add, Nat.reduceAdd]; exact rfl) rfl fun s0 hs0 => ?_
  refine zaf ?_
  refine zai 2 (by simp only [holes, List.cons_append, List.nil_append]; exact rfl) ?_
  refine zad ?_
  refine zak rfl rfl rfl (op_boxam 0 rfl (ev1 rfl) rfl) (by simp only [upd, za, zaa]; exact rfl) ?_
  refine zak rfl rfl rfl (zal 1 rfl zr83 rfl) (by simp only [upd, za, zaa]; exact rfl) ?_
  refine zae ?_
  refine zaf ?_
  refine zai 2 (by simp only [holes, List.cons_append, List.nil_append]; exact rfl) ?_
  refine dwp_draw [([], []), ([], []), ([0], []), ([], []), ([0], []), ([2], [2]), ([], []), ([2, 0, 3], [2, 0, 3]), ([], [])] mixed (by kernel_rfl) ?_
  refine zag rfl rfl (op_fa rfl fo83_0 (ev1 rfl)) ?_
  refine zag rfl rfl (op_fa rfl fo24_2 (ev1 rfl)) ?_
  refine zag rfl rfl (op_ldm rfl tb22 (ev1 rfl) rfl rfl) ?_
  refine zag rfl rfl (op_len rfl sl22 (ev1 rfl)) ?_
  refine zag rfl rfl (op_ldmw rfl tb83 (ev1 rfl) rfl rfl) ?_
  refine lex_w rfl rfl (zaj [] [] [2] rfl (ev1 rfl) (ec (ev1 rfl) en) rfl rfl (pixels_d W H l) rfl rfl rfl rfl rfl rfl) rfl (by simp only [upd, za, zaa]; exact rfl) ?_
  refine zag rfl rfl (op_mkf rfl en (ec (ev1 rfl) en)) ?_
  refine lex_w rfl rfl (zaj [2, 0] [] [3] rfl (ev1 rfl) (ec (ev1 rfl) (ec (ev1 rfl) (ec (ev1 rfl) en))) rfl rfl (moved_turned W H l hs) rfl rfl rfl rfl rfl rfl) rfl (by simp only [upd, za, zaa]; exact rfl) ?_
  refine zag rfl rfl (zac (.inr rfl) (ev1 rfl)) ?_
  refine lex_nil ?_
  refine zaf ?_
  refine zad ?_
  refine zab rfl rfl rfl (op_fa rfl fo83_0 (ev1 rfl)) ?_
  refine zab rfl rfl rfl (op_fa rfl fo24_1 (ev1 rfl)) ?_
  refine zab rfl rfl rfl (op_ldm rfl tb3 (ev1 rfl) rfl rfl) ?_
  refine zab rfl rfl rfl (op_fa rfl fo83_0 (ev1 rfl)) ?_
  refine zab rfl rfl rfl (op_fa rfl fo24_0 (ev1 rfl)) ?_
  refine zab rfl rfl rfl (op_ldm rfl tb3 (ev1 rfl) rfl rfl) ?_
  refine zab rfl rfl rfl (zac (.inl rfl) (ev1 rfl)) ?_
  refine zab rfl rfl rfl (op_bldD (ps := [(0, .tmp 14), (1, .tmp 17), (2, .tmp 18)]) rfl fl24 zr24 (ec (ev1 rfl) (ec (ev1 rfl) (ec (ev1 rfl) en))) rfl rfl rfl) ?_
  refine zab rfl rfl rfl (op_bldA rfl (ev1 rfl) fl83 zr83 rfl) ?_
  refine walk_s rfl rfl (op_stam rfl tb83 (ev1 rfl) (ev1 rfl) rfl rfl rfl rfl) (by simp only [upd, za, zaa]; exact rfl) ?_
  refine zae ?_
  refine dwp_ret ?_
  refine kend [3] (rs1 rfl (rv_mw tb83 rfl rfl rfl)) rfl rfl ?_ ⟨rfl, trivial⟩
  rfl
set_option maxRecDepth 4000 in
set_option maxHeartbeats 1000000 in
theorem flippedRound (W H : Nat) (l : List C4) (hs : StOk W H l) (x y : Nat) (hx : x < W) (hy : y < H) (o : List C4) (ho : o.length = l.length) (c : C4) : DRound Try.prog 0 [.val (.agg #[.int .i64 (x : Int), .int .i64 (y : Int)]), .val (.agg (c4 c).toArray)] [.lp 22 [(5, .loc 1 0), (7, .loc 2 0)] #[13, 14] movA movB .ready none, .mix 123 [.fn (.func 73) [] [.loc 4 0]], .mix 22 [.arr 3], .arr 38 4 l.length ((o).flatMap c4), .mix 83 [.val (.int .i64 (W : Int)), .val (.int .i64 (H : Int)), .slf 4 l.length (l.flatMap c4)]] true [.lp 22 [(5, .loc 1 0), (7, .loc 2 0)] #[13, 14] movA movB .ready none, .mix 123 [.fn (.func 73) [] [.loc 4 0]], .mix 22 [.arr 3], .arr 38 4 l.length ((o.set (y * W + (W - 1 - x)) c).flatMap c4), .mix 83 [.val (.int .i64 (W : Int)), .val (.int .i64 (H : Int)), .slf 4 l.length (l.flatMap c4)]] := by
  refine dround_go 5 rfl rfl (by simp) rfl rfl fun s0 hs0 => ?_
  refine zaf ?_
  refine zai 1 (by simp only [holes, List.cons_append, List.nil_append]; exact rfl) ?_
  refine zad ?_
  refine zak rfl rfl rfl (zal 5 rfl zr36 rfl) (by simp only [upd, za, zaa]; exact rfl) ?_
  refine walk_s rfl rfl (op_stwa rfl tb36 (ev1 rfl) (ev1 rfl) rfl rfl rfl rfl) (by simp only [upd, za, zaa]; exact rfl) ?_
  refine zae ?_
  refine zai 1 (by simp only [holes, List.cons_append, List.nil_append]; exact rfl) ?_
  refine zad ?_
  refine zak rfl rfl rfl (zal 6 rfl zr38 rfl) (by simp only [upd, za, zaa]; exact rfl) ?_
  refine walk_s rfl rfl (op_stwa rfl tb38 (ev1 rfl) (ev1 rfl) rfl rfl rfl rfl) (by simp only [upd, za, zaa]; exact rfl) ?_
  refine zae ?_
  refine ⟨rfl, ?_⟩
  simp only [za, zaa]
  refine dwp_block ?_
  have hix := ix_lt hx hy
  have hle := hs.le
  have hln := hs.len
  have hmw := hs.w
  have hmh := hs.h
  have hit : y * W + (W - 1 - x) < W * H := (toF_of hy hx).2
  refine dwp_draw [([2], []), ([1], []), ([5], []), ([4], [4]), ([6], []), ([3], []), ([3], [3])] mixed (by kernel_rfl) ?_
  refine zag rfl rfl (op_ldm rfl tb22 (ev1 rfl) rfl rfl) ?_
  refine zag rfl rfl (op_ldm rfl tb123 (ev1 rfl) rfl rfl) ?_
  refine zag rfl rfl (op_ldw rfl tb36 (ev1 rfl) rfl rfl) ?_
  refine lex_w rfl rfl (zaj [4] [] [] rfl (ev1 rfl) (ec (ev1 rfl) en) rfl rfl (flipped1_d W H l hs x y hx hy) rfl rfl rfl rfl rfl rfl) rfl (by simp only [upd, za, zaa]; exact rfl) ?_
  refine zag rfl rfl (op_ldw rfl tb38 (ev1 rfl) rfl rfl) ?_
  refine zag rfl rfl (op_ixar (j := y * W + (W - 1 - x)) rfl sl22 (ev1 rfl) (ev1 rfl) rfl (fun _ => by first | rfl | omega) (fun _ => by omega)) ?_
  refine lex_s rfl rfl (op_star rfl tb38 (ev1 rfl) rfl (ev1 rfl) (fun _ => rfl) (by first | omega | (simp only [List.length_set]; omega)) rfl) rfl (by simp only [upd, za, zaa]; exact rfl) ?_
  refine lex_nil ?_
  refine ⟨by first | rfl | assumption | simp_all, rfl, [0, 1, 2, 3, 4], rfl, ⟨rfl, rfl, rfl, rfl, rfl, trivial⟩⟩
set_option maxRecDepth 4000 in
set_option maxHeartbeats 1000000 in
theorem px_flipped (W H : Nat) (l : List C4) (hs : StOk W H l) : DFun Try.prog 71 [.yld 0, .loc 5 0] [.lp 22 [(5, .loc 1 0), (7, .loc 2 0)] #[13, 14] movA movB .ready none, .mix 123 [.fn (.func 73) [] [.loc 4 0]], .mix 22 [.arr 3], .arr 38 4 l.length ((setsN (toF W) l l.length (0)).flatMap c4), .mix 83 [.val (.int .i64 (W : Int)), .val (.int .i64 (H : Int)), .slf 4 l.length (l.flatMap c4)], .mix 83 [.val (.int .i64 (W : Int)), .val (.int .i64 (H : Int)), .slf 4 l.length (l.flatMap c4)]] (.tup []) [.lp 22 [(5, .loc 1 0), (7, .loc 2 0)] #[13, 14] movA movB .ready none, .mix 123 [.fn (.func 73) [] [.loc 4 0]], .mix 22 [.arr 3], .arr 38 4 l.length ((setsN (toF W) l l.length (H * W)).flatMap c4), .mix 83 [.val (.int .i64 (W : Int)), .val (.int .i64 (H : Int)), .slf 4 l.length (l.flatMap c4)], .mix 83 [.val (.int .i64 (W : Int)), .val (.int .i64 (H : Int)), .slf 4 l.length (l.flatMap c4)]] := by
  have hln := hs.len
  have hmw := hs.w
  have hmh := hs.h
  refine dcalls_go (N := 30) 6 (by kernel_rfl) Try.func71 rfl rfl rfl (by simp only [fr0, Nat.zero_add, Nat.reduceAdd]; exact rfl) rfl fun s0 hs0 => ?_
  refine zaf ?_
  refine zad ?_
  refine zab rfl rfl rfl (op_fa rfl fo83_0 (ev1 rfl)) ?_
  refine zab rfl rfl rfl (op_fa rfl fo24_1 (ev1 rfl)) ?_
  refine zab rfl rfl rfl (op_ldm rfl tb3 (ev1 rfl) rfl rfl) ?_
  refine zab rfl rfl rfl (zac (.inl rfl) (ev1 rfl)) ?_
  refine zae ?_
  refine dwp_block ?_
  refine dwp_loopS ⟨hs0, rfl⟩ (α := Nat) (fun y => [(9, .val (.int .i64 (y : Int)))]) [(0, _), (1, _), (8, _)] (fun y => [(3, .arr 38 4 l.length ((setsN (toF W) l l.length (y * W)).flatMap c4))]) [_, _, _, .hole, _, _] (fun y => y ≤ H) (fun y => H - y) 0 [0, 1, 2, 3, 4, 5] (Nat.zero_le _) rfl ⟨rfl, rfl, rfl, trivial⟩ ⟨rfl, trivial⟩ ⟨rfl, rfl, rfl, by rw [Nat.zero_mul]; rfl, rfl, rfl, trivial⟩ ?_
  intro y hx
  simp only [upd, za, zaa, List.cons_append, List.nil_append]
  have hy0 := hx
  refine zaf ?_
  refine zad ?_
  refine zab rfl rfl rfl (op_lss rfl (ev1 rfl) (ev1 rfl)) ?_
  refine zae ?_
  refine zaf ?_
  refine dwp_cond rfl (fun c1 => ?_) (fun c1 => ?_)
  · try simp only [decide_eq_true_eq, decide_eq_false_iff_not, beq_iff_eq, bne_iff_ne, beq_eq_false_iff_ne, bne_eq_false_iff_eq, Bool.not_eq_true', Bool.not_eq_false', Bool.and_eq_true, Bool.or_eq_true, Bool.or_eq_false_iff, ne_eq, Decidable.not_not, Int.not_lt, Int.not_le] at c1
    refine dwp_skip ?_
    refine zaf ?_
    refine dwp_block ?_
    refine zaf ?_
    refine zad ?_
    refine zab rfl rfl rfl (zac (.inl rfl) (ev1 rfl)) ?_
    refine zab rfl rfl rfl (zac (.inr rfl) (ev1 rfl)) ?_
    refine zae ?_
    refine zaf ?_
    have hy : y < H := by omega
    have hrl := rwL_len hs hy
    refine zad ?_
    refine zab rfl rfl rfl (op_ldmw rfl tb83 (ev1 rfl) rfl rfl) ?_
    refine zab rfl rfl rfl (zac (.inl rfl) (ev1 rfl)) ?_
    refine zab rfl rfl rfl (zaj [] [] [] rfl (ev1 rfl) (ec (ev1 rfl) (ec (ev1 rfl) en)) rfl rfl (row_d W H l hs y hy) rfl rfl rfl rfl rfl rfl) ?_
    refine zab rfl rfl rfl (op_len rfl sl22 (ev1 rfl)) ?_
    refine zab rfl rfl rfl (zac (.inl rfl) (ev1 rfl)) ?_
    refine zae ?_
    refine dwp_block ?_
    refine dwp_loopS ⟨hs0, rfl⟩ (α := Nat) (fun x => [(16, .val (.int .i64 (x : Int)))]) [(0, _), (1, _), (3, _), (8, _), (9, _), (14, _), (15, _)] (fun x => [(3, .arr 38 4 l.length ((setsN (toF W) l l.length (y * W + x)).flatMap c4))]) [_, _, _, .hole, _, _] (fun x => x ≤ W) (fun x => W - x) 0 [0, 1, 2, 3, 4, 5] (Nat.zero_le _) rfl ⟨rfl, rfl, rfl, rfl, rfl, rfl, rfl, trivial⟩ ⟨rfl, trivial⟩ ⟨rfl, rfl, rfl, by rw [Nat.add_zero]; rfl, rfl, rfl, trivial⟩ ?_
    intro x hx
    simp only [upd, za, zaa, List.cons_append, List.nil_append]
    have hx0 := hx
    clear hx
    have hnl := setsN_len (toF W) l l.length (y * W + x)
    refine zaf ?_
    refine zad ?_
    refine zab rfl rfl rfl (op_lss rfl (ev1 rfl) (ev1 rfl)) ?_
    refine zae ?_
    refine zaf ?_
    refine dwp_cond rfl (fun c2 => ?_) (fun c2 => ?_)
    · try simp only [decide_eq_true_eq, decide_eq_false_iff_not, beq_iff_eq, bne_iff_ne, beq_eq_false_iff_ne, bne_eq_false_iff_eq, Bool.not_eq_true', Bool.not_eq_false', Bool.and_eq_true, Bool.or_eq_true, Bool.or_eq_false_iff, ne_eq, Decidable.not_not, Int.not_lt, Int.not_le] at c2
      refine dwp_skip ?_
      refine zaf ?_
      refine dwp_block ?_
      refine zaf ?_
      have hx : x < W := by omega
      refine zai 1 (by simp only [holes, List.cons_append, List.nil_append]; exact rfl) ?_
      refine zad ?_
      refine zab rfl rfl rfl (zac (.inl rfl) (ev1 rfl)) ?_
      refine zab rfl rfl rfl (op_ixsr (j := x) rfl sl22 (ev1 rfl) (ev1 rfl) (fun _ => rfl) (by decide) (by omega) (by omega)) ?_
      refine zab rfl rfl rfl (op_ldwd rfl tb38 (ev1 rfl) rfl) ?_
      refine zak rfl rfl rfl (zal 6 rfl zr38 rfl) (by simp only [upd, za, zaa]; exact rfl) ?_
      refine zab rfl rfl rfl (zac (.inr rfl) (ev1 rfl)) ?_
      refine walk_s rfl rfl (op_stwa rfl tb38 (ev1 rfl) (ev1 rfl) rfl rfl rfl rfl) (by simp only [upd, za, zaa]; exact rfl) ?_
      refine zae ?_
      refine zaf ?_
      refine zad ?_
      refine zab rfl rfl rfl (zac (.inl rfl) (ev1 rfl)) ?_
      refine zab rfl rfl rfl (zac (.inl rfl) (ev1 rfl)) ?_
      refine zab rfl rfl rfl (zac (.inl rfl) (ev1 rfl)) ?_
      refine zab rfl rfl rfl (op_build (ps := [(0, .tmp 22), (1, .tmp 23)]) rfl fl36 zr36 (vc (ev1 rfl) (vc (ev1 rfl) vn)) rfl rfl) ?_
      refine zab rfl rfl rfl (op_ldw rfl tb38 (ev1 rfl) rfl rfl) ?_
      refine zak rfl rfl rfl (op_y (i := 0) [0, 1, 2, 3, 4] [] [] rfl (ev1 rfl) (ec (ev1 rfl) (ec (ev1 rfl) en)) rfl rfl rfl (flippedRound W H l hs x y hx hy _ hnl (rwL W l y)[x]) rfl rfl rfl rfl rfl) (by simp only [upd, za, zaa]; exact rfl) ?_
      refine zab rfl rfl rfl (op_not rfl (ev1 rfl)) ?_
      refine zae ?_
      refine dwp_if_f rfl (rfl) ?_
      refine dwp_skip ?_
      refine zad ?_
      refine zab rfl rfl rfl (op_add' rfl (ev1 rfl) (ev1 rfl) (fun _ => IntWalk.i64_in _ (by omega))) ?_
      refine zab rfl rfl rfl (zac (.inl rfl) (ev1 rfl)) ?_
      refine zae ?_
      refine ⟨x + 1, [0, 1, 2, 3, 4, 5], by omega, by simp only []; omega, rfl, ⟨rfl, rfl, rfl, rfl, rfl, rfl, rfl, rfl, trivial⟩, ⟨rfl, rfl, rfl, by rw [setsF_step hs hx hy]; rfl, rfl, rfl, trivial⟩⟩
    · try simp only [decide_eq_true_eq, decide_eq_false_iff_not, beq_iff_eq, bne_iff_ne, beq_eq_false_iff_ne, bne_eq_false_iff_eq, Bool.not_eq_true', Bool.not_eq_false', Bool.and_eq_true, Bool.or_eq_true, Bool.or_eq_false_iff, ne_eq, Decidable.not_not, Int.not_lt, Int.not_le] at c2
      refine dwp_exit ?_
      refine zad ?_
      refine zab rfl rfl rfl (op_add' rfl (ev1 rfl) (ev1 rfl) (fun _ => IntWalk.i64_in _ (by omega))) ?_
      refine zab rfl rfl rfl (zac (.inl rfl) (ev1 rfl)) ?_
      refine zae ?_
      obtain rfl : x = W := by omega
      refine ⟨y + 1, [0, 1, 2, 3, 4, 5], by omega, by simp only []; omega, rfl, ⟨rfl, rfl, rfl, rfl, trivial⟩, ⟨rfl, rfl, rfl, by rw [Nat.succ_mul]; rfl, rfl, rfl, trivial⟩⟩
  · try simp only [decide_eq_true_eq, decide_eq_false_iff_not, beq_iff_eq, bne_iff_ne, beq_eq_false_iff_ne, bne_eq_false_iff_eq, Bool.not_eq_true', Bool.not_eq_false', Bool.and_eq_true, Bool.or_eq_true, Bool.or_eq_false_iff, ne_eq, Decidable.not_not, Int.not_lt, Int.not_le] at c1
    refine dwp_exit ?_
    obtain rfl : y = H := by omega
    refine kend [0, 1, 2, 3, 4, 5] (res_none rfl) rfl rfl ?_ ⟨rfl, rfl, rfl, rfl, rfl, rfl, trivial⟩
    rfl
set_option maxRecDepth 4000 in
set_option maxHeartbeats 1000000 in
theorem moved_flipped (W H : Nat) (l : List C4) (hs : StOk W H l) : DFun Try.prog 72 [.val (.int .i64 (l.length : Int)), .fn (.func 71) [] [.loc 0 0], .fn (.func 73) [] [.loc 1 0]] [.mix 83 [.val (.int .i64 (W : Int)), .val (.int .i64 (H : Int)), .slf 4 l.length (l.flatMap c4)], .mix 83 [.val (.int .i64 (W : Int)), .val (.int .i64 (H : Int)), .slf 4 l.length (l.flatMap c4)]] (.arr 2) [.mix 83 [.val (.int .i64 (W : Int)), .val (.int .i64 (H : Int)), .slf 4 l.length (l.flatMap c4)], .mix 83 [.val (.int .i64 (W : Int)), .val (.int .i64 (H : Int)), .slf 4 l.length (l.flatMap c4)], .arr 38 4 l.length ((flipL W H l).flatMap c4)] := by
  have hle := hs.le
  refine dcalls_go (N := 22) 2 (by kernel_rfl) Try.func72 rfl rfl rfl (by simp only [fr0, Nat.zero_add, Nat.reduceAdd]; exact rfl) rfl fun s0 hs0 => ?_
  refine zaf ?_
  refine zai 1 (by simp only [holes, List.cons_append, List.nil_append]; exact rfl) ?_
  refine zad ?_
  refine zak rfl rfl rfl (op_boxm 2 rfl (ev1 rfl) (fun s v h => by cases h <;> rfl) rfl) (by simp only [upd, za, zaa]; exact rfl) ?_
  refine zab rfl rfl rfl (zac (.inr rfl) (ev1 rfl)) ?_
  refine zae ?_
  refine zaf ?_
  refine zai 2 (by simp only [holes, List.cons_append, List.nil_append]; exact rfl) ?_
  refine zad ?_
  refine zab rfl rfl rfl (zac (.inl rfl) (ev1 rfl)) ?_
  refine zak rfl rfl rfl (op_mkg 3 (l.length) (.int .u8 0) rfl sl22 zr38 (by kernel_rfl) (by decide) (ev1 rfl) (ev1 rfl) (fun _ => rfl) (fun _ => rfl) rfl (fun _ => ⟨by omega, by omega⟩)) (by simp only [upd, za, zaa]; exact rfl) ?_
  refine zak rfl rfl rfl (zal 4 rfl zr22 rfl) (by simp only [upd, za, zaa]; exact rfl) ?_
  refine walk_s rfl rfl (op_stfm rfl tb22 (ev1 rfl) (ev1 rfl) (fun s v h => by cases h <;> exact ⟨rfl, rfl⟩) rfl (by decide)) (by simp only [upd, za, zaa]; exact rfl) ?_
  refine zae ?_
  refine zaf ?_
  refine zaf ?_
  rw [← z4_rep]
  refine zad ?_
  refine zab rfl rfl rfl (zac (.inl rfl) (ev1 rfl)) ?_
  refine zae ?_
  refine dwp_block ?_
  refine dwp_hole ?_
  simp only [List.cons_append, List.nil_append]
  refine dwp_rf (FL := [(5, _), (7, _)]) (st := .ready) (pe := none) [5, 2, 4, 3, 1, 0] [] [] 5 rfl rfl (ev1 rfl) rfl (subF_lk ⟨rfl, rfl, trivial⟩) rfl rfl rfl (px_flipped W H l hs) rfl rfl rfl rfl rfl rfl rfl (by simp) (fun e => ?_) (fun c e => ?_)
  · simp only [upd, za, zaa]
    refine zaf ?_
    refine zad ?_
    refine zab rfl rfl rfl (op_ldm rfl tb22 (ev1 rfl) rfl rfl) ?_
    refine zab rfl rfl rfl (zac (.inr rfl) (ev1 rfl)) ?_
    refine zae ?_
    refine dwp_ret ?_
    refine kend [0, 1, 3] (rs1 rfl (rv_t rfl)) rfl rfl ?_ ⟨?_, ?_, ?_, trivial⟩
    rfl
    all_goals first | exact rfl | (rw [flip_end hs]; exact rfl)
  · cases e
set_option maxRecDepth 4000 in
set_option maxHeartbeats 1000000 in
theorem flipped_o (W H : Nat) (l : List C4) (hs : StOk W H l) : DFun Try.prog 45 [.agg [.val (.int .i64 (W : Int)), .val (.int .i64 (H : Int)), .slf 4 l.length (l.flatMap c4)]] [] (.agg [.val (.int .i64 (W : Int)), .val (.int .i64 (H : Int)), .arr 0]) [.arr 38 4 l.length ((flipL W H l).flatMap c4)] := by
  refine dcalls_go (N := 21) 0 (by kernel_rfl) Try.func45 rfl rfl rfl (by simp only [fr0, Nat.zero_add, Nat.reduceAdd]; exact rfl) rfl fun s0 hs0 => ?_
  refine zaf ?_
  refine zai 2 (by simp only [holes, List.cons_append, List.nil_append]; exact rfl) ?_
  refine zad ?_
  refine zak rfl rfl rfl (op_boxam 0 rfl (ev1 rfl) rfl) (by simp only [upd, za, zaa]; exact rfl) ?_
  refine zak rfl rfl rfl (zal 1 rfl zr83 rfl) (by simp only [upd, za, zaa]; exact rfl) ?_
  refine zae ?_
  refine zaf ?_
  refine zai 2 (by simp only [holes, List.cons_append, List.nil_append]; exact rfl) ?_
  refine dwp_draw [([], []), ([], []), ([0], []), ([], []), ([0], []), ([2], [2]), ([], []), ([2, 0, 3], [2, 0, 3]), ([], [])] mixed (by kernel_rfl) ?_
  refine zag rfl rfl (op_fa rfl fo83_0 (ev1 rfl)) ?_
  refine zag rfl rfl (op_fa rfl fo24_2 (ev1 rfl)) ?_
  refine zag rfl rfl (op_ldm rfl tb22 (ev1 rfl) rfl rfl) ?_
  refine zag rfl rfl (op_len rfl sl22 (ev1 rfl)) ?_
  refine zag rfl rfl (op_ldmw rfl tb83 (ev1 rfl) rfl rfl) ?_
  refine lex_w rfl rfl (zaj [] [] [2] rfl (ev1 rfl) (ec (ev1 rfl) en) rfl rfl (pixels_d W H l) rfl rfl rfl rfl rfl rfl) rfl (by simp only [upd, za, zaa]; exact rfl) ?_
  refine zag rfl rfl (op_mkf rfl en (ec (ev1 rfl) en)) ?_
  refine lex_w rfl rfl (zaj [2, 0] [] [3] rfl (ev1 rfl) (ec (ev1 rfl) (ec (ev1 rfl) (ec (ev1 rfl) en))) rfl rfl (moved_flipped W H l hs) rfl rfl rfl rfl rfl rfl) rfl (by simp only [upd, za, zaa]; exact rfl) ?_
  refine zag rfl rfl (zac (.inr rfl) (ev1 rfl)) ?_
  refine lex_nil ?_
  refine zaf ?_
  refine zad ?_
  refine zab rfl rfl rfl (op_fa rfl fo83_0 (ev1 rfl)) ?_
  refine zab rfl rfl rfl (op_fa rfl fo24_0 (ev1 rfl)) ?_
  refine zab rfl rfl rfl (op_ldm rfl tb3 (ev1 rfl) rfl rfl) ?_
  refine zab rfl rfl rfl (op_fa rfl fo83_0 (ev1 rfl)) ?_
  refine zab rfl rfl rfl (op_fa rfl fo24_1 (ev1 rfl)) ?_
  refine zab rfl rfl rfl (op_ldm rfl tb3 (ev1 rfl) rfl rfl) ?_
  refine zab rfl rfl rfl (zac (.inl rfl) (ev1 rfl)) ?_
  refine zab rfl rfl rfl (op_bldD (ps := [(0, .tmp 14), (1, .tmp 17), (2, .tmp 18)]) rfl fl24 zr24 (ec (ev1 rfl) (ec (ev1 rfl) (ec (ev1 rfl) en))) rfl rfl rfl) ?_
  refine zab rfl rfl rfl (op_bldA rfl (ev1 rfl) fl83 zr83 rfl) ?_
  refine walk_s rfl rfl (op_stam rfl tb83 (ev1 rfl) (ev1 rfl) rfl rfl rfl rfl) (by simp only [upd, za, zaa]; exact rfl) ?_
  refine zae ?_
  refine dwp_ret ?_
  refine kend [3] (rs1 rfl (rv_mw tb83 rfl rfl rfl)) rfl rfl ?_ ⟨rfl, trivial⟩
  rfl
set_option maxRecDepth 4000 in
set_option maxHeartbeats 1000000 in
theorem stold_no : DFun Try.prog 43 [.val .nilIface] [] (.val (.int .i64 0)) [] := by
  refine dcalls_go (N := 13) 0 (by kernel_rfl) Try.func43 rfl rfl rfl (by simp only [fr0, Nat.zero_add, Nat.reduceAdd]; exact rfl) rfl fun s0 hs0 => ?_
  refine zaf ?_
  refine zad ?_
  refine zab rfl rfl rfl (zac (.inr rfl) (ev1 rfl)) ?_
  refine zae ?_
  refine zaf ?_
  refine zaf ?_
  refine zai 1 (by simp only [holes, List.cons_append, List.nil_append]; exact rfl) ?_
  refine zad ?_
  refine zab rfl rfl rfl (zac (.inl rfl) (ev1 rfl)) ?_
  refine zab rfl rfl rfl (op_tan rfl ni92 zv92 (ev1 rfl)) ?_
  refine zab rfl rfl rfl (zac (.inl rfl) (ev1 rfl)) ?_
  refine zab rfl rfl rfl (op_ext rfl (ev1 rfl) rfl) ?_
  refine zab rfl rfl rfl (op_ext rfl (ev1 rfl) rfl) ?_
  refine zak rfl rfl rfl (zal 0 rfl zr92 rfl) (by simp only [upd, za, zaa]; exact rfl) ?_
  refine walk_s rfl rfl (op_stwa rfl tb92 (ev1 rfl) (ev1 rfl) rfl rfl rfl rfl) (by simp only [upd, za, zaa]; exact rfl) ?_
  refine zab rfl rfl rfl (zac (.inr rfl) (ev1 rfl)) ?_
  refine zae ?_
  refine zaf ?_
  refine zad ?_
  refine zab rfl rfl rfl (zac (.inl rfl) (ev1 rfl)) ?_
  refine zae ?_
  refine dwp_if_f rfl (rfl) ?_
  refine dwp_skip ?_
  refine zaf ?_
  refine zad ?_
  refine zab rfl rfl rfl (zac (.inr rfl) (ev1 rfl)) ?_
  refine zae ?_
  refine dwp_ret ?_
  refine kend0 (rs1 rfl (rv_t rfl)) rfl ?_
  rfl
set_option maxRecDepth 4000 in
set_option maxHeartbeats 1000000 in
theorem stold_w (n : Int) : DFun Try.prog 43 [.ifc 92 (.val (.agg #[.int .i64 n]))] [] (.val (.int .i64 n)) [] := by
  refine dcalls_go (N := 13) 0 (by kernel_rfl) Try.func43 rfl rfl rfl (by simp only [fr0, Nat.zero_add, Nat.reduceAdd]; exact rfl) rfl fun s0 hs0 => ?_
  refine zaf ?_
  refine zad ?_
  refine zab rfl rfl rfl (zac (.inr rfl) (ev1 rfl)) ?_
  refine zae ?_
  refine zaf ?_
  refine zaf ?_
  refine zai 1 (by simp only [holes, List.cons_append, List.nil_append]; exact rfl) ?_
  refine zad ?_
  refine zab rfl rfl rfl (zac (.inl rfl) (ev1 rfl)) ?_
  refine zab rfl rfl rfl (op_tay rfl ni92 (ev1 rfl)) ?_
  refine zab rfl rfl rfl (zac (.inl rfl) (ev1 rfl)) ?_
  refine zab rfl rfl rfl (op_ext rfl (ev1 rfl) rfl) ?_
  refine zab rfl rfl rfl (op_ext rfl (ev1 rfl) rfl) ?_
  refine zak rfl rfl rfl (zal 0 rfl zr92 rfl) (by simp only [upd, za, zaa]; exact rfl) ?_
  refine walk_s rfl rfl (op_stwa rfl tb92 (ev1 rfl) (ev1 rfl) rfl rfl rfl rfl) (by simp only [upd, za, zaa]; exact rfl) ?_
  refine zab rfl rfl rfl (zac (.inr rfl) (ev1 rfl)) ?_
  refine zae ?_
  refine zaf ?_
  refine zad ?_
  refine zab rfl rfl rfl (zac (.inl rfl) (ev1 rfl)) ?_
  refine zae ?_
  refine dwp_if_t rfl (rfl) ?_
  refine zaf ?_
  refine zad ?_
  refine zab rfl rfl rfl (op_fa rfl fo92_0 (ev1 rfl)) ?_
  refine zab rfl rfl rfl (op_ldo rfl tb29 (ev1 rfl) rfl rfl) ?_
  refine zab rfl rfl rfl (zac (.inr rfl) (ev1 rfl)) ?_
  refine zae ?_
  refine dwp_ret ?_
  refine kend0 (rs1 rfl (rv_t rfl)) rfl ?_
  rfl
set_option maxRecDepth 4000 in
set_option maxHeartbeats 1000000 in
theorem sturn1_idle (e : Int) : DDef Try.prog 48 [.loc 0 0] [.flat 29 [.int .i64 e]] none none [.flat 29 [.int .i64 0]] := by
  refine ddef_go1 (dr := .tup []) (t := 1) (N := 3) 1 (by kernel_rfl) Try.func48 rfl rfl rfl (by simp only [fr0, Nat.zero_add, Nat.reduceAdd]; exact rfl) rfl rfl rfl rfl rfl fun s0 hs0 => ?_
  refine zab rfl rfl rfl (zaj [] [] [] rfl (ev1 rfl) (ec (ev1 rfl) en) rfl rfl (stold_no) rfl rfl rfl rfl rfl rfl) ?_
  refine walk_s rfl rfl (op_stwi rfl tb29 (ev1 rfl) (ev1 rfl) rfl) (by simp only [upd, za, zaa]; exact rfl) ?_
  refine zae ?_
  refine kend [0] (res_none rfl) rfl rfl ?_ ⟨rfl, trivial⟩
  rfl
set_option maxRecDepth 4000 in
set_option maxHeartbeats 1000000 in
theorem sturn1_caught (e n : Int) : DDef Try.prog 48 [.loc 0 0] [.flat 29 [.int .i64 e]] (some (.ifc 92 (.val (.agg #[.int .i64 n])))) none [.flat 29 [.int .i64 n]] := by
  refine ddef_go1 (dr := .tup []) (t := 1) (N := 3) 1 (by kernel_rfl) Try.func48 rfl rfl rfl (by simp only [fr0, Nat.zero_add, Nat.reduceAdd]; exact rfl) rfl rfl rfl rfl rfl fun s0 hs0 => ?_
  refine zab rfl rfl rfl (zaj [] [] [] rfl (ev1 rfl) (ec (ev1 rfl) en) rfl rfl (stold_w n) rfl rfl rfl rfl rfl rfl) ?_
  refine walk_s rfl rfl (op_stwi rfl tb29 (ev1 rfl) (ev1 rfl) rfl) (by simp only [upd, za, zaa]; exact rfl) ?_
  refine zae ?_
  refine kend [0] (res_none rfl) rfl rfl ?_ ⟨rfl, trivial⟩
  rfl
set_option maxRecDepth 4000 in
set_option maxHeartbeats 1000000 in
theorem sflip1_idle (e : Int) : DDef Try.prog 42 [.loc 0 0] [.flat 29 [.int .i64 e]] none none [.flat 29 [.int .i64 0]] := by
  refine ddef_go1 (dr := .tup []) (t := 1) (N := 3) 1 (by kernel_rfl) Try.func42 rfl rfl rfl (by simp only [fr0, Nat.zero_add, Nat.reduceAdd]; exact rfl) rfl rfl rfl rfl rfl fun s0 hs0 => ?_
  refine zab rfl rfl rfl (zaj [] [] [] rfl (ev1 rfl) (ec (ev1 rfl) en) rfl rfl (stold_no) rfl rfl rfl rfl rfl rfl) ?_
  refine walk_s rfl rfl (op_stwi rfl tb29 (ev1 rfl) (ev1 rfl) rfl) (by simp only [upd, za, zaa]; exact rfl) ?_
  refine zae ?_
  refine kend [0] (res_none rfl) rfl rfl ?_ ⟨rfl, trivial⟩
  rfl
set_option maxRecDepth 4000 in
set_option maxHeartbeats 1000000 in
theorem scut1_idle (e : Int) : DDef Try.prog 52 [.loc 0 0] [.flat 29 [.int .i64 e]] none none [.flat 29 [.int .i64 0]] := by
  refine ddef_go1 (dr := .tup []) (t := 1) (N := 3) 1 (by kernel_rfl) Try.func52 rfl rfl rfl (by simp only [fr0, Nat.zero_add, Nat.reduceAdd]; exact rfl) rfl rfl rfl rfl rfl fun s0 hs0 => ?_
  refine zab rfl rfl rfl (zaj [] [] [] rfl (ev1 rfl) (ec (ev1 rfl) en) rfl rfl (stold_no) rfl rfl rfl rfl rfl rfl) ?_
  refine walk_s rfl rfl (op_stwi rfl tb29 (ev1 rfl) (ev1 rfl) rfl) (by simp only [upd, za, zaa]; exact rfl) ?_
  refine zae ?_
  refine kend [0] (res_none rfl) rfl rfl ?_ ⟨rfl, trivial⟩
  rfl
set_option maxRecDepth 4000 in
set_option maxHeartbeats 1000000 in
theorem scut1_caught (e n : Int) : DDef Try.prog 52 [.loc 0 0] [.flat 29 [.int .i64 e]] (some (.ifc 92 (.val (.agg #[.int .i64 n])))) none [.flat 29 [.int .i64 n]] := by
  refine ddef_go1 (dr := .tup []) (t := 1) (N := 3) 1 (by kernel_rfl) Try.func52 rfl rfl rfl (by simp only [fr0, Nat.zero_add, Nat.reduceAdd]; exact rfl) rfl rfl rfl rfl rfl fun s0 hs0 => ?_
  refine zab rfl rfl rfl (zaj [] [] [] rfl (ev1 rfl) (ec (ev1 rfl) en) rfl rfl (stold_w n) rfl rfl rfl rfl rfl rfl) ?_
  refine walk_s rfl rfl (op_stwi rfl tb29 (ev1 rfl) (ev1 rfl) rfl) (by simp only [upd, za, zaa]; exact rfl) ?_
  refine zae ?_
  refine kend [0] (res_none rfl) rfl rfl ?_ ⟨rfl, trivial⟩
  rfl
set_option maxRecDepth 4000 in
set_option maxHeartbeats 1000000 in
theorem slay1_idle (e : Int) : DDef Try.prog 55 [.loc 0 0] [.flat 29 [.int .i64 e]] none none [.flat 29 [.int .i64 0]] := by
  refine ddef_go1 (dr := .tup []) (t := 1) (N := 3) 1 (by kernel_rfl) Try.func55 rfl rfl rfl (by simp only [fr0, Nat.zero_add, Nat.reduceAdd]; exact rfl) rfl rfl rfl rfl rfl fun s0 hs0 => ?_
  refine zab rfl rfl rfl (zaj [] [] [] rfl (ev1 rfl) (ec (ev1 rfl) en) rfl rfl (stold_no) rfl rfl rfl rfl rfl rfl) ?_
  refine walk_s rfl rfl (op_stwi rfl tb29 (ev1 rfl) (ev1 rfl) rfl) (by simp only [upd, za, zaa]; exact rfl) ?_
  refine zae ?_
  refine kend [0] (res_none rfl) rfl rfl ?_ ⟨rfl, trivial⟩
  rfl
set_option maxRecDepth 4000 in
set_option maxHeartbeats 1000000 in
theorem wOf_d (W H : Nat) (l : List C4) (hs : StOk W H l) : DFun Try.prog 44 [.agg [.val (.int .i64 (W : Int)), .val (.int .i64 (H : Int)), .slf 4 l.length (l.flatMap c4)]] [] (.agg [.val (.int .i64 (W : Int)), .val (.int .i64 (H : Int)), .slf 4 l.length (l.flatMap c4)]) [] := by
  have hr := hs.right
  refine dcalls_go (N := 13) 0 (by kernel_rfl) Try.func44 rfl rfl rfl (by simp only [fr0, Nat.zero_add, Nat.reduceAdd]; exact rfl) rfl fun s0 hs0 => ?_
  refine zaf ?_
  refine zai 2 (by simp only [holes, List.cons_append, List.nil_append]; exact rfl) ?_
  refine zad ?_
  refine zak rfl rfl rfl (op_boxam 0 rfl (ev1 rfl) rfl) (by simp only [upd, za, zaa]; exact rfl) ?_
  refine zak rfl rfl rfl (zal 1 rfl zr83 rfl) (by simp only [upd, za, zaa]; exact rfl) ?_
  refine zae ?_
  refine zaf ?_
  refine zaf ?_
  refine zad ?_
  refine zab rfl rfl rfl (op_ldmw rfl tb24 (ev1 rfl) rfl rfl) ?_
  refine zab rfl rfl rfl (zaj [] [] [] rfl (ev1 rfl) (ec (ev1 rfl) en) rfl rfl (scheck_d _ _ _) rfl rfl rfl rfl rfl rfl) ?_
  refine zab rfl rfl rfl (zac (.inr rfl) (ev1 rfl)) ?_
  refine zae ?_
  refine zaf ?_
  refine zad ?_
  refine zab rfl rfl rfl (zac (.inl rfl) (ev1 rfl)) ?_
  refine zab rfl rfl rfl (op_neq rfl (ev1 rfl) (ev1 rfl)) ?_
  refine zae ?_
  refine dwp_if_f rfl (by rw [hr]; rfl) ?_
  refine dwp_skip ?_
  refine zaf ?_
  refine zad ?_
  refine zab rfl rfl rfl (op_ldmw rfl tb24 (ev1 rfl) rfl rfl) ?_
  refine zab rfl rfl rfl (op_bldA rfl (ev1 rfl) fl83 zr83 rfl) ?_
  refine walk_s rfl rfl (op_stam rfl tb83 (ev1 rfl) (ev1 rfl) rfl rfl rfl rfl) (by simp only [upd, za, zaa]; exact rfl) ?_
  refine zae ?_
  refine dwp_ret ?_
  refine kend0 (rs1 rfl (rv_mw tb83 rfl rfl rfl)) rfl ?_
  rfl
set_option maxRecDepth 4000 in
set_option maxHeartbeats 1000000 in
theorem wOf_no (w h : Int) (l : List C4) (hr : rightS w h l = false) : DPan Try.prog 44 [.agg [.val (.int .i64 w), .val (.int .i64 h), .slf 4 l.length (l.flatMap c4)]] [] (.ifc 92 (.val (.agg #[.int .i64 190]))) [] := by
  refine dcalls_go (N := 13) 0 (by kernel_rfl) Try.func44 rfl rfl rfl (by simp only [fr0, Nat.zero_add, Nat.reduceAdd]; exact rfl) rfl fun s0 hs0 => ?_
  refine zaf ?_
  refine zai 2 (by simp only [holes, List.cons_append, List.nil_append]; exact rfl) ?_
  refine zad ?_
  refine zak rfl rfl rfl (op_boxam 0 rfl (ev1 rfl) rfl) (by simp only [upd, za, zaa]; exact rfl) ?_
  refine zak rfl rfl rfl (zal 1 rfl zr83 rfl) (by simp only [upd, za, zaa]; exact rfl) ?_
  refine zae ?_
  refine zaf ?_
  refine zaf ?_
  refine zad ?_
  refine zab rfl rfl rfl (op_ldmw rfl tb24 (ev1 rfl) rfl rfl) ?_
  refine zab rfl rfl rfl (zaj [] [] [] rfl (ev1 rfl) (ec (ev1 rfl) en) rfl rfl (scheck_d _ _ _) rfl rfl rfl rfl rfl rfl) ?_
  refine zab rfl rfl rfl (zac (.inr rfl) (ev1 rfl)) ?_
  refine zae ?_
  refine zaf ?_
  refine zad ?_
  refine zab rfl rfl rfl (zac (.inl rfl) (ev1 rfl)) ?_
  refine zab rfl rfl rfl (op_neq rfl (ev1 rfl) (ev1 rfl)) ?_
  refine zae ?_
  refine dwp_if_t rfl (by rw [hr]; rfl) ?_
  refine zad ?_
  refine zab rfl rfl rfl (zac (.inl rfl) (ev1 rfl)) ?_
  refine zab rfl rfl rfl (op_build (ps := [(0, .tmp 8)]) rfl fl92 zr92 (vc (ev1 rfl) vn) rfl rfl) ?_
  refine zab rfl rfl rfl (op_mi rfl ni92 (ev1 rfl)) ?_
  refine walk_p rfl (op_pan rfl (ev1 rfl)) rfl ?_
  refine kpan0 rfl ?_
  rw [hr]; rfl
theorem turned_d (W H : Nat) (l : List C4) (hs : StOk W H l) : DFun Try.prog 49 [.agg [.val (.int .i64 (W : Int)), .val (.int .i64 (H : Int)), .slf 4 l.length (l.flatMap c4)]] [] (.agg [.val (.int .i64 (H : Int)), .val (.int .i64 (W : Int)), .slf 4 (turnL W H l).length ((turnL W H l).flatMap c4)]) [] := by
  have e : (turnL W H l).length = l.length := by rw [turnL_len, hs.len]; exact Nat.mul_comm ..
  rw [e]
  exact freeze (turned_o W H l hs) rfl
theorem flipped_d (W H : Nat) (l : List C4) (hs : StOk W H l) : DFun Try.prog 45 [.agg [.val (.int .i64 (W : Int)), .val (.int .i64 (H : Int)), .slf 4 l.length (l.flatMap c4)]] [] (.agg [.val (.int .i64 (W : Int)), .val (.int .i64 (H : Int)), .slf 4 (flipL W H l).length ((flipL W H l).flatMap c4)]) [] := by
  have e : (flipL W H l).length = l.length := by rw [flipL_len, hs.len]
  rw [e]
  exact freeze (flipped_o W H l hs) rfl
end Go.Proofs.Ytadjbiccndaclaa
namespace Go.Proofs.Ytadjbiccndaclaa
set_option linter.unusedVariables false
set_option linter.unusedSimpArgs false
open Go.RowKit
section
variable {P : Program} {s0 : St} {n : Cx}
/-- how a body leaves, or a jump to l -/
def QJ (P : Program) (s0 : St) (fn : Func) (post pan : D → List Blk → Prop) (l : Nat) (R : Act → World → Prop) : Exit → Act → World → Prop
  | .goto l', a, w => l' = l ∧ R a w
  | e, a, w => bodyPostM Fence.wide 0 P fn (Lv s0 post pan) e a w
def dbodyJ (P : Program) (s0 : St) (n : Cx) (fn : Func) (m : Nat) (post pan : D → List Blk → Prop) (l : Nat) (R : Act → World → Prop) (c : Code) (F : Fr) (M : List Blk) : Prop :=
  ∀ a w, Inv s0 n F M a w → c.wpIn Fence.wide 0 P (QJ P s0 fn post pan l R) a w
theorem wp_bodyJ {fn : Func} {c : Code} {F : Fr} {M : List Blk} {m l : Nat} {post pan : D → List Blk → Prop} {Jf : Fr → List Blk → Prop} (hr : n.r = none) (hle : s0.M.length ≤ m) (h : dwp P s0 n c F M (Kjmp l Jf (Kret P fn m n.U post pan))) {a : Act} {w : World} (hi : Inv s0 n F M a w) :
    c.wpIn Fence.wide 0 P (QJ P s0 fn post pan l fun a w => ∃ F' M', Inv s0 n F' M' a w ∧ Jf F' M') a w := by
  have h1 := h a w hi
  have : n.ρ s0 = none := by unfold Cx.ρ; rw [hr]
  rw [this] at h1
  refine wpIn_mono h1 ?_
  intro e a w hp
  cases e with
  | normal => obtain ⟨F, M, ⟨h0, s1, q1, q2, q3, q4, q5, q6⟩, hk⟩ := hp; subst q1 q2; exact leaves h0 hle a _ _ none _ _ _ q6 q3 q4 rfl hk
  | ret => obtain ⟨F, M, ⟨h0, s1, q1, q2, q3, q4, q5, q6⟩, hk⟩ := hp; subst q1 q2; exact leaves h0 hle a _ _ none _ _ _ q6 q3 q4 rfl hk
  | exit id => obtain ⟨_, _, _, hk⟩ := hp; exact hk
  | goto l' => obtain ⟨F', M', hi', rfl, hk⟩ := hp; exact ⟨rfl, F', M', hi', hk⟩
  | panic ch => obtain ⟨F, M, d, ⟨h0, s1, v, q1, q2, q3, q4, q5, q6, q7, q8⟩, hk⟩ := hp; subst q1 q2 q7; exact leaves h0 hle a _ _ (some d) _ _ _ q6 q3 q4 ⟨v, rfl, q8⟩ hk
  | outgrown => exact hp.elim
theorem dbodyJ_end {fn : Func} {c : Code} {F : Fr} {M : List Blk} {m l : Nat} {post pan : D → List Blk → Prop} {α : Type} {J : α → Fr} {JM : α → List Blk} {Pr : α → Prop} (hr : n.r = none) (hle : s0.M.length ≤ m)
    (h : dwp P s0 n c F M (Kjmp l (fun F' M' => ∃ y, Pr y ∧ ∀ a w, Inv s0 n F' M' a w → Inv s0 n (J y) (JM y) a w) (Kret P fn m n.U post pan))) : dbodyJ P s0 n fn m post pan l (fun a w => ∃ y, Pr y ∧ Inv s0 n (J y) (JM y) a w) c F M := by
  intro a w hi
  refine wpIn_mono (wp_bodyJ hr hle h hi) ?_
  intro e a w hp
  cases e with
  | goto l' => obtain ⟨rfl, F', M', hi', y, hy, hb⟩ := hp; exact ⟨rfl, y, hy, hb _ _ hi'⟩
  | normal => exact hp
  | ret => exact hp
  | exit id => exact hp
  | panic ch => exact hp
  | outgrown => exact hp
theorem dbodyJ_defer {fn : Func} {id : Nat} {l l0 : List Oper} {o : Oper} {y : Code} {x : Operand} {F : Fr} {M : List Blk} {m q : Nat} {post pan : D → List Blk → Prop} {R : Act → World → Prop} (hl : l = l0 ++ [o]) (ho : o.op = .defer { callee := .value x, args := #[], argTypes := #[] }) (hg : o.guard = none) (hdst : o.dst = none) (hr : n.r = none) (hle : s0.M.length ≤ m)
    (h : Walk P s0 n l.toArray l0 F M (Kseq (fun F1 M1 => ∃ f first caps k', Ev true F1 x (.fn (.func f) first caps) ∧ s0.M.length ≤ k' ∧ D.ltL k' (.fn (.func f) first caps :: n.U) = true ∧ dbodyJ P s0 ⟨n.n, none, k', .fn (.func f) first caps :: n.U, n.mks⟩ fn m post pan q R y F1 M1) (Kret P fn m n.U post pan))) :
    dbodyJ P s0 n fn m post pan q R (.seq (.region id l.toArray false) y) F M := by
  intro a w hi
  have h1 := h a w hi
  have hρ : n.ρ s0 = none := by unfold Cx.ρ; rw [hr]
  rw [hρ] at h1
  refine wpIn_seq (wpIn_region_lit ?_)
  have key := wpListIn_app (G := wd none) (k := 0) (P := P) (ops := l.toArray) (Q := Exit.then (fun a w => y.wpIn Fence.wide 0 P (QJ P s0 fn post pan q R) a w) (QJ P s0 fn post pan q R)) (l2 := [o]) ?_ ?_ ?_ l0 a w h1
  · rw [← hl] at key; exact key
  · intro a w hp
    obtain ⟨F1, M1, ⟨h0, s1, q1, q2, q3, q4, q5, q6⟩, f, first, caps, k', ⟨d', e1, e2⟩, hk, hlt, hy⟩ := hp
    subst q1 q2
    have hrep := e2 s1 _ rfl (ev_rep q4 e1)
    generalize hvx : a.eval x = vx at hrep
    cases hrep with
    | @fn _ _ _ vs us hl1 hl2 hr1 hr2 =>
      show if Region.wanted o (yielded l.toArray a.tmps) then _ else _
      have hw : Region.wanted o (yielded l.toArray a.tmps) = true := by unfold Region.wanted; rw [hg]
      rw [if_pos hw]
      refine ⟨fun _ _ => trivial, ?_⟩
      rw [show (wd none).round = none from rfl, run_defer ho hvx]
      rw [Oper.uponIn_defer, hdst]
      exact hy _ _ ⟨h0, s1, rfl, rfl, q3, q4, q5, .fn (.fn hl1 hl2 hr1 hr2) q6⟩
  · intro ch a w hp
    obtain ⟨F, M, d, ⟨h0, s1, v, q1, q2, q3, q4, q5, q6, q7, q8⟩, hk⟩ := hp
    subst q1 q2 q7
    exact leaves h0 hle a _ _ (some d) _ _ _ q6 q3 q4 ⟨v, rfl, q8⟩ hk
  · intro a w hp
    exact hp
theorem dbody_jumps {α : Type} {fn : Func} {c rest : Code} {F : Fr} {M : List Blk} {m : Nat} {post pan : D → List Blk → Prop} (nJ : Cx) (l : Nat) (hf : findLabel c l = some rest) (J : α → Fr) (JM : α → List Blk) (Pr : α → Prop) (μ : α → Nat) (hr : nJ.r = none) (hle : s0.M.length ≤ m)
    (first : dbodyJ P s0 n fn m post pan l (fun a w => ∃ y, Pr y ∧ Inv s0 nJ (J y) (JM y) a w) c F M)
    (pass : ∀ x, Pr x → dwp P s0 nJ rest (J x) (JM x) (Kjmp l (fun F' M' => ∃ y, Pr y ∧ μ y < μ x ∧ ∀ a w, Inv s0 nJ F' M' a w → Inv s0 nJ (J y) (JM y) a w) (Kret P fn m nJ.U post pan))) : dbody P s0 n fn m post pan (.scope c) F M := by
  intro a0 w0 hi0 b k cs hro hb hrr
  have f : ∀ (m : Machine), m.fenced P Fence.wide := fun _ => by rw [← wd_none]; exact wd_fenced
  have hg : gotoIn l (.inScope c :: k) = some (.code rest :: .inScope c :: k) := by simp [gotoIn, hf]
  have key : ∀ mm x a w, μ x = mm → Pr x → Inv s0 nJ (J x) (JM x) a w → ∃ e a' w', bodyPostM Fence.wide 0 P fn (Lv s0 post pan) e a' w' ∧ ArrivesIn (Machine.fenced P Fence.wide) P (lone (b.atR a (.code rest :: .inScope c :: k)) cs w) b k cs e a' w' := by
    intro mm
    induction mm using Nat.strongRecOn with
    | _ mm ih =>
      intro x a w hm hp hi
      obtain ⟨e, a₁, w₁, hq, harr⟩ := wp_bodyJ hr hle (pass x hp) hi b (.inScope c :: k) cs hro hb hrr
      cases e with
      | normal => exact ⟨.normal, a₁, w₁, hq, StepsIn.trans harr (.one (f _) stepR_inScope')⟩
      | exit id => exact hq.elim
      | goto l' =>
        obtain ⟨rfl, F', M', hi', y, hy, hlt, hback⟩ := hq
        obtain ⟨e₂, a₂, w₂, hq₂, harr₂⟩ := ih (μ y) (hm ▸ hlt) y a₁ w₁ rfl hy (hback _ _ hi')
        exact ⟨e₂, a₂, w₂, hq₂, .of_steps (harr.1 _ hg) harr₂⟩
      | ret => exact ⟨.ret, a₁, w₁, hq, harr⟩
      | panic ch => exact ⟨.panic ch, a₁, w₁, hq, harr⟩
      | outgrown => exact ⟨.outgrown, a₁, w₁, hq, harr⟩
  obtain ⟨e, a₁, w₁, hq, harr⟩ := first a0 w0 hi0 b (.inScope c :: k) cs hro hb hrr
  cases e with
  | normal => exact ⟨.normal, a₁, w₁, hq, .head (f _) stepR_scope' (StepsIn.trans harr (.one (f _) stepR_inScope'))⟩
  | exit id => exact hq.elim
  | goto l' =>
    obtain ⟨rfl, y, hy, hi'⟩ := hq
    obtain ⟨e₂, a₂, w₂, hq₂, harr₂⟩ := key _ y a₁ w₁ rfl hy hi'
    exact ⟨e₂, a₂, w₂, hq₂, .of_steps (.head (f _) stepR_scope' (harr.1 _ hg)) harr₂⟩
  | ret => exact ⟨.ret, a₁, w₁, hq, .of_steps (.one (f _) stepR_scope') harr⟩
  | panic ch => exact ⟨.panic ch, a₁, w₁, hq, .of_steps (.one (f _) stepR_scope') harr⟩
  | outgrown => exact ⟨.outgrown, a₁, w₁, hq, .of_steps (.one (f _) stepR_scope') harr⟩
end
end Go.Proofs.Ytadjbiccndaclaa
namespace Go.Proofs.Ytadjbiccndaclaa
set_option maxRecDepth 4000
set_option linter.unusedVariables false
set_option linter.unusedSimpArgs false
open Go.RowKit
theorem zr29 : zrC Try.prog 29 = some [.int .i64 0] := by kernel_rfl
set_option maxRecDepth 4000 in
set_option maxHeartbeats 1000000 in
theorem copied_o (W H : Nat) (l : List C4) (hs : StOk W H l) : DFun Try.prog 46 [.agg [.val (.int .i64 (W : Int)), .val (.int .i64 (H : Int)), .slf 4 l.length (l.flatMap c4)]] [] (.agg [.val (.int .i64 (W : Int)), .val (.int .i64 (H : Int)), .arr 0]) [.arr 38 4 (l).length ((l).flatMap c4)] := by
  have hle := hs.le
  refine dcalls_go (N := 23) 0 (by kernel_rfl) Try.func46 rfl rfl rfl (by simp only [fr0, Nat.zero_add, Nat.reduceAdd]; exact rfl) rfl fun s0 hs0 => ?_
  refine zaf ?_
  refine zai 2 (by simp only [holes, List.cons_append, List.nil_append]; exact rfl) ?_
  refine zad ?_
  refine zak rfl rfl rfl (op_boxam 0 rfl (ev1 rfl) rfl) (by simp only [upd, za, zaa]; exact rfl) ?_
  refine zak rfl rfl rfl (zal 1 rfl zr24 rfl) (by simp only [upd, za, zaa]; exact rfl) ?_
  refine zae ?_
  refine zaf ?_
  refine zai 2 (by simp only [holes, List.cons_append, List.nil_append]; exact rfl) ?_
  refine dwp_draw [([], []), ([], []), ([0], []), ([], []), ([], []), ([0], []), ([], []), ([], []), ([0], []), ([], []), ([2], [2]), ([], []), ([3], [3]), ([3], [3])] mixed (by kernel_rfl) ?_
  refine zag rfl rfl (op_fa rfl fo83_0 (ev1 rfl)) ?_
  refine zag rfl rfl (op_fa rfl fo24_0 (ev1 rfl)) ?_
  refine zag rfl rfl (op_ldm rfl tb3 (ev1 rfl) rfl rfl) ?_
  refine zag rfl rfl (op_fa rfl fo83_0 (ev1 rfl)) ?_
  refine zag rfl rfl (op_fa rfl fo24_1 (ev1 rfl)) ?_
  refine zag rfl rfl (op_ldm rfl tb3 (ev1 rfl) rfl rfl) ?_
  refine zag rfl rfl (op_fa rfl fo83_0 (ev1 rfl)) ?_
  refine zag rfl rfl (op_fa rfl fo24_2 (ev1 rfl)) ?_
  refine zag rfl rfl (op_ldm rfl tb22 (ev1 rfl) rfl rfl) ?_
  refine zag rfl rfl (op_len rfl sl22 (ev1 rfl)) ?_
  refine lex_w rfl rfl (op_mkg 2 (l.length) (.int .u8 0) rfl sl22 zr38 (by kernel_rfl) (by decide) (ev1 rfl) (ev1 rfl) (fun _ => rfl) (fun _ => rfl) rfl (fun _ => ⟨by omega, by omega⟩)) rfl (by simp only [upd, za, zaa]; exact rfl) ?_
  refine zag rfl rfl (op_bldD (ps := [(0, .tmp 6), (1, .tmp 9), (2, .tmp 14)]) rfl fl24 zr24 (ec (ev1 rfl) (ec (ev1 rfl) (ec (ev1 rfl) en))) rfl rfl rfl) ?_
  refine lex_w rfl rfl (zal 3 rfl zr24 rfl) rfl (by simp only [upd, za, zaa]; exact rfl) ?_
  refine lex_s rfl rfl (op_stam rfl tb24 (ev1 rfl) (ev1 rfl) rfl rfl rfl rfl) rfl (by simp only [upd, za, zaa]; exact rfl) ?_
  refine lex_nil ?_
  refine zaf ?_
  refine zad ?_
  refine zab rfl rfl rfl (op_fa rfl fo24_2 (ev1 rfl)) ?_
  refine zab rfl rfl rfl (op_ldm rfl tb22 (ev1 rfl) rfl rfl) ?_
  refine zab rfl rfl rfl (op_fa rfl fo83_0 (ev1 rfl)) ?_
  refine zab rfl rfl rfl (op_fa rfl fo24_2 (ev1 rfl)) ?_
  refine zab rfl rfl rfl (op_ldm rfl tb22 (ev1 rfl) rfl rfl) ?_
  refine zak rfl rfl rfl (op_cpw rfl sl22 (ev1 rfl) (ev1 rfl) rfl (flat_oc (fun _ => rfl) l) (by omega)) (by simp only [upd, za, zaa]; exact rfl) ?_
  refine zae ?_
  refine zaf ?_
  refine zad ?_
  refine zab rfl rfl rfl (op_ldmw rfl tb24 (ev1 rfl) rfl rfl) ?_
  refine walk_s rfl rfl (op_stam rfl tb24 (ev1 rfl) (ev1 rfl) rfl rfl rfl rfl) (by simp only [upd, za, zaa]; exact rfl) ?_
  refine zae ?_
  refine dwp_ret ?_
  refine kend [2] (rs1 rfl (rv_mw tb24 rfl rfl rfl)) rfl rfl ?_ ⟨rfl, trivial⟩
  rfl
set_option maxRecDepth 4000 in
set_option maxHeartbeats 1000000 in
theorem flip_o (W H : Nat) (l : List C4) (hs : StOk W H l) : DFun Try.prog 16 [.agg [.val (.int .i64 (W : Int)), .val (.int .i64 (H : Int)), .slf 4 l.length (l.flatMap c4)]] [] (.tup [.agg [.val (.int .i64 (W : Int)), .val (.int .i64 (H : Int)), .arr 0], .val (.int .i64 0)]) [.arr 38 4 (flipL W H l).length ((flipL W H l).flatMap c4)] := by
  refine dcalls_body (N := 11) 0 (by kernel_rfl) Try.func16 rfl rfl rfl (by simp only [fr0, Nat.zero_add, Nat.reduceAdd]; exact rfl) rfl fun s0 hs0 => ?_
  refine dbody_seq rfl hs0 ?_
  refine zai 3 (by simp only [holes, List.cons_append, List.nil_append]; exact rfl) ?_
  refine zad ?_
  refine zak rfl rfl rfl (op_boxam 0 rfl (ev1 rfl) rfl) (by simp only [upd, za, zaa]; exact rfl) ?_
  refine zak rfl rfl rfl (zal 1 rfl zr24 rfl) (by simp only [upd, za, zaa]; exact rfl) ?_
  refine zak rfl rfl rfl (zal 2 rfl zr29 rfl) (by simp only [upd, za, zaa]; exact rfl) ?_
  refine zae ?_
  refine dbody_defer (l0 := [_]) rfl rfl rfl rfl rfl hs0 ?_
  refine zab rfl rfl rfl (op_mkf rfl en (ec (ev1 rfl) en)) ?_
  refine zae ⟨_, _, _, 3, ev1 rfl, Nat.le_trans hs0 (by decide), rfl, ?_⟩
  have hs1 : s0.M.length ≤ 3 := Nat.le_trans hs0 (by decide)
  refine dbody_end rfl hs0 ?_
  refine zaf ?_
  refine zai 1 (by simp only [holes, List.cons_append, List.nil_append]; exact rfl) ?_
  refine zad ?_
  refine zab rfl rfl rfl (op_ldmw rfl tb24 (ev1 rfl) rfl rfl) ?_
  refine zab rfl rfl rfl (zaj [] [] [] rfl (ev1 rfl) (ec (ev1 rfl) en) rfl rfl (wOf_d W H l hs) rfl rfl rfl rfl rfl rfl) ?_
  refine zak rfl rfl rfl (zal 3 rfl zr83 rfl) (by simp only [upd, za, zaa]; exact rfl) ?_
  refine walk_s rfl rfl (op_stam rfl tb83 (ev1 rfl) (ev1 rfl) rfl rfl rfl rfl) (by simp only [upd, za, zaa]; exact rfl) ?_
  refine zae ?_
  refine zaf ?_
  have hf : StOk W H (flipL W H l) := flipS_ok (s := ⟨W, H, l⟩) hs
  refine zai 1 (by simp only [holes, List.cons_append, List.nil_append]; exact rfl) ?_
  refine zad ?_
  refine zab rfl rfl rfl (op_ldmw rfl tb83 (ev1 rfl) rfl rfl) ?_
  refine zab rfl rfl rfl (zaj [] [] [] rfl (ev1 rfl) (ec (ev1 rfl) en) rfl rfl (flipped_d W H l hs) rfl rfl rfl rfl rfl rfl) ?_
  refine zak rfl rfl rfl (zaj [] [] [4] rfl (ev1 rfl) (ec (ev1 rfl) en) rfl rfl (copied_o W H _ hf) rfl rfl rfl rfl rfl rfl) (by simp only [upd, za, zaa]; exact rfl) ?_
  refine walk_s rfl rfl (op_stam rfl tb24 (ev1 rfl) (ev1 rfl) rfl rfl rfl rfl) (by simp only [upd, za, zaa]; exact rfl) ?_
  refine walk_s rfl rfl (op_stwi rfl tb29 (ev1 rfl) (ev1 rfl) rfl) (by simp only [upd, za, zaa]; exact rfl) ?_
  refine zae ?_
  refine dwp_ret ?_
  refine kdef (dturn_idle [2] [] rfl rfl (sflip1_idle _) rfl rfl rfl rfl rfl) ?_
  refine kend [4] (rs2 rfl (rv_mw tb24 rfl rfl rfl) (rv_1 tb29 rfl rfl rfl)) rfl rfl ?_ ⟨rfl, trivial⟩
  rfl
set_option maxRecDepth 4000 in
set_option maxHeartbeats 1000000 in
theorem turn_no (w h : Int) (l : List C4) (q : Int) (hr : rightS w h l = false) : DFun Try.prog 19 [.agg [.val (.int .i64 w), .val (.int .i64 h), .slf 4 l.length (l.flatMap c4)], .val (.int .i64 q)] [] (.tup [.val (.agg #[.int .i64 0, .int .i64 0, .slice none 0 0]), .val (.int .i64 190)]) [] := by
  refine dcalls_body (N := 23) 0 (by kernel_rfl) Try.func19 rfl rfl rfl (by simp only [fr0, Nat.zero_add, Nat.reduceAdd]; exact rfl) rfl fun s0 hs0 => ?_
  refine dbody_seq rfl hs0 ?_
  refine zai 3 (by simp only [holes, List.cons_append, List.nil_append]; exact rfl) ?_
  refine zad ?_
  refine zak rfl rfl rfl (op_boxam 0 rfl (ev1 rfl) rfl) (by simp only [upd, za, zaa]; exact rfl) ?_
  refine zak rfl rfl rfl (zal 1 rfl zr24 rfl) (by simp only [upd, za, zaa]; exact rfl) ?_
  refine zak rfl rfl rfl (zal 2 rfl zr29 rfl) (by simp only [upd, za, zaa]; exact rfl) ?_
  refine zae ?_
  refine dbody_scope (m := 0) ?_
  refine dbody_defer (l0 := [_]) rfl rfl rfl rfl rfl hs0 ?_
  refine zab rfl rfl rfl (op_mkf rfl en (ec (ev1 rfl) en)) ?_
  refine zae ⟨_, _, _, 3, ev1 rfl, Nat.le_trans hs0 (by decide), rfl, ?_⟩
  have hs1 : s0.M.length ≤ 3 := Nat.le_trans hs0 (by decide)
  refine dbody_end rfl hs0 ?_
  refine zaf ?_
  refine zai 1 (by simp only [holes, List.cons_append, List.nil_append]; exact rfl) ?_
  refine zad ?_
  refine zab rfl rfl rfl (op_ldmw rfl tb24 (ev1 rfl) rfl rfl) ?_
  refine walk_p rfl (dop_callP [] [] [] rfl (ev1 rfl) (ec (ev1 rfl) en) rfl rfl (wOf_no w h l hr) rfl rfl rfl rfl rfl rfl) rfl ?_
  refine kdef (dturn_caught [2] [] rfl rfl rfl (sturn1_caught _ _) rfl rfl rfl rfl rfl) ?_
  refine kend0 (rs2 rfl (rv_w tb24 rfl rfl rfl) (rv_1 tb29 rfl rfl rfl)) rfl ?_
  rfl
def qN (q : Int) : Nat := ((q.tmod 4 + 4).tmod 4).toNat
theorem qN_eq (q : Int) : (-4 < q.tmod 4 ∧ q.tmod 4 < 4) ∧ (qN q : Int) = (q.tmod 4 + 4) % 4 ∧ qN q ≤ 3 := by
  have h1 : -4 < q.tmod 4 ∧ q.tmod 4 < 4 := by
    rcases Int.le_total 0 q with h | h
    · rw [Int.tmod_eq_emod_of_nonneg h]; omega
    · have e : q.tmod 4 = -((-q).tmod 4) := by rw [Int.neg_tmod]; omega
      rw [e, Int.tmod_eq_emod_of_nonneg (by omega)]; omega
  have h2 : (q.tmod 4 + 4).tmod 4 = (q.tmod 4 + 4) % 4 := Int.tmod_eq_emod_of_nonneg (by omega)
  unfold qN
  rw [h2]
  omega
theorem turnN_pred {n : Nat} (h : 0 < n) (s : StM) : turnN (n - 1) (turnS s) = turnN n s := by
  cases n with
  | zero => omega
  | succ n => rfl
set_option maxRecDepth 4000 in
set_option maxHeartbeats 1000000 in
theorem turn_o (s : StM) (hs : s.ok) (q : Int) : DFun Try.prog 19 [.agg [.val (.int .i64 (s.W : Int)), .val (.int .i64 (s.H : Int)), .slf 4 s.l.length (s.l.flatMap c4)], .val (.int .i64 q)] [] (.tup [.agg [.val (.int .i64 ((turnN (qN q) s).W : Int)), .val (.int .i64 ((turnN (qN q) s).H : Int)), .arr 0], .val (.int .i64 0)]) [.arr 38 4 ((turnN (qN q) s).l).length (((turnN (qN q) s).l).flatMap c4)] := by
  have hq := qN_eq q
  refine dcalls_body (N := 23) 0 (by kernel_rfl) Try.func19 rfl rfl rfl (by simp only [fr0, Nat.zero_add, Nat.reduceAdd]; exact rfl) rfl fun s0 hs0 => ?_
  refine dbody_seq rfl hs0 ?_
  refine zai 3 (by simp only [holes, List.cons_append, List.nil_append]; exact rfl) ?_
  refine zad ?_
  refine zak rfl rfl rfl (op_boxam 0 rfl (ev1 rfl) rfl) (by simp only [upd, za, zaa]; exact rfl) ?_
  refine zak rfl rfl rfl (zal 1 rfl zr24 rfl) (by simp only [upd, za, zaa]; exact rfl) ?_
  refine zak rfl rfl rfl (zal 2 rfl zr29 rfl) (by simp only [upd, za, zaa]; exact rfl) ?_
  refine zae ?_
  refine dbody_jumps (m := 0) (α := Nat × StM) ⟨23, none, 3, [.fn (.func 48) [] [.loc 2 0]], true⟩ 0 rfl (fun x => [(7, .val (.int .i64 (x.1 : Int)))] ++ [(2, .loc 0 0), (4, .loc 1 0), (5, .loc 2 0), (6, .loc 3 0)]) (fun x => upd [.mix 24 [.val (.int .i64 (s.W : Int)), .val (.int .i64 (s.H : Int)), .slf 4 s.l.length (s.l.flatMap c4)], .flat 24 [.int .i64 0, .int .i64 0, .slice none 0 0], .flat 29 [.int .i64 0], .hole] [(3, .mix 83 [.val (.int .i64 (x.2.W : Int)), .val (.int .i64 (x.2.H : Int)), .slf 4 x.2.l.length (x.2.l.flatMap c4)])]) (fun x => x.1 ≤ 3 ∧ x.2.ok ∧ turnN x.1 x.2 = turnN (qN q) s) (fun x => x.1) rfl hs0 ?_ (fun x hx => ?_)
  · refine dbodyJ_defer (l0 := [_]) rfl rfl rfl rfl rfl hs0 ?_
    refine zab rfl rfl rfl (op_mkf rfl en (ec (ev1 rfl) en)) ?_
    refine zae ⟨_, _, _, 3, ev1 rfl, Nat.le_trans hs0 (by decide), rfl, ?_⟩
    have hs1 : s0.M.length ≤ 3 := Nat.le_trans hs0 (by decide)
    refine dbodyJ_end rfl hs0 ?_
    refine zaf ?_
    refine zai 1 (by simp only [holes, List.cons_append, List.nil_append]; exact rfl) ?_
    refine zad ?_
    refine zab rfl rfl rfl (op_ldmw rfl tb24 (ev1 rfl) rfl rfl) ?_
    refine zab rfl rfl rfl (zaj [] [] [] rfl (ev1 rfl) (ec (ev1 rfl) en) rfl rfl (wOf_d s.W s.H s.l hs) rfl rfl rfl rfl rfl rfl) ?_
    refine zak rfl rfl rfl (zal 3 rfl zr83 rfl) (by simp only [upd, za, zaa]; exact rfl) ?_
    refine walk_s rfl rfl (op_stam rfl tb83 (ev1 rfl) (ev1 rfl) rfl rfl rfl rfl) (by simp only [upd, za, zaa]; exact rfl) ?_
    refine zae ?_
    refine zaf ?_
    refine zad ?_
    refine zab rfl rfl rfl (zac (.inl rfl) (ev1 rfl)) ?_
    refine zab rfl rfl rfl (op_rem rfl (ev1 rfl) (ev1 rfl) (fun _ => by omega)) ?_
    refine zab rfl rfl rfl (op_add' rfl (ev1 rfl) (ev1 rfl) (fun _ => IntWalk.i64_in _ (by omega))) ?_
    refine zab rfl rfl rfl (op_rem' rfl (ev1 rfl) (ev1 rfl) (fun _ => ⟨by omega, by omega⟩)) ?_
    refine zab rfl rfl rfl (zac (.inr rfl) (ev1 rfl)) ?_
    refine zae ?_
    refine zaf ?_
    refine dwp_label ?_
    refine zaf ?_
    refine zaf ?_
    refine zad ?_
    refine zab rfl rfl rfl (zac (.inl rfl) (ev1 rfl)) ?_
    refine zab rfl rfl rfl (op_gtr rfl (ev1 rfl) (ev1 rfl)) ?_
    refine zae ?_
    refine dwp_cond rfl (fun c1 => ?_) (fun c1 => ?_)
    · try simp only [decide_eq_true_eq, decide_eq_false_iff_not, beq_iff_eq, bne_iff_ne, beq_eq_false_iff_ne, bne_eq_false_iff_eq, Bool.not_eq_true', Bool.not_eq_false', Bool.and_eq_true, Bool.or_eq_true, Bool.or_eq_false_iff, ne_eq, Decidable.not_not, Int.not_lt, Int.not_le] at c1
      refine zaf ?_
      refine zad ?_
      refine zab rfl rfl rfl (op_ldmw rfl tb83 (ev1 rfl) rfl rfl) ?_
      refine zab rfl rfl rfl (zaj [] [] [] rfl (ev1 rfl) (ec (ev1 rfl) en) rfl rfl (turned_d s.W s.H s.l hs) rfl rfl rfl rfl rfl rfl) ?_
      refine walk_s rfl rfl (op_stmw rfl tb83 (ev1 rfl) (ev1 rfl) rfl rfl rfl rfl) (by simp only [upd, za, zaa]; exact rfl) ?_
      refine zae ?_
      refine zaf ?_
      refine zad ?_
      refine zab rfl rfl rfl (zac (.inl rfl) (ev1 rfl)) ?_
      refine zab rfl rfl rfl (op_sub' rfl (ev1 rfl) (ev1 rfl) (fun _ => IntWalk.i64_in _ (by omega))) ?_
      refine zab rfl rfl rfl (zac (.inr rfl) (ev1 rfl)) ?_
      refine zae ?_
      refine dwp_goto ⟨rfl, (qN q - 1, turnS s), ⟨by dsimp only; omega, turnS_ok hs, turnN_pred (by omega) s⟩, fun a w hi => inv_ren (σ := [0, 1, 2, 3]) hi ⟨hs1, rfl⟩ rfl ⟨congrArg (fun z => some (D.val (.int .i64 z))) (by dsimp only; omega), rfl, rfl, rfl, rfl, trivial⟩ ⟨rfl, rfl, rfl, rfl, trivial⟩⟩
    · try simp only [decide_eq_true_eq, decide_eq_false_iff_not, beq_iff_eq, bne_iff_ne, beq_eq_false_iff_ne, bne_eq_false_iff_eq, Bool.not_eq_true', Bool.not_eq_false', Bool.and_eq_true, Bool.or_eq_true, Bool.or_eq_false_iff, ne_eq, Decidable.not_not, Int.not_lt, Int.not_le] at c1
      refine dwp_skip ?_
      refine zaf ?_
      refine zai 1 (by simp only [holes, List.cons_append, List.nil_append]; exact rfl) ?_
      refine zad ?_
      refine zab rfl rfl rfl (op_ldmw rfl tb83 (ev1 rfl) rfl rfl) ?_
      refine zak rfl rfl rfl (zaj [] [] [4] rfl (ev1 rfl) (ec (ev1 rfl) en) rfl rfl (copied_o s.W s.H s.l hs) rfl rfl rfl rfl rfl rfl) (by simp only [upd, za, zaa]; exact rfl) ?_
      refine walk_s rfl rfl (op_stam rfl tb24 (ev1 rfl) (ev1 rfl) rfl rfl rfl rfl) (by simp only [upd, za, zaa]; exact rfl) ?_
      refine walk_s rfl rfl (op_stwi rfl tb29 (ev1 rfl) (ev1 rfl) rfl) (by simp only [upd, za, zaa]; exact rfl) ?_
      refine zae ?_
      refine dwp_ret ?_
      have e0 : qN q = 0 := by omega
      rw [e0]
      refine kdef (dturn_idle [2] [] rfl rfl (sturn1_idle _) rfl rfl rfl rfl rfl) ?_
      refine kend [4] (rs2 rfl (rv_mw tb24 rfl rfl rfl) (rv_1 tb29 rfl rfl rfl)) rfl rfl ?_ ⟨rfl, trivial⟩
      rfl
  · have hs1 : s0.M.length ≤ 3 := Nat.le_trans hs0 (by decide)
    simp only [upd, za, zaa, List.cons_append, List.nil_append]
    obtain ⟨r, u⟩ := x
    obtain ⟨hr, hu, he⟩ := hx
    dsimp only at hr hu he ⊢
    refine zaf ?_
    refine dwp_skip ?_
    refine zaf ?_
    refine zaf ?_
    refine zad ?_
    refine zab rfl rfl rfl (zac (.inl rfl) (ev1 rfl)) ?_
    refine zab rfl rfl rfl (op_gtr rfl (ev1 rfl) (ev1 rfl)) ?_
    refine zae ?_
    refine dwp_cond rfl (fun c2 => ?_) (fun c2 => ?_)
    · try simp only [decide_eq_true_eq, decide_eq_false_iff_not, beq_iff_eq, bne_iff_ne, beq_eq_false_iff_ne, bne_eq_false_iff_eq, Bool.not_eq_true', Bool.not_eq_false', Bool.and_eq_true, Bool.or_eq_true, Bool.or_eq_false_iff, ne_eq, Decidable.not_not, Int.not_lt, Int.not_le] at c2
      refine zaf ?_
      refine zad ?_
      refine zab rfl rfl rfl (op_ldmw rfl tb83 (ev1 rfl) rfl rfl) ?_
      refine zab rfl rfl rfl (zaj [] [] [] rfl (ev1 rfl) (ec (ev1 rfl) en) rfl rfl (turned_d u.W u.H u.l hu) rfl rfl rfl rfl rfl rfl) ?_
      refine walk_s rfl rfl (op_stmw rfl tb83 (ev1 rfl) (ev1 rfl) rfl rfl rfl rfl) (by simp only [upd, za, zaa]; exact rfl) ?_
      refine zae ?_
      refine zaf ?_
      refine zad ?_
      refine zab rfl rfl rfl (zac (.inl rfl) (ev1 rfl)) ?_
      refine zab rfl rfl rfl (op_sub' rfl (ev1 rfl) (ev1 rfl) (fun _ => IntWalk.i64_in _ (by omega))) ?_
      refine zab rfl rfl rfl (zac (.inr rfl) (ev1 rfl)) ?_
      refine zae ?_
      refine dwp_goto ⟨rfl, (r - 1, turnS u), ⟨by dsimp only; omega, turnS_ok hu, (turnN_pred (by omega) u).trans he⟩, by dsimp only; omega, fun a w hi => inv_ren (σ := [0, 1, 2, 3]) hi ⟨hs1, rfl⟩ rfl ⟨congrArg (fun z => some (D.val (.int .i64 z))) (by dsimp only; omega), rfl, rfl, rfl, rfl, trivial⟩ ⟨rfl, rfl, rfl, rfl, trivial⟩⟩
    · try simp only [decide_eq_true_eq, decide_eq_false_iff_not, beq_iff_eq, bne_iff_ne, beq_eq_false_iff_ne, bne_eq_false_iff_eq, Bool.not_eq_true', Bool.not_eq_false', Bool.and_eq_true, Bool.or_eq_true, Bool.or_eq_false_iff, ne_eq, Decidable.not_not, Int.not_lt, Int.not_le] at c2
      refine dwp_skip ?_
      refine zaf ?_
      refine zai 1 (by simp only [holes, List.cons_append, List.nil_append]; exact rfl) ?_
      refine zad ?_
      refine zab rfl rfl rfl (op_ldmw rfl tb83 (ev1 rfl) rfl rfl) ?_
      refine zak rfl rfl rfl (zaj [] [] [4] rfl (ev1 rfl) (ec (ev1 rfl) en) rfl rfl (copied_o u.W u.H u.l hu) rfl rfl rfl rfl rfl rfl) (by simp only [upd, za, zaa]; exact rfl) ?_
      refine walk_s rfl rfl (op_stam rfl tb24 (ev1 rfl) (ev1 rfl) rfl rfl rfl rfl) (by simp only [upd, za, zaa]; exact rfl) ?_
      refine walk_s rfl rfl (op_stwi rfl tb29 (ev1 rfl) (ev1 rfl) rfl) (by simp only [upd, za, zaa]; exact rfl) ?_
      refine zae ?_
      refine dwp_ret ?_
      have e0 : r = 0 := by omega
      subst e0
      rw [← he]
      refine kdef (dturn_idle [2] [] rfl rfl (sturn1_idle _) rfl rfl rfl rfl rfl) ?_
      refine kend [4] (rs2 rfl (rv_mw tb24 rfl rfl rfl) (rv_1 tb29 rfl rfl rfl)) rfl rfl ?_ ⟨rfl, trivial⟩
      rfl
end Go.Proofs.Ytadjbiccndaclaa
namespace Go.Proofs.Ytadjbiccndaclaa
set_option maxRecDepth 4000
set_option linter.unusedVariables false
set_option linter.unusedSimpArgs false
open Go.RowKit
theorem fo38_3 : fdO Try.prog 38 3 = some 3 := by kernel_rfl
theorem tb5 : tyB Try.prog 5 = some (false, 1) := by kernel_rfl
def ofB (w : Int) (l : List C4) : Bool := sideB w && (decide ((l.length : Int) % w = 0) && sideB ((l.length : Int) / w))
theorem ofB_ok {W H : Nat} {l : List C4} (hs : StOk W H l) : ofB (W : Int) l = true ∧ (l.length : Int) / (W : Int) = (H : Int) ∧ (l.length : Int) % (W : Int) = 0 := by
  have e1 : (l.length : Int) = (W : Int) * (H : Int) := by rw [hs.len, Int.natCast_mul]
  have hw := hs.w
  have hh := hs.h
  have e2 : (l.length : Int) / (W : Int) = (H : Int) := by rw [e1]; exact Int.mul_ediv_cancel_left _ (by omega)
  have e3 : (l.length : Int) % (W : Int) = 0 := by rw [e1]; exact Int.mul_emod_right _ _
  refine ⟨?_, e2, e3⟩
  unfold ofB
  rw [e2, e3, sideB_iff.2 (by omega), sideB_iff.2 (by omega)]
  rfl
set_option maxRecDepth 4000 in
set_option maxHeartbeats 1000000 in
theorem sof_o (W H : Nat) (l : List C4) (hs : StOk W H l) : DFun Try.prog 25 [.val (.int .i64 (W : Int)), .slf 4 l.length (l.flatMap c4)] [] (.tup [.agg [.val (.int .i64 (W : Int)), .val (.int .i64 (H : Int)), .arr 0], .val (.int .i64 0)]) [.arr 38 4 (l).length ((l).flatMap c4)] := by
  obtain ⟨hb, hq, hz⟩ := ofB_ok hs
  have hle := hs.le
  have hmw := hs.w
  have hmh := hs.h
  refine dcalls_go (N := 33) 0 (by kernel_rfl) Try.func25 rfl rfl rfl (by simp only [fr0, Nat.zero_add, Nat.reduceAdd]; exact rfl) rfl fun s0 hs0 => ?_
  refine dwp_len (t := 1) rfl fun hl1 hL1 => ?_
  refine zaf ?_
  refine zai 1 (by simp only [holes, List.cons_append, List.nil_append]; exact rfl) ?_
  refine zad ?_
  refine zak rfl rfl rfl (zal 0 rfl zr24 rfl) (by simp only [upd, za, zaa]; exact rfl) ?_
  refine zab rfl rfl rfl (zac (.inr rfl) (ev1 rfl)) ?_
  refine zae ?_
  refine zaf ?_
  refine zaf ?_
  refine zad ?_
  refine zab rfl rfl rfl (zac (.inl rfl) (ev1 rfl)) ?_
  refine zab rfl rfl rfl (zaj [] [] [] rfl (ev1 rfl) (ec (ev1 rfl) en) rfl rfl (side_d _) rfl rfl rfl rfl rfl rfl) ?_
  refine zab rfl rfl rfl (op_not rfl (ev1 rfl)) ?_
  refine zab rfl rfl rfl (zac (.inl rfl) (ev1 rfl)) ?_
  refine zah (gd_f rfl rfl rfl) rfl rfl rfl (zac (.inl rfl) (ev1 rfl)) ?_
  refine zah (gd_f rfl rfl rfl) rfl rfl rfl (op_len rfl sl22 (ev2 rfl)) ?_
  refine zah (gd_f rfl rfl rfl) rfl rfl rfl (zac (.inl rfl) (ev1 rfl)) ?_
  refine zah (gd_f rfl rfl rfl) rfl rfl rfl ((op_rem' rfl (ev2 rfl) (ev2 rfl) (fun _ => ⟨by omega, by omega⟩)).cast (d' := .val (.int .i64 0)) (by rw [hz])) ?_
  refine zah (gd_f rfl rfl rfl) rfl rfl rfl (op_neq rfl (ev2 rfl) (ev1 rfl)) ?_
  refine zab rfl rfl rfl (op_or rfl (ev1 rfl) (ev3 rfl id)) ?_
  refine zab rfl rfl rfl (zac (.inl rfl) (ev1 rfl)) ?_
  refine zah (gd_f rfl rfl rfl) rfl rfl rfl (zac (.inl rfl) (ev1 rfl)) ?_
  refine zah (gd_f rfl rfl rfl) rfl rfl rfl (op_len rfl sl22 (ev2 rfl)) ?_
  refine zah (gd_f rfl rfl rfl) rfl rfl rfl (zac (.inl rfl) (ev1 rfl)) ?_
  refine zah (gd_f rfl rfl rfl) rfl rfl rfl ((op_quo' rfl (ev2 rfl) (ev2 rfl) (fun _ => ⟨by omega, by omega, by rw [hq]; exact IntWalk.i64_in _ (by omega)⟩)).cast (d' := .val (.int .i64 (H : Int))) (by rw [hq])) ?_
  refine zah (gd_f rfl rfl rfl) rfl rfl rfl (zaj [] [] [] rfl (ev1 rfl) (ec (ev2 rfl) en) rfl rfl (side_d _) rfl rfl rfl rfl rfl rfl) ?_
  refine zah (gd_f rfl rfl rfl) rfl rfl rfl (op_not rfl (ev2 rfl)) ?_
  refine zab rfl rfl rfl (op_or rfl (ev1 rfl) (ev3 rfl id)) ?_
  refine zae ?_
  refine dwp_if_f rfl (by rw [sideB_iff.2 (show 1 ≤ (W : Int) ∧ (W : Int) ≤ 8 by omega), sideB_iff.2 (show 1 ≤ (H : Int) ∧ (H : Int) ≤ 8 by omega)]; rfl) ?_
  refine dwp_skip ?_
  refine zaf ?_
  refine zai 1 (by simp only [holes, List.cons_append, List.nil_append]; exact rfl) ?_
  refine dwp_draw [([], []), ([], []), ([], []), ([], []), ([], []), ([], []), ([1], [1]), ([], []), ([0], [0]), ([], [])] mixed (by kernel_rfl) ?_
  refine zag rfl rfl (zac (.inl rfl) (ev1 rfl)) ?_
  refine zag rfl rfl (zac (.inl rfl) (ev1 rfl)) ?_
  refine zag rfl rfl (op_len rfl sl22 (ev1 rfl)) ?_
  refine zag rfl rfl (zac (.inl rfl) (ev1 rfl)) ?_
  refine zag rfl rfl ((op_quo' rfl (ev1 rfl) (ev1 rfl) (fun _ => ⟨by omega, by omega, by rw [hq]; exact IntWalk.i64_in _ (by omega)⟩)).cast (d' := .val (.int .i64 (H : Int))) (by rw [hq])) ?_
  refine zag rfl rfl (zac (.inl rfl) (ev1 rfl)) ?_
  refine lex_w rfl rfl (zaj [] [] [1] rfl (ev1 rfl) (ec (ev1 rfl) en) rfl rfl (cloneC l (by omega)) rfl rfl rfl rfl rfl rfl) rfl (by simp only [upd, za, zaa]; exact rfl) ?_
  refine zag rfl rfl (op_bldD (ps := [(0, .tmp 25), (1, .tmp 29), (2, .tmp 31)]) rfl fl24 zr24 (ec (ev1 rfl) (ec (ev1 rfl) (ec (ev1 rfl) en))) rfl rfl rfl) ?_
  refine lex_s rfl rfl (op_stam rfl tb24 (ev1 rfl) (ev1 rfl) rfl rfl rfl rfl) rfl (by simp only [upd, za, zaa]; exact rfl) ?_
  refine zag rfl rfl (zac (.inr rfl) (ev1 rfl)) ?_
  refine lex_nil ?_
  refine dwp_ret ?_
  refine kend [1] (rs2 rfl (rv_mw tb24 rfl rfl rfl) (rv_t rfl)) rfl rfl ?_ ⟨rfl, trivial⟩
  rfl
def wearN (l : List C4) : Nat := (l.filter fun c => decide (0 < c.a)).length
theorem wearN_le (l : List C4) : wearN l ≤ l.length := List.length_filter_le ..
theorem wearN_add {l : List C4} {k : Nat} (h : k < l.length) : wearN (l.take (k + 1)) = wearN (l.take k) + if 0 < l[k].a then 1 else 0 := by
  rw [List.take_succ_eq_append_getElem h, wearN, List.filter_append, List.length_append, wearN]
  congr 1
  by_cases e : 0 < l[k].a
  · simp [e]
  · simp [e]
theorem rw_el {W H : Nat} {l : List C4} (hs : StOk W H l) {x y : Nat} (hx : x < W) (hy : y < H) (h : x < (rwL W l y).length) : ∃ h2 : y * W + x < l.length, (rwL W l y)[x] = l[y * W + x] := by
  have h1 := ix_lt hx hy
  have h2 : y * W + x < l.length := by rw [hs.len]; exact h1
  refine ⟨h2, ?_⟩
  rw [rwL_el hs hx hy h, getS, List.getD_eq_getElem?_getD, List.getElem?_eq_getElem h2]
  rfl
noncomputable def weaA : Code := rfA (pth [1, 1, 1, 0, 1, 0] (bodyOf Try.f15))
noncomputable def weaB : Code := rfB (pth [1, 1, 1, 0, 1, 0] (bodyOf Try.f15))
set_option maxRecDepth 4000 in
set_option maxHeartbeats 1000000 in
theorem weaRound (x y : Nat) (c : C4) (k : Nat) (hk : k ≤ 5000) : DRound Try.prog 0 [.val (.agg #[.int .i64 (x : Int), .int .i64 (y : Int)]), .val (.agg (c4 c).toArray)] [.lp 20 [(3, .loc 1 0)] #[12, 13] weaA weaB .ready none, .flat 3 [.int .i64 ((k : Nat) : Int)]] true [.lp 20 [(3, .loc 1 0)] #[12, 13] weaA weaB .ready none, .flat 3 [.int .i64 ((k + if 0 < c.a then 1 else 0 : Nat) : Int)]] := by
  refine dround_go 2 rfl rfl (by simp) rfl rfl fun s0 hs0 => ?_
  refine zai 1 (by simp only [holes, List.cons_append, List.nil_append]; exact rfl) ?_
  refine zad ?_
  refine zak rfl rfl rfl (zal 2 rfl zr38 rfl) (by simp only [upd, za, zaa]; exact rfl) ?_
  refine walk_s rfl rfl (op_stwa rfl tb38 (ev1 rfl) (ev1 rfl) rfl rfl rfl rfl) (by simp only [upd, za, zaa]; exact rfl) ?_
  refine zae ?_
  refine ⟨rfl, ?_⟩
  simp only [za, zaa]
  refine dwp_block ?_
  refine zaf ?_
  refine zad ?_
  refine zab rfl rfl rfl (op_fa rfl fo38_3 (ev1 rfl)) ?_
  refine zab rfl rfl rfl (op_ldo rfl tb5 (ev1 rfl) rfl rfl) ?_
  refine zab rfl rfl rfl (op_gtr rfl (ev1 rfl) (ev1 rfl)) ?_
  refine zae ?_
  refine dwp_cond rfl (fun c1 => ?_) (fun c1 => ?_)
  · have c2 : 0 < c.a := by simpa using c1
    rw [if_pos c2]
    refine zad ?_
    refine zab rfl rfl rfl (op_ldo rfl tb3 (ev1 rfl) rfl rfl) ?_
    refine zab rfl rfl rfl (op_add' rfl (ev1 rfl) (ev1 rfl) (fun _ => IntWalk.i64_in _ (by omega))) ?_
    refine walk_s rfl rfl (op_stwi rfl tb3 (ev1 rfl) (ev1 rfl) rfl) (by simp only [upd, za, zaa]; exact rfl) ?_
    refine zae ?_
    refine ⟨by first | rfl | assumption | simp_all, rfl, [0, 1], rfl, ⟨rfl, rfl, trivial⟩⟩
  · have c2 : ¬ 0 < c.a := by simpa using c1
    rw [if_neg c2]
    refine dwp_skip ?_
    refine ⟨by first | rfl | assumption | simp_all, rfl, [0, 1], rfl, ⟨rfl, rfl, trivial⟩⟩
set_option maxRecDepth 4000 in
set_option maxHeartbeats 1000000 in
theorem px_wear (W H : Nat) (l : List C4) (hs : StOk W H l) : DFun Try.prog 71 [.yld 0, .loc 2 0] [.lp 20 [(3, .loc 1 0)] #[12, 13] weaA weaB .ready none, .flat 3 [.int .i64 ((0 : Nat) : Int)], .mix 83 [.val (.int .i64 (W : Int)), .val (.int .i64 (H : Int)), .slf 4 l.length (l.flatMap c4)]] (.tup []) [.lp 20 [(3, .loc 1 0)] #[12, 13] weaA weaB .ready none, .flat 3 [.int .i64 ((wearN l : Nat) : Int)], .mix 83 [.val (.int .i64 (W : Int)), .val (.int .i64 (H : Int)), .slf 4 l.length (l.flatMap c4)]] := by
  have hln := hs.len
  have hmw := hs.w
  have hmh := hs.h
  have hle := hs.le
  refine dcalls_go (N := 30) 3 (by kernel_rfl) Try.func71 rfl rfl rfl (by simp only [fr0, Nat.zero_add, Nat.reduceAdd]; exact rfl) rfl fun s0 hs0 => ?_
  refine zaf ?_
  refine zad ?_
  refine zab rfl rfl rfl (op_fa rfl fo83_0 (ev1 rfl)) ?_
  refine zab rfl rfl rfl (op_fa rfl fo24_1 (ev1 rfl)) ?_
  refine zab rfl rfl rfl (op_ldm rfl tb3 (ev1 rfl) rfl rfl) ?_
  refine zab rfl rfl rfl (zac (.inl rfl) (ev1 rfl)) ?_
  refine zae ?_
  refine dwp_block ?_
  refine dwp_loopS ⟨hs0, rfl⟩ (α := Nat) (fun y => [(9, .val (.int .i64 (y : Int)))]) [(0, _), (1, _), (8, _)] (fun y => [(1, .flat 3 [.int .i64 ((wearN (l.take (y * W)) : Nat) : Int)])]) [_, .hole, _] (fun y => y ≤ H) (fun y => H - y) 0 [0, 1, 2] (Nat.zero_le _) rfl ⟨rfl, rfl, rfl, trivial⟩ ⟨rfl, trivial⟩ ⟨rfl, by rw [Nat.zero_mul]; rfl, rfl, trivial⟩ ?_
  intro y hx
  simp only [upd, za, zaa, List.cons_append, List.nil_append]
  have hy0 := hx
  refine zaf ?_
  refine zad ?_
  refine zab rfl rfl rfl (op_lss rfl (ev1 rfl) (ev1 rfl)) ?_
  refine zae ?_
  refine zaf ?_
  refine dwp_cond rfl (fun c1 => ?_) (fun c1 => ?_)
  · try simp only [decide_eq_true_eq, decide_eq_false_iff_not, beq_iff_eq, bne_iff_ne, beq_eq_false_iff_ne, bne_eq_false_iff_eq, Bool.not_eq_true', Bool.not_eq_false', Bool.and_eq_true, Bool.or_eq_true, Bool.or_eq_false_iff, ne_eq, Decidable.not_not, Int.not_lt, Int.not_le] at c1
    refine dwp_skip ?_
    refine zaf ?_
    refine dwp_block ?_
    refine zaf ?_
    refine zad ?_
    refine zab rfl rfl rfl (zac (.inl rfl) (ev1 rfl)) ?_
    refine zab rfl rfl rfl (zac (.inr rfl) (ev1 rfl)) ?_
    refine zae ?_
    refine zaf ?_
    have hy : y < H := by omega
    have hrl := rwL_len hs hy
    refine zad ?_
    refine zab rfl rfl rfl (op_ldmw rfl tb83 (ev1 rfl) rfl rfl) ?_
    refine zab rfl rfl rfl (zac (.inl rfl) (ev1 rfl)) ?_
    refine zab rfl rfl rfl (zaj [] [] [] rfl (ev1 rfl) (ec (ev1 rfl) (ec (ev1 rfl) en)) rfl rfl (row_d W H l hs y hy) rfl rfl rfl rfl rfl rfl) ?_
    refine zab rfl rfl rfl (op_len rfl sl22 (ev1 rfl)) ?_
    refine zab rfl rfl rfl (zac (.inl rfl) (ev1 rfl)) ?_
    refine zae ?_
    refine dwp_block ?_
    refine dwp_loopS ⟨hs0, rfl⟩ (α := Nat) (fun x => [(16, .val (.int .i64 (x : Int)))]) [(0, _), (1, _), (3, _), (8, _), (9, _), (14, _), (15, _)] (fun x => [(1, .flat 3 [.int .i64 ((wearN (l.take (y * W + x)) : Nat) : Int)])]) [_, .hole, _] (fun x => x ≤ W) (fun x => W - x) 0 [0, 1, 2] (Nat.zero_le _) rfl ⟨rfl, rfl, rfl, rfl, rfl, rfl, rfl, trivial⟩ ⟨rfl, trivial⟩ ⟨rfl, by rw [Nat.add_zero]; rfl, rfl, trivial⟩ ?_
    intro x hx
    simp only [upd, za, zaa, List.cons_append, List.nil_append]
    have hx0 := hx
    clear hx
    have hwl := wearN_le (l.take (y * W + x))
    rw [List.length_take] at hwl
    refine zaf ?_
    refine zad ?_
    refine zab rfl rfl rfl (op_lss rfl (ev1 rfl) (ev1 rfl)) ?_
    refine zae ?_
    refine zaf ?_
    refine dwp_cond rfl (fun c2 => ?_) (fun c2 => ?_)
    · try simp only [decide_eq_true_eq, decide_eq_false_iff_not, beq_iff_eq, bne_iff_ne, beq_eq_false_iff_ne, bne_eq_false_iff_eq, Bool.not_eq_true', Bool.not_eq_false', Bool.and_eq_true, Bool.or_eq_true, Bool.or_eq_false_iff, ne_eq, Decidable.not_not, Int.not_lt, Int.not_le] at c2
      refine dwp_skip ?_
      refine zaf ?_
      refine dwp_block ?_
      refine zaf ?_
      have hx : x < W := by omega
      obtain ⟨hkl, hel⟩ := rw_el hs hx hy (by omega)
      refine zai 1 (by simp only [holes, List.cons_append, List.nil_append]; exact rfl) ?_
      refine zad ?_
      refine zab rfl rfl rfl (zac (.inl rfl) (ev1 rfl)) ?_
      refine zab rfl rfl rfl (op_ixsr (j := x) rfl sl22 (ev1 rfl) (ev1 rfl) (fun _ => rfl) (by decide) (by omega) (by omega)) ?_
      refine zab rfl rfl rfl (op_ldwd rfl tb38 (ev1 rfl) rfl) ?_
      refine zak rfl rfl rfl (zal 3 rfl zr38 rfl) (by simp only [upd, za, zaa]; exact rfl) ?_
      refine zab rfl rfl rfl (zac (.inr rfl) (ev1 rfl)) ?_
      refine walk_s rfl rfl (op_stwa rfl tb38 (ev1 rfl) (ev1 rfl) rfl rfl rfl rfl) (by simp only [upd, za, zaa]; exact rfl) ?_
      refine zae ?_
      refine zaf ?_
      refine zad ?_
      refine zab rfl rfl rfl (zac (.inl rfl) (ev1 rfl)) ?_
      refine zab rfl rfl rfl (zac (.inl rfl) (ev1 rfl)) ?_
      refine zab rfl rfl rfl (zac (.inl rfl) (ev1 rfl)) ?_
      refine zab rfl rfl rfl (op_build (ps := [(0, .tmp 22), (1, .tmp 23)]) rfl fl36 zr36 (vc (ev1 rfl) (vc (ev1 rfl) vn)) rfl rfl) ?_
      refine zab rfl rfl rfl (op_ldw rfl tb38 (ev1 rfl) rfl rfl) ?_
      refine zak rfl rfl rfl (op_y (i := 0) [0, 1] [] [] rfl (ev1 rfl) (ec (ev1 rfl) (ec (ev1 rfl) en)) rfl rfl rfl (weaRound x y (rwL W l y)[x] _ (by omega)) rfl rfl rfl rfl rfl) (by simp only [upd, za, zaa]; exact rfl) ?_
      refine zab rfl rfl rfl (op_not rfl (ev1 rfl)) ?_
      refine zae ?_
      refine dwp_if_f rfl (rfl) ?_
      refine dwp_skip ?_
      refine zad ?_
      refine zab rfl rfl rfl (op_add' rfl (ev1 rfl) (ev1 rfl) (fun _ => IntWalk.i64_in _ (by omega))) ?_
      refine zab rfl rfl rfl (zac (.inl rfl) (ev1 rfl)) ?_
      refine zae ?_
      refine ⟨x + 1, [0, 1, 2], by omega, by simp only []; omega, rfl, ⟨rfl, rfl, rfl, rfl, rfl, rfl, rfl, rfl, trivial⟩, ⟨rfl, by rw [← Nat.add_assoc, wearN_add hkl, ← hel]; rfl, rfl, trivial⟩⟩
    · try simp only [decide_eq_true_eq, decide_eq_false_iff_not, beq_iff_eq, bne_iff_ne, beq_eq_false_iff_ne, bne_eq_false_iff_eq, Bool.not_eq_true', Bool.not_eq_false', Bool.and_eq_true, Bool.or_eq_true, Bool.or_eq_false_iff, ne_eq, Decidable.not_not, Int.not_lt, Int.not_le] at c2
      refine dwp_exit ?_
      refine zad ?_
      refine zab rfl rfl rfl (op_add' rfl (ev1 rfl) (ev1 rfl) (fun _ => IntWalk.i64_in _ (by omega))) ?_
      refine zab rfl rfl rfl (zac (.inl rfl) (ev1 rfl)) ?_
      refine zae ?_
      obtain rfl : x = W := by omega
      refine ⟨y + 1, [0, 1, 2], by omega, by simp only []; omega, rfl, ⟨rfl, rfl, rfl, rfl, trivial⟩, ⟨rfl, by rw [Nat.succ_mul]; rfl, rfl, trivial⟩⟩
  · try simp only [decide_eq_true_eq, decide_eq_false_iff_not, beq_iff_eq, bne_iff_ne, beq_eq_false_iff_ne, bne_eq_false_iff_eq, Bool.not_eq_true', Bool.not_eq_false', Bool.and_eq_true, Bool.or_eq_true, Bool.or_eq_false_iff, ne_eq, Decidable.not_not, Int.not_lt, Int.not_le] at c1
    refine dwp_exit ?_
    obtain rfl : y = H := by omega
    refine kend [0, 1, 2] (res_none rfl) rfl rfl ?_ ⟨?_, ?_, ?_, trivial⟩
    rfl
    all_goals first | exact rfl | (rw [Nat.mul_comm y W, ← hln, List.take_length]; exact rfl)
set_option maxRecDepth 4000 in
set_option maxHeartbeats 1000000 in
theorem wears_ok (W H : Nat) (l : List C4) (hs : StOk W H l) : DFun Try.prog 15 [.agg [.val (.int .i64 (W : Int)), .val (.int .i64 (H : Int)), .slf 4 l.length (l.flatMap c4)]] [] (.val (.int .i64 (wearN l : Int))) [] := by
  have hr := hs.right
  refine dcalls_go (N := 20) 0 (by kernel_rfl) Try.func15 rfl rfl rfl (by simp only [fr0, Nat.zero_add, Nat.reduceAdd]; exact rfl) rfl fun s0 hs0 => ?_
  refine zaf ?_
  refine zai 1 (by simp only [holes, List.cons_append, List.nil_append]; exact rfl) ?_
  refine zad ?_
  refine zak rfl rfl rfl (op_boxam 0 rfl (ev1 rfl) rfl) (by simp only [upd, za, zaa]; exact rfl) ?_
  refine zab rfl rfl rfl (zac (.inr rfl) (ev1 rfl)) ?_
  refine zae ?_
  refine zaf ?_
  refine zaf ?_
  refine zad ?_
  refine zab rfl rfl rfl (op_ldmw rfl tb24 (ev1 rfl) rfl rfl) ?_
  refine zab rfl rfl rfl (zaj [] [] [] rfl (ev1 rfl) (ec (ev1 rfl) en) rfl rfl (scheck_d _ _ _) rfl rfl rfl rfl rfl rfl) ?_
  refine zab rfl rfl rfl (op_neq rfl (ev1 rfl) (ev1 rfl)) ?_
  refine zae ?_
  refine dwp_if_f rfl (by rw [hr]; rfl) ?_
  refine dwp_skip ?_
  refine zaf ?_
  refine zai 1 (by simp only [holes, List.cons_append, List.nil_append]; exact rfl) ?_
  refine zad ?_
  refine zak rfl rfl rfl (zal 1 rfl zr3 rfl) (by simp only [upd, za, zaa]; exact rfl) ?_
  refine walk_s rfl rfl (op_stwi rfl tb3 (ev1 rfl) (ev1 rfl) rfl) (by simp only [upd, za, zaa]; exact rfl) ?_
  refine zae ?_
  refine zaf ?_
  refine zaf ?_
  refine zai 1 (by simp only [holes, List.cons_append, List.nil_append]; exact rfl) ?_
  refine zad ?_
  refine zab rfl rfl rfl (op_ldmw rfl tb24 (ev1 rfl) rfl rfl) ?_
  refine zab rfl rfl rfl (op_bldA rfl (ev1 rfl) fl83 zr83 rfl) ?_
  refine zak rfl rfl rfl (zaj [] [] [2] rfl (ev1 rfl) (ec (ev1 rfl) en) rfl rfl (pixels_d W H l) rfl rfl rfl rfl rfl rfl) (by simp only [upd, za, zaa]; exact rfl) ?_
  refine zae ?_
  refine dwp_block ?_
  refine dwp_hole ?_
  simp only [List.cons_append, List.nil_append]
  refine dwp_rf (FL := [(3, _)]) (st := .ready) (pe := none) [3, 1, 2] [] [] 3 rfl rfl (ev1 rfl) rfl (subF_lk ⟨rfl, trivial⟩) rfl rfl rfl (px_wear W H l hs) rfl rfl rfl rfl rfl rfl rfl (by simp) (fun e => ?_) (fun c e => ?_)
  · simp only [upd, za, zaa]
    refine zaf ?_
    refine zad ?_
    refine zab rfl rfl rfl (op_ldo rfl tb3 (ev1 rfl) rfl rfl) ?_
    refine zab rfl rfl rfl (zac (.inr rfl) (ev1 rfl)) ?_
    refine zae ?_
    refine dwp_ret ?_
    refine kend0 (rs1 rfl (rv_t rfl)) rfl ?_
    rfl
  · cases e
end Go.Proofs.Ytadjbiccndaclaa
namespace Go.Proofs.Ytadjbiccndaclaa
set_option maxRecDepth 4000
set_option linter.unusedVariables false
set_option linter.unusedSimpArgs false
open Go.RowKit
theorem turnN_succ (k : Nat) (s : StM) : turnN (k + 1) s = turnS (turnN k s) := by rw [← turnN_add k 1]; rfl
def C4.rng (c : C4) : Prop := (0 ≤ c.r ∧ c.r ≤ 255) ∧ (0 ≤ c.g ∧ c.g ≤ 255) ∧ (0 ≤ c.b ∧ c.b ≤ 255) ∧ 0 ≤ c.a ∧ c.a ≤ 255
end Go.Proofs.Ytadjbiccndaclaa
namespace Go.Proofs.Ytadjbiccndaclaa
set_option maxRecDepth 4000
set_option linter.unusedVariables false
set_option linter.unusedSimpArgs false
open Go.RowKit
set_option maxRecDepth 4000 in
set_option maxHeartbeats 1000000 in
theorem row_o (W H : Nat) (l : List C4) (hs : StOk W H l) (y : Nat) (hy : y < H) : DFun Try.prog 47 [.agg [.val (.int .i64 (W : Int)), .val (.int .i64 (H : Int)), .arr 0], .val (.int .i64 (y : Int))] [.arr 38 4 (l).length ((l).flatMap c4)] (.own 0 4 (y * W) W) [.arr 38 4 (l).length ((l).flatMap c4)] := by
  have hle := hs.le
  have hln := hs.len
  have hmw := hs.w
  have hmh := hs.h
  have hi1 : (y + 1) * W ≤ H * W := Nat.mul_le_mul_right _ hy
  rw [Nat.mul_comm H W] at hi1
  have hi0 : (y + 1) * W = y * W + W := Nat.succ_mul y W
  have hm1 := mulc y W
  have hm2 : ((y : Int) + 1) * (W : Int) = (((y + 1) * W : Nat) : Int) := by rw [Int.natCast_mul]; rfl
  refine dcalls_go (N := 25) 1 (by kernel_rfl) Try.func47 rfl rfl rfl (by simp only [fr0, Nat.zero_add, Nat.reduceAdd]; exact rfl) rfl fun s0 hs0 => ?_
  refine zaf ?_
  refine zai 1 (by simp only [holes, List.cons_append, List.nil_append]; exact rfl) ?_
  refine zad ?_
  refine zak rfl rfl rfl (op_boxam 1 rfl (ev1 rfl) rfl) (by simp only [upd, za, zaa]; exact rfl) ?_
  refine zab rfl rfl rfl (zac (.inr rfl) (ev1 rfl)) ?_
  refine zae ?_
  refine zaf ?_
  refine dwp_draw [([], []), ([], []), ([], []), ([1], []), ([], []), ([], []), ([], []), ([], []), ([], []), ([1], []), ([], []), ([], []), ([], [])] mixed (by kernel_rfl) ?_
  refine zag rfl rfl (zac (.inl rfl) (ev1 rfl)) ?_
  refine zag rfl rfl (op_fa rfl fo83_0 (ev1 rfl)) ?_
  refine zag rfl rfl (op_fa rfl fo24_0 (ev1 rfl)) ?_
  refine zag rfl rfl (op_ldm rfl tb3 (ev1 rfl) rfl rfl) ?_
  refine zag rfl rfl (op_mul' rfl (ev1 rfl) (ev1 rfl) (fun _ => IntWalk.i64_in _ (by omega))) ?_
  refine zag rfl rfl (zac (.inl rfl) (ev1 rfl)) ?_
  refine zag rfl rfl (op_add' rfl (ev1 rfl) (ev1 rfl) (fun _ => IntWalk.i64_in _ (by omega))) ?_
  refine zag rfl rfl (op_fa rfl fo83_0 (ev1 rfl)) ?_
  refine zag rfl rfl (op_fa rfl fo24_0 (ev1 rfl)) ?_
  refine zag rfl rfl (op_ldm rfl tb3 (ev1 rfl) rfl rfl) ?_
  refine zag rfl rfl (op_mul' rfl (ev1 rfl) (ev1 rfl) (fun _ => IntWalk.i64_in _ (by omega))) ?_
  refine zag rfl rfl (zac (.inr rfl) (ev1 rfl)) ?_
  refine zag rfl rfl (zac (.inr rfl) (ev1 rfl)) ?_
  refine lex_nil ?_
  refine zaf ?_
  refine zad ?_
  refine zab rfl rfl rfl (op_fa rfl fo83_0 (ev1 rfl)) ?_
  refine zab rfl rfl rfl (op_fa rfl fo24_2 (ev1 rfl)) ?_
  refine zab rfl rfl rfl (op_ldm rfl tb22 (ev1 rfl) rfl rfl) ?_
  refine zab rfl rfl rfl (zac (.inl rfl) (ev1 rfl)) ?_
  refine zab rfl rfl rfl (zac (.inl rfl) (ev1 rfl)) ?_
  refine zab rfl rfl rfl (zac (.inl rfl) (ev1 rfl)) ?_
  refine zab rfl rfl rfl (op_sla3 (i := y * W) (j := (y + 1) * W) rfl sl22 (ev1 rfl) rfl (ev1 rfl) (ev1 rfl) (ev1 rfl) (fun hp => by first | omega | (simp at hp; omega)) (fun hp => by first | omega | (simp at hp; omega)) (fun hp => by first | omega | (simp at hp; omega)) (fun hp => by first | omega | (simp at hp; omega))) ?_
  refine zab rfl rfl rfl (zac (.inr rfl) (ev1 rfl)) ?_
  refine zae ?_
  refine dwp_ret ?_
  rw [show (y + 1) * W - y * W = W by omega]
  refine kend [0] (rs1 rfl (rv_t rfl)) rfl rfl ?_ ⟨rfl, trivial⟩
  rfl
structure CutOk (w h x y : Int) (W H : Nat) : Prop where
  hw : 1 ≤ W ∧ W ≤ 8
  hh : 1 ≤ H ∧ H ≤ 8
  hx : 0 ≤ x ∧ x + (W : Int) ≤ w * 8
  hy : 0 ≤ y ∧ y + (H : Int) ≤ h * 8
def cutL (w : Int) (ts : List TL) (x y : Int) (W H : Nat) : List C4 := (List.range (W * H)).map fun k => getC w ts (x + (k % W : Nat)) (y + (k / W : Nat))
theorem cutL_len (w : Int) (ts : List TL) (x y : Int) (W H : Nat) : (cutL w ts x y W H).length = W * H := by rw [cutL, List.length_map, List.length_range]
theorem get_cut {w : Int} {ts : List TL} {x y : Int} {W H i j : Nat} (hi : i < W) (hj : j < H) : getS W (cutL w ts x y W H) i j = getC w ts (x + i) (y + j) := by
  have hk : j * W + i < W * H := ix_lt hi hj
  rw [getS, cutL, List.getD_eq_getElem?_getD, List.getElem?_map, List.getElem?_range hk]
  show getC w ts (x + (((j * W + i) % W : Nat) : Int)) (y + (((j * W + i) / W : Nat) : Int)) = _
  rw [ix_div hi, ix_mod hi]
def padL (l : List C4) (k : Nat) : List C4 := l.take k ++ List.replicate (l.length - k) zC4
theorem padL_len {l : List C4} {k : Nat} (h : k ≤ l.length) : (padL l k).length = l.length := by rw [padL, List.length_append, List.length_take, List.length_replicate]; omega
theorem padL_0 (l : List C4) : padL l 0 = List.replicate l.length zC4 := by rw [padL, List.take_zero, Nat.sub_zero, List.nil_append]
theorem padL_end (l : List C4) : padL l l.length = l := by rw [padL, List.take_length, Nat.sub_self, List.replicate_zero, List.append_nil]
theorem padL_set {l : List C4} {k : Nat} (h : k < l.length) : (padL l k).set k l[k] = padL l (k + 1) := by
  unfold padL
  have e : (l.take k).length = k := by rw [List.length_take]; omega
  rw [List.set_append_right _ _ (by omega), e, Nat.sub_self, List.take_succ_eq_append_getElem h, show l.length - k = (l.length - (k + 1)) + 1 by omega, List.replicate_succ, za, List.append_assoc]
  rfl
theorem cut_set {w : Int} {ts : List TL} {x y : Int} {W H i j : Nat} (hi : i < W) (hj : j < H) : padL (cutL w ts x y W H) (j * W + (i + 1)) = (padL (cutL w ts x y W H) (j * W + i)).set (j * W + i) (getC w ts (x + i) (y + j)) := by
  have hk : j * W + i < W * H := ix_lt hi hj
  have h := padL_set (l := cutL w ts x y W H) (k := j * W + i) (by rw [cutL_len]; exact hk)
  rw [← Nat.add_assoc, ← h]
  congr 1
  have := get_cut (w := w) (ts := ts) (x := x) (y := y) hi hj
  rw [getS, List.getD_eq_getElem?_getD, List.getElem?_eq_getElem (by rw [cutL_len]; exact hk)] at this
  exact this
set_option maxRecDepth 4000 in
set_option maxHeartbeats 1000000 in
theorem cut_o (w h : Int) (ds : List D) (ts : List TL) (hr : RowOk ds ts) (hc : CvOk w h ts) (x y : Int) (W H : Nat) (hk : CutOk w h x y W H) : DFun Try.prog 28 [cvD w h ds, .val (.int .i64 x), .val (.int .i64 y), .val (.int .i64 (W : Int)), .val (.int .i64 (H : Int))] [] (.tup [.agg [.val (.int .i64 (W : Int)), .val (.int .i64 (H : Int)), .arr 0], .val (.int .i64 0)]) [.arr 38 4 (cutL w ts x y W H).length ((cutL w ts x y W H).flatMap c4)] := by
  have hb := mayS_b hc.may
  have hkw := hk.hw
  have hkh := hk.hh
  have hkx := hk.hx
  have hky := hk.hy
  have hwh := mul_le64 hkw.2 hkh.2
  have hm1 := mulc W H
  have hcl := cutL_len w ts x y W H
  refine dcalls_body (N := 95) 0 (by kernel_rfl) Try.func28 rfl rfl rfl (by simp only [fr0, Nat.zero_add, Nat.reduceAdd]; exact rfl) rfl fun s0 hs0 => ?_
  refine dbody_seq rfl hs0 ?_
  refine zai 2 (by simp only [holes, List.cons_append, List.nil_append]; exact rfl) ?_
  refine zad ?_
  refine zak rfl rfl rfl (zal 0 rfl zr24 rfl) (by simp only [upd, za, zaa]; exact rfl) ?_
  refine zak rfl rfl rfl (zal 1 rfl zr29 rfl) (by simp only [upd, za, zaa]; exact rfl) ?_
  refine zae ?_
  refine dbody_defer (l0 := [_]) rfl rfl rfl rfl rfl hs0 ?_
  refine zab rfl rfl rfl (op_mkf rfl en (ec (ev1 rfl) en)) ?_
  refine zae ⟨_, _, _, 2, ev1 rfl, Nat.le_trans hs0 (by decide), rfl, ?_⟩
  have hs1 : s0.M.length ≤ 2 := Nat.le_trans hs0 (by decide)
  refine dbody_end rfl hs0 ?_
  refine zaf ?_
  refine zaf ?_
  refine zad ?_
  refine zab rfl rfl rfl (zac (.inl rfl) (ev1 rfl)) ?_
  refine zab rfl rfl rfl (op_pnilm rfl pt62 (ev1 rfl)) ?_
  refine zae ?_
  refine dwp_if_f rfl (rfl) ?_
  refine dwp_skip ?_
  refine zaf ?_
  refine zad ?_
  refine zab rfl rfl rfl (zac (.inl rfl) (ev1 rfl)) ?_
  refine zab rfl rfl rfl (zaj [] [] [] rfl (ev1 rfl) (ec (ev1 rfl) en) rfl rfl (size_d w h ds ts hr hc) rfl rfl rfl rfl rfl rfl) ?_
  refine zab rfl rfl rfl (zac (.inl rfl) (ev1 rfl)) ?_
  refine zab rfl rfl rfl (op_ext rfl (ev1 rfl) rfl) ?_
  refine zab rfl rfl rfl (op_ext rfl (ev1 rfl) rfl) ?_
  refine zab rfl rfl rfl (zac (.inr rfl) (ev1 rfl)) ?_
  refine zab rfl rfl rfl (zac (.inr rfl) (ev1 rfl)) ?_
  refine zae ?_
  refine zaf ?_
  refine zaf ?_
  refine zad ?_
  refine zab rfl rfl rfl (zac (.inl rfl) (ev1 rfl)) ?_
  refine zab rfl rfl rfl (zaj [] [] [] rfl (ev1 rfl) (ec (ev1 rfl) en) rfl rfl (side_d _) rfl rfl rfl rfl rfl rfl) ?_
  refine zab rfl rfl rfl (op_not rfl (ev1 rfl)) ?_
  refine zab rfl rfl rfl (zac (.inl rfl) (ev1 rfl)) ?_
  refine zah (gd_f rfl rfl rfl) rfl rfl rfl (zac (.inl rfl) (ev1 rfl)) ?_
  refine zah (gd_f rfl rfl rfl) rfl rfl rfl (zaj [] [] [] rfl (ev1 rfl) (ec (ev2 rfl) en) rfl rfl (side_d _) rfl rfl rfl rfl rfl rfl) ?_
  refine zah (gd_f rfl rfl rfl) rfl rfl rfl (op_not rfl (ev2 rfl)) ?_
  refine zab rfl rfl rfl (op_or rfl (ev1 rfl) (ev3 rfl id)) ?_
  refine zab rfl rfl rfl (zac (.inl rfl) (ev1 rfl)) ?_
  refine zah (gd_f rfl rfl rfl) rfl rfl rfl (zac (.inl rfl) (ev1 rfl)) ?_
  refine zah (gd_f rfl rfl rfl) rfl rfl rfl (op_lss rfl (ev2 rfl) (ev1 rfl)) ?_
  refine zab rfl rfl rfl (op_or rfl (ev1 rfl) (ev3 rfl id)) ?_
  refine zab rfl rfl rfl (zac (.inl rfl) (ev1 rfl)) ?_
  refine zah (gd_f rfl rfl rfl) rfl rfl rfl (zac (.inl rfl) (ev1 rfl)) ?_
  refine zah (gd_f rfl rfl rfl) rfl rfl rfl (zac (.inl rfl) (ev1 rfl)) ?_
  refine zah (gd_f rfl rfl rfl) rfl rfl rfl (zac (.inl rfl) (ev1 rfl)) ?_
  refine zah (gd_f rfl rfl rfl) rfl rfl rfl (op_sub' rfl (ev2 rfl) (ev2 rfl) (fun hp => IntWalk.i64_in _ (by first | omega | (simp at hp; omega)))) ?_
  refine zah (gd_f rfl rfl rfl) rfl rfl rfl (op_gtr rfl (ev2 rfl) (ev2 rfl)) ?_
  refine zab rfl rfl rfl (op_or rfl (ev1 rfl) (ev3 rfl id)) ?_
  refine zab rfl rfl rfl (zac (.inl rfl) (ev1 rfl)) ?_
  refine zah (gd_f rfl rfl rfl) rfl rfl rfl (zac (.inl rfl) (ev1 rfl)) ?_
  refine zah (gd_f rfl rfl rfl) rfl rfl rfl (op_lss rfl (ev2 rfl) (ev1 rfl)) ?_
  refine zab rfl rfl rfl (op_or rfl (ev1 rfl) (ev3 rfl id)) ?_
  refine zab rfl rfl rfl (zac (.inl rfl) (ev1 rfl)) ?_
  refine zah (gd_f rfl rfl rfl) rfl rfl rfl (zac (.inl rfl) (ev1 rfl)) ?_
  refine zah (gd_f rfl rfl rfl) rfl rfl rfl (zac (.inl rfl) (ev1 rfl)) ?_
  refine zah (gd_f rfl rfl rfl) rfl rfl rfl (zac (.inl rfl) (ev1 rfl)) ?_
  refine zah (gd_f rfl rfl rfl) rfl rfl rfl (op_sub' rfl (ev2 rfl) (ev2 rfl) (fun hp => IntWalk.i64_in _ (by first | omega | (simp at hp; omega)))) ?_
  refine zah (gd_f rfl rfl rfl) rfl rfl rfl (op_gtr rfl (ev2 rfl) (ev2 rfl)) ?_
  refine zab rfl rfl rfl (op_or rfl (ev1 rfl) (ev3 rfl id)) ?_
  refine zae ?_
  refine dwp_if_f rfl (by rw [sideB_iff.2 (show 1 ≤ (W : Int) ∧ (W : Int) ≤ 8 by omega), sideB_iff.2 (show 1 ≤ (H : Int) ∧ (H : Int) ≤ 8 by omega)]; simp; omega) ?_
  refine dwp_skip ?_
  refine zaf ?_
  refine zai 2 (by simp only [holes, List.cons_append, List.nil_append]; exact rfl) ?_
  refine zad ?_
  refine zab rfl rfl rfl (zac (.inl rfl) (ev1 rfl)) ?_
  refine zab rfl rfl rfl (zac (.inl rfl) (ev1 rfl)) ?_
  refine zab rfl rfl rfl (zac (.inl rfl) (ev1 rfl)) ?_
  refine zab rfl rfl rfl (zac (.inl rfl) (ev1 rfl)) ?_
  refine zab rfl rfl rfl (op_mul' rfl (ev1 rfl) (ev1 rfl) (fun _ => IntWalk.i64_in _ (by omega))) ?_
  refine zak rfl rfl rfl (op_mkg 2 (W * H) (.int .u8 0) rfl sl22 zr38 (by kernel_rfl) (by decide) (ev1 rfl) (ev1 rfl) (fun _ => hm1) (fun _ => hm1) rfl (fun _ => ⟨by omega, by omega⟩)) (by simp only [upd, za, zaa]; exact rfl) ?_
  refine zab rfl rfl rfl (op_bldD (ps := [(0, .tmp 59), (1, .tmp 60), (2, .tmp 64)]) rfl fl24 zr24 (ec (ev1 rfl) (ec (ev1 rfl) (ec (ev1 rfl) en))) rfl rfl rfl) ?_
  refine zab rfl rfl rfl (op_bldA rfl (ev1 rfl) fl83 zr83 rfl) ?_
  refine zak rfl rfl rfl (zal 3 rfl zr83 rfl) (by simp only [upd, za, zaa]; exact rfl) ?_
  refine walk_s rfl rfl (op_stam rfl tb83 (ev1 rfl) (ev1 rfl) rfl rfl rfl rfl) (by simp only [upd, za, zaa]; exact rfl) ?_
  refine zae ?_
  refine zaf ?_
  refine zaf ?_
  rw [← z4_rep, show List.replicate (W * H) zC4 = padL (cutL w ts x y W H) 0 by rw [padL_0, hcl]]
  refine zad ?_
  refine zab rfl rfl rfl (zac (.inl rfl) (ev1 rfl)) ?_
  refine zab rfl rfl rfl (zac (.inl rfl) (ev1 rfl)) ?_
  refine zae ?_
  refine dwp_block ?_
  refine dwp_loopS ⟨hs1, rfl⟩ (α := Nat) (fun j => [(68, .val (.int .i64 (j : Int)))]) [(0, _), (1, _), (2, _), (3, _), (10, _), (11, _), (14, _), (67, _)] (fun j => [(2, .arr 38 4 (W * H) ((padL (cutL w ts x y W H) (j * W)).flatMap c4))]) [_, _, .hole, _] (fun j => j ≤ H) (fun j => H - j) 0 [0, 1, 2, 3] (Nat.zero_le _) rfl ⟨rfl, rfl, rfl, rfl, rfl, rfl, rfl, rfl, trivial⟩ ⟨rfl, trivial⟩ ⟨rfl, rfl, by rw [Nat.zero_mul]; rfl, rfl, trivial⟩ ?_
  intro j hx
  simp only [upd, za, zaa, List.cons_append, List.nil_append]
  have hj0 := hx
  refine zaf ?_
  refine zad ?_
  refine zab rfl rfl rfl (op_lss rfl (ev1 rfl) (ev1 rfl)) ?_
  refine zae ?_
  refine zaf ?_
  refine dwp_cond rfl (fun hcj => ?_) (fun hcj => ?_)
  · try simp only [decide_eq_true_eq, decide_eq_false_iff_not, beq_iff_eq, bne_iff_ne, beq_eq_false_iff_ne, bne_eq_false_iff_eq, Bool.not_eq_true', Bool.not_eq_false', Bool.and_eq_true, Bool.or_eq_true, Bool.or_eq_false_iff, ne_eq, Decidable.not_not, Int.not_lt, Int.not_le] at hcj
    refine dwp_skip ?_
    refine zaf ?_
    refine dwp_block ?_
    refine zaf ?_
    refine zad ?_
    refine zab rfl rfl rfl (zac (.inl rfl) (ev1 rfl)) ?_
    refine zab rfl rfl rfl (zac (.inr rfl) (ev1 rfl)) ?_
    refine zae ?_
    refine zaf ?_
    have hj : j < H := by omega
    refine zad ?_
    refine zab rfl rfl rfl (zac (.inl rfl) (ev1 rfl)) ?_
    refine zab rfl rfl rfl (zac (.inl rfl) (ev1 rfl)) ?_
    refine zae ?_
    refine dwp_block ?_
    refine dwp_loopS ⟨hs1, rfl⟩ (α := Nat) (fun i => [(72, .val (.int .i64 (i : Int)))]) [(0, _), (1, _), (2, _), (3, _), (10, _), (11, _), (14, _), (15, _), (67, _), (68, _), (71, _)] (fun i => [(2, .arr 38 4 (W * H) ((padL (cutL w ts x y W H) (j * W + i)).flatMap c4))]) [_, _, .hole, _] (fun i => i ≤ W) (fun i => W - i) 0 [0, 1, 2, 3] (Nat.zero_le _) rfl ⟨rfl, rfl, rfl, rfl, rfl, rfl, rfl, rfl, rfl, rfl, rfl, trivial⟩ ⟨rfl, trivial⟩ ⟨rfl, rfl, by rw [Nat.add_zero]; rfl, rfl, trivial⟩ ?_
    intro i hx
    simp only [upd, za, zaa, List.cons_append, List.nil_append]
    have hi0 := hx
    clear hx
    refine zaf ?_
    refine zad ?_
    refine zab rfl rfl rfl (op_lss rfl (ev1 rfl) (ev1 rfl)) ?_
    refine zae ?_
    refine zaf ?_
    refine dwp_cond rfl (fun hci => ?_) (fun hci => ?_)
    · try simp only [decide_eq_true_eq, decide_eq_false_iff_not, beq_iff_eq, bne_iff_ne, beq_eq_false_iff_ne, bne_eq_false_iff_eq, Bool.not_eq_true', Bool.not_eq_false', Bool.and_eq_true, Bool.or_eq_true, Bool.or_eq_false_iff, ne_eq, Decidable.not_not, Int.not_lt, Int.not_le] at hci
      refine dwp_skip ?_
      refine zaf ?_
      refine dwp_block ?_
      refine zaf ?_
      refine zad ?_
      refine zab rfl rfl rfl (zac (.inl rfl) (ev1 rfl)) ?_
      refine zab rfl rfl rfl (zac (.inr rfl) (ev1 rfl)) ?_
      refine zae ?_
      have hi : i < W := by omega
      have hij := ix_lt hi hj
      have hst : StOk W H (padL (cutL w ts x y W H) (j * W + i)) := ⟨hkw, hkh, by rw [padL_len (by rw [hcl]; omega), hcl]⟩
      have hpl := hst.len
      have ho : onS w h (x + (i : Int)) (y + (j : Int)) = true := onS_iff.2 ⟨by omega, by omega⟩
      rw [← hpl]
      refine zad ?_
      refine zab rfl rfl rfl (op_ldmw rfl tb83 (ev1 rfl) rfl rfl) ?_
      refine zab rfl rfl rfl (zac (.inl rfl) (ev1 rfl)) ?_
      refine zak rfl rfl rfl (zaj [2] [] [] rfl (ev1 rfl) (ec (ev1 rfl) (ec (ev1 rfl) en)) rfl rfl (row_o W H _ hst j hj) rfl rfl rfl rfl rfl rfl) (by simp only [upd, za, zaa]; exact rfl) ?_
      refine zab rfl rfl rfl (zac (.inl rfl) (ev1 rfl)) ?_
      refine zab rfl rfl rfl (zac (.inl rfl) (ev1 rfl)) ?_
      refine zab rfl rfl rfl (zac (.inl rfl) (ev1 rfl)) ?_
      refine zab rfl rfl rfl (zac (.inl rfl) (ev1 rfl)) ?_
      refine zab rfl rfl rfl (op_add' rfl (ev1 rfl) (ev1 rfl) (fun _ => IntWalk.i64_in _ (by omega))) ?_
      refine zab rfl rfl rfl (zac (.inl rfl) (ev1 rfl)) ?_
      refine zab rfl rfl rfl (zac (.inl rfl) (ev1 rfl)) ?_
      refine zab rfl rfl rfl (op_add' rfl (ev1 rfl) (ev1 rfl) (fun _ => IntWalk.i64_in _ (by omega))) ?_
      refine zab rfl rfl rfl (zaj [] [] [] rfl (ev1 rfl) (ec (ev1 rfl) (ec (ev1 rfl) (ec (ev1 rfl) en))) rfl rfl (at_d w h ds ts hr hc (x + (i : Int)) (y + (j : Int))) rfl rfl rfl rfl rfl rfl) ?_
      refine zab rfl rfl rfl (zac (.inl rfl) (ev1 rfl)) ?_
      refine zab rfl rfl rfl ((op_ext rfl (ev1 rfl) rfl).cast (d' := .val (.agg (c4 (getC w ts (x + (i : Int)) (y + (j : Int)))).toArray)) (by rw [if_pos ho])) ?_
      refine zab rfl rfl rfl (op_ext rfl (ev1 rfl) rfl) ?_
      refine zab rfl rfl rfl (op_ixo (i) rfl sl22 (ev1 rfl) (ev1 rfl) (fun _ => rfl) (fun _ => by omega)) ?_
      refine walk_s rfl rfl (op_star rfl tb38 (ev1 rfl) rfl (ev1 rfl) (fun _ => rfl) (by first | omega | (simp only [List.length_set]; omega)) rfl) (by simp only [upd, za, zaa]; exact rfl) ?_
      refine zae ?_
      refine zad ?_
      refine zab rfl rfl rfl (op_add' rfl (ev1 rfl) (ev1 rfl) (fun _ => IntWalk.i64_in _ (by omega))) ?_
      refine zab rfl rfl rfl (zac (.inl rfl) (ev1 rfl)) ?_
      refine zae ?_
      refine ⟨i + 1, [0, 1, 2, 3], by omega, by simp only []; omega, rfl, ⟨rfl, rfl, rfl, rfl, rfl, rfl, rfl, rfl, rfl, rfl, rfl, rfl, trivial⟩, ⟨rfl, rfl, by rw [cut_set hi hj]; rfl, rfl, trivial⟩⟩
    · try simp only [decide_eq_true_eq, decide_eq_false_iff_not, beq_iff_eq, bne_iff_ne, beq_eq_false_iff_ne, bne_eq_false_iff_eq, Bool.not_eq_true', Bool.not_eq_false', Bool.and_eq_true, Bool.or_eq_true, Bool.or_eq_false_iff, ne_eq, Decidable.not_not, Int.not_lt, Int.not_le] at hci
      refine dwp_exit ?_
      refine zad ?_
      refine zab rfl rfl rfl (op_add' rfl (ev1 rfl) (ev1 rfl) (fun _ => IntWalk.i64_in _ (by omega))) ?_
      refine zab rfl rfl rfl (zac (.inl rfl) (ev1 rfl)) ?_
      refine zae ?_
      obtain rfl : i = W := by omega
      refine ⟨j + 1, [0, 1, 2, 3], by omega, by simp only []; omega, rfl, ⟨rfl, rfl, rfl, rfl, rfl, rfl, rfl, rfl, rfl, trivial⟩, ⟨rfl, rfl, by rw [Nat.succ_mul]; rfl, rfl, trivial⟩⟩
  · try simp only [decide_eq_true_eq, decide_eq_false_iff_not, beq_iff_eq, bne_iff_ne, beq_eq_false_iff_ne, bne_eq_false_iff_eq, Bool.not_eq_true', Bool.not_eq_false', Bool.and_eq_true, Bool.or_eq_true, Bool.or_eq_false_iff, ne_eq, Decidable.not_not, Int.not_lt, Int.not_le] at hcj
    refine dwp_exit ?_
    refine zaf ?_
    refine zad ?_
    refine zab rfl rfl rfl (op_fa rfl fo83_0 (ev1 rfl)) ?_
    refine zab rfl rfl rfl (op_ldmw rfl tb24 (ev1 rfl) rfl rfl) ?_
    refine walk_s rfl rfl (op_stam rfl tb24 (ev1 rfl) (ev1 rfl) rfl rfl rfl rfl) (by simp only [upd, za, zaa]; exact rfl) ?_
    refine walk_s rfl rfl (op_stwi rfl tb29 (ev1 rfl) (ev1 rfl) rfl) (by simp only [upd, za, zaa]; exact rfl) ?_
    refine zae ?_
    refine dwp_ret ?_
    refine kdef (dturn_idle [1] [] rfl rfl (scut1_idle _) rfl rfl rfl rfl rfl) ?_
    refine kend [2] (rs2 rfl (rv_mw tb24 rfl rfl rfl) (rv_1 tb29 rfl rfl rfl)) rfl rfl ?_ ⟨?_, trivial⟩
    rfl
    exact (by obtain rfl : j = H := (by omega); rw [Nat.mul_comm j W, ← hcl, padL_end]; rfl)
end Go.Proofs.Ytadjbiccndaclaa
