/- rims gone through; rims, whole; the document: places, colours, neighbours; the document: what is grown; what holds ahead of each law: flood; what holds ahead of each law: flood, whole; canvases of the laws; the law: parts; the law: regions; arguments that are opened; the law: rims. No condition. -/
import Derived.Test.YtfnhckildfbikaaQ5
import Derived.Test.YtfnhckildfbikaaRows
namespace Go.Proofs.Ytfnhckildfbikaa
set_option maxRecDepth 4000
set_option linter.unusedVariables false
set_option linter.unusedSimpArgs false
open Go.RowKit
attribute [local irreducible] zFD srL goF bfsF
attribute [local irreducible] spF spN prK
theorem tb36 : tyB Try.prog 36 = some (false, 1) := by kernel_rfl
def rmB (w h : Int) (f : FD) (p : P2) : Bool := f.has p && rimB w h f p
def mtF (P : List P2) : FD := P.foldl (fun f p => f.put p (0 + 1)) zFD
theorem mtF_add (P : List P2) (p : P2) : mtF (P ++ [p]) = (mtF P).put p (0 + 1) := by unfold mtF; rw [List.foldl_append]; rfl
def oneS (w h : Int) (s : Sp) : Bool := s.pts.all (onP w h)
def onA (w h : Int) (l : List Sp) : Bool := (ptsS l).all (onP w h)
def tkS (w h : Int) (s : Sp) : List P2 := s.pts.takeWhile (onP w h)
def tkA (w h : Int) (l : List Sp) : List P2 := (ptsS l).takeWhile (onP w h)
def errZ (b : Bool) : Int := if b then 0 else 4
theorem tw_stop {α : Type} {q : α → Bool} : ∀ {l : List α} {k : Nat} (hk : k < l.length), (l.take k).all q = true → q l[k] = false → l.takeWhile q = l.take k
  | [], k, hk, _, _ => by simp at hk
  | a :: l, 0, _, _, h => by rw [List.takeWhile_cons]; rw [List.getElem_cons_zero] at h; rw [h]; rfl
  | a :: l, k + 1, hk, h1, h2 => by
    rw [List.take_succ_cons, List.all_cons, Bool.and_eq_true] at h1
    rw [List.takeWhile_cons, h1.1, List.take_succ_cons]
    rw [List.getElem_cons_succ] at h2
    simp only [if_true]
    rw [tw_stop (by simpa using hk) h1.2 h2]
theorem tw_all {α : Type} {q : α → Bool} {l : List α} (h : l.all q = true) : l.takeWhile q = l := by
  induction l with
  | nil => rfl
  | cons a l ih =>
    rw [List.all_cons, Bool.and_eq_true] at h
    rw [List.takeWhile_cons, h.1, ih h.2]; rfl
theorem tw_app {α : Type} {q : α → Bool} {l r : List α} (h : l.all q = true) : (l ++ r).takeWhile q = l ++ r.takeWhile q := by
  induction l with
  | nil => rfl
  | cons a l ih =>
    rw [List.all_cons, Bool.and_eq_true] at h
    rw [List.cons_append, List.takeWhile_cons, h.1, ih h.2]; rfl
theorem tw_not {α : Type} {q : α → Bool} {l r : List α} (h : l.all q = false) : (l ++ r).takeWhile q = l.takeWhile q := by
  induction l with
  | nil => simp at h
  | cons a l ih =>
    rw [List.cons_append, List.takeWhile_cons, List.takeWhile_cons]
    cases ha : q a with
    | false => rfl
    | true => rw [List.all_cons, ha, Bool.true_and] at h; rw [ih h]
theorem onA_stop {w h : Int} {l : List Sp} {i : Nat} (hi : i < l.length) (h1 : onA w h (l.take i) = true) (h2 : oneS w h l[i] = false) : onA w h l = false ∧ tkA w h l = ptsS (l.take i) ++ tkS w h l[i] := by
  unfold onA tkA tkS oneS at *
  have e : ptsS l = ptsS (l.take i) ++ (l[i].pts ++ ptsS (l.drop (i + 1))) := by
    conv => lhs; rw [← List.take_append_drop i l, List.drop_eq_getElem_cons hi]
    unfold ptsS
    rw [List.flatMap_append, List.flatMap_cons]
  constructor
  · rw [e, List.all_append, List.all_append, h2]; simp
  · rw [e, tw_app h1, tw_not h2]
theorem onA_add {w h : Int} {l : List Sp} {i : Nat} (hi : i < l.length) (h1 : onA w h (l.take i) = true) (h2 : oneS w h l[i] = true) : onA w h (l.take (i + 1)) = true := by
  unfold onA oneS at *
  rw [ptsS_add hi, List.all_append, h1, h2]; rfl
theorem tkA_all {w h : Int} {l : List Sp} (h1 : onA w h l = true) : tkA w h l = ptsS l := tw_all h1
theorem pts_get {s : Sp} {k : Nat} (hk : k < s.wd) : s.pts[k]? = some ⟨s.f + (k : Int), s.y⟩ := by unfold Sp.pts; simp [hk]
theorem tkS_stop {w h : Int} {s : Sp} {k : Nat} (hk : k < s.wd) (h1 : (s.pts.take k).all (onP w h) = true) (h2 : onP w h ⟨s.f + (k : Int), s.y⟩ = false) : tkS w h s = s.pts.take k := by
  have hl := pts_wd s
  have hg : s.pts[k]'(by omega) = ⟨s.f + (k : Int), s.y⟩ := Option.some.inj (by rw [← pts_get hk]; exact (List.getElem?_eq_getElem _).symm)
  exact tw_stop (by omega) h1 (by rw [hg]; exact h2)
theorem pts_on {w h : Int} {s : Sp} {k : Nat} (hk : k < s.wd) (h1 : (s.pts.take k).all (onP w h) = true) (h2 : onP w h ⟨s.f + (k : Int), s.y⟩ = true) : (s.pts.take (k + 1)).all (onP w h) = true := by rw [pts_add hk, List.all_append, h1]; simp [h2]
theorem oneS_at {w h : Int} {s : Sp} (h1 : oneS w h s = true) {k : Nat} (hk : k < s.wd) : onP w h ⟨s.f + (k : Int), s.y⟩ = true := List.all_eq_true.1 h1 _ (List.mem_map.2 ⟨k, List.mem_range.2 hk, rfl⟩)
set_option maxRecDepth 4000 in
set_option maxHeartbeats 1000000 in
theorem rim1_n1 (w h : Int) (ds : List D) (ts : List TL) (hr : RowOk ds ts) (hc : CvOk w h ts) (hg : tsRng ts) (f : FD) (k : Nat) (q : List P2) (l : List P2) (hl : l.length ≤ 5000) (p : P2) (hp : inF32 p) (hh : f.has p = false) : DFun Try.prog 58 [.farr 3 l.length, .val (.agg #[.int .i64 p.x, .int .i64 p.y]), .loc 2 0] [.mix 134 (srL (cvD w h ds) (f).l (.farr 1 (k))), .fam (fmQ (k) (q)), .mix 84 [.loc 0 0], .fam (fmP (l))] (.farr 3 l.length) [.mix 134 (srL (cvD w h ds) (f).l (.farr 1 (k))), .fam (fmQ (k) (q)), .mix 84 [.loc 0 0], .fam (fmP (l))] := by
  have hp2 := hp
  unfold inF32 at hp2
  refine zan (N := 19) 4 (by kernel_rfl) Try.func58 rfl rfl rfl (by simp only [fr0, Nat.zero_add, Nat.reduceAdd]; exact rfl) rfl fun s0 hs0 => ?_
  refine zaf ?_
  refine zai 1 (by simp only [holes, List.cons_append, List.nil_append]; exact rfl) ?_
  refine zad ?_
  refine zaj rfl rfl rfl (op_boxa 4 rfl (ev1 rfl) rfl) (by simp only [upd, zaa, za]; exact rfl) ?_
  refine zab rfl rfl rfl (zac (.inr rfl) (ev1 rfl)) ?_
  refine zae ?_
  refine zaf ?_
  refine zaf ?_
  refine zad ?_
  refine zab rfl rfl rfl (op_ldm rfl tb84 (ev1 rfl) rfl rfl) ?_
  refine zab rfl rfl rfl (op_ldw rfl tb34 (ev1 rfl) rfl rfl) ?_
  refine zaj rfl rfl rfl ((zah [0, 1] [] [] rfl (ev1 rfl) (ec (ev1 rfl) (ec (ev1 rfl) en)) rfl (by exact mfits _ _ ⟨zap rfl rfl rfl, rfl, trivial⟩) (has_s w h ds f k q p hp) rfl rfl rfl (by exact (wrc (sb_srx rfl rfl) (wrc rfl rfl))) rfl rfl).cast (d' := .val (.bool false)) (by rw [hh])) (by simp only [upd, zaa, za]; exact rfl) ?_
  refine zab rfl rfl rfl ((zac (.inl rfl) (ev1 rfl)).cast (d' := .val (.bool false)) (by rfl)) ?_
  refine walk_gr (gd_t (b := false) rfl rfl rfl) rfl rfl rfl (dop_never (d := .junk)) ?_
  refine walk_gr (gd_t (b := false) rfl rfl rfl) rfl rfl rfl (dop_never (d := .junk)) ?_
  refine walk_gr (gd_t (b := false) rfl rfl rfl) rfl rfl rfl (dop_never (d := .val (.bool false))) ?_
  refine zab rfl rfl rfl ((op_and rfl (ev1 rfl) (ev3 rfl id)).cast (d' := .val (.bool false)) (by rfl)) ?_
  refine zae ?_
  refine dwp_if_f rfl (rfl) ?_
  refine zak ?_
  refine zaf ?_
  refine zad ?_
  refine zab rfl rfl rfl (zac (.inl rfl) (ev1 rfl)) ?_
  refine zab rfl rfl rfl (zac (.inr rfl) (ev1 rfl)) ?_
  refine zae ?_
  refine zao ?_
  refine kend [0, 1, 2, 3] (rs1 rfl (rv_t rfl)) rfl rfl ?_ ⟨zap rfl rfl rfl, rfl, rfl, rfl, trivial⟩
  rfl
set_option maxRecDepth 4000 in
set_option maxHeartbeats 1000000 in
theorem rim1_n2 (w h : Int) (ds : List D) (ts : List TL) (hr : RowOk ds ts) (hc : CvOk w h ts) (hg : tsRng ts) (f : FD) (k : Nat) (q : List P2) (l : List P2) (hl : l.length ≤ 5000) (p : P2) (hp : inF32 p) (hh : f.has p = true) (h2 : rimB w h f p = false) : DFun Try.prog 58 [.farr 3 l.length, .val (.agg #[.int .i64 p.x, .int .i64 p.y]), .loc 2 0] [.mix 134 (srL (cvD w h ds) (f).l (.farr 1 (k))), .fam (fmQ (k) (q)), .mix 84 [.loc 0 0], .fam (fmP (l))] (.farr 3 l.length) [.mix 134 (srL (cvD w h ds) (f).l (.farr 1 (k))), .fam (fmQ (k) (q)), .mix 84 [.loc 0 0], .fam (fmP (l))] := by
  have hp2 := hp
  unfold inF32 at hp2
  refine zan (N := 19) 4 (by kernel_rfl) Try.func58 rfl rfl rfl (by simp only [fr0, Nat.zero_add, Nat.reduceAdd]; exact rfl) rfl fun s0 hs0 => ?_
  refine zaf ?_
  refine zai 1 (by simp only [holes, List.cons_append, List.nil_append]; exact rfl) ?_
  refine zad ?_
  refine zaj rfl rfl rfl (op_boxa 4 rfl (ev1 rfl) rfl) (by simp only [upd, zaa, za]; exact rfl) ?_
  refine zab rfl rfl rfl (zac (.inr rfl) (ev1 rfl)) ?_
  refine zae ?_
  refine zaf ?_
  refine zaf ?_
  refine zad ?_
  refine zab rfl rfl rfl (op_ldm rfl tb84 (ev1 rfl) rfl rfl) ?_
  refine zab rfl rfl rfl (op_ldw rfl tb34 (ev1 rfl) rfl rfl) ?_
  refine zaj rfl rfl rfl ((zah [0, 1] [] [] rfl (ev1 rfl) (ec (ev1 rfl) (ec (ev1 rfl) en)) rfl (by exact mfits _ _ ⟨zap rfl rfl rfl, rfl, trivial⟩) (has_s w h ds f k q p hp) rfl rfl rfl (by exact (wrc (sb_srx rfl rfl) (wrc rfl rfl))) rfl rfl).cast (d' := .val (.bool true)) (by rw [hh])) (by simp only [upd, zaa, za]; exact rfl) ?_
  refine zab rfl rfl rfl (zac (.inl rfl) (ev1 rfl)) ?_
  refine walk_k (gd_t (b := true) rfl rfl rfl) rfl rfl rfl (op_ldm rfl tb84 (ev1 rfl) rfl rfl) (by simp only [upd, zaa, za]; exact rfl) ?_
  refine walk_k (gd_t (b := true) rfl rfl rfl) rfl rfl rfl (op_ldw rfl tb34 (ev1 rfl) rfl rfl) (by simp only [upd, zaa, za]; exact rfl) ?_
  refine walk_k (gd_t (b := true) rfl rfl rfl) rfl rfl rfl ((zah [0, 1] [] [] rfl (ev1 rfl) (ec (ev2 rfl) (ec (ev2 rfl) en)) rfl (by exact mfits _ _ ⟨zap rfl rfl rfl, rfl, trivial⟩) (atRim_d w h ds ts hr hc hg f k q p hp) rfl rfl rfl (by exact (wrc (sb_srx rfl rfl) (wrc rfl rfl))) rfl rfl).cast (d' := .val (.bool false)) (by rw [h2])) (by simp only [upd, zaa, za]; exact rfl) ?_
  refine zab rfl rfl rfl ((op_and rfl (ev1 rfl) (ev3 rfl (fun _ => rfl))).cast (d' := .val (.bool false)) (by rfl)) ?_
  refine zae ?_
  refine dwp_if_f rfl (rfl) ?_
  refine zak ?_
  refine zaf ?_
  refine zad ?_
  refine zab rfl rfl rfl (zac (.inl rfl) (ev1 rfl)) ?_
  refine zab rfl rfl rfl (zac (.inr rfl) (ev1 rfl)) ?_
  refine zae ?_
  refine zao ?_
  refine kend [0, 1, 2, 3] (rs1 rfl (rv_t rfl)) rfl rfl ?_ ⟨zap rfl rfl rfl, rfl, rfl, rfl, trivial⟩
  rfl
set_option maxRecDepth 4000 in
set_option maxHeartbeats 1000000 in
theorem rim1_yy (w h : Int) (ds : List D) (ts : List TL) (hr : RowOk ds ts) (hc : CvOk w h ts) (hg : tsRng ts) (f : FD) (k : Nat) (q : List P2) (l : List P2) (hl : l.length ≤ 5000) (p : P2) (hp : inF32 p) (hh : f.has p = true) (h2 : rimB w h f p = true) : DFun Try.prog 58 [.farr 3 l.length, .val (.agg #[.int .i64 p.x, .int .i64 p.y]), .loc 2 0] [.mix 134 (srL (cvD w h ds) (f).l (.farr 1 (k))), .fam (fmQ (k) (q)), .mix 84 [.loc 0 0], .fam (fmP (l))] (.farr 3 (l ++ [p]).length) [.mix 134 (srL (cvD w h ds) (f).l (.farr 1 (k))), .fam (fmQ (k) (q)), .mix 84 [.loc 0 0], .fam (fmP (l ++ [p]))] := by
  have hp2 := hp
  unfold inF32 at hp2
  refine zan (N := 19) 4 (by kernel_rfl) Try.func58 rfl rfl rfl (by simp only [fr0, Nat.zero_add, Nat.reduceAdd]; exact rfl) rfl fun s0 hs0 => ?_
  refine zaf ?_
  refine zai 1 (by simp only [holes, List.cons_append, List.nil_append]; exact rfl) ?_
  refine zad ?_
  refine zaj rfl rfl rfl (op_boxa 4 rfl (ev1 rfl) rfl) (by simp only [upd, zaa, za]; exact rfl) ?_
  refine zab rfl rfl rfl (zac (.inr rfl) (ev1 rfl)) ?_
  refine zae ?_
  refine zaf ?_
  refine zaf ?_
  refine zad ?_
  refine zab rfl rfl rfl (op_ldm rfl tb84 (ev1 rfl) rfl rfl) ?_
  refine zab rfl rfl rfl (op_ldw rfl tb34 (ev1 rfl) rfl rfl) ?_
  refine zaj rfl rfl rfl ((zah [0, 1] [] [] rfl (ev1 rfl) (ec (ev1 rfl) (ec (ev1 rfl) en)) rfl (by exact mfits _ _ ⟨zap rfl rfl rfl, rfl, trivial⟩) (has_s w h ds f k q p hp) rfl rfl rfl (by exact (wrc (sb_srx rfl rfl) (wrc rfl rfl))) rfl rfl).cast (d' := .val (.bool true)) (by rw [hh])) (by simp only [upd, zaa, za]; exact rfl) ?_
  refine zab rfl rfl rfl (zac (.inl rfl) (ev1 rfl)) ?_
  refine walk_k (gd_t (b := true) rfl rfl rfl) rfl rfl rfl (op_ldm rfl tb84 (ev1 rfl) rfl rfl) (by simp only [upd, zaa, za]; exact rfl) ?_
  refine walk_k (gd_t (b := true) rfl rfl rfl) rfl rfl rfl (op_ldw rfl tb34 (ev1 rfl) rfl rfl) (by simp only [upd, zaa, za]; exact rfl) ?_
  refine walk_k (gd_t (b := true) rfl rfl rfl) rfl rfl rfl ((zah [0, 1] [] [] rfl (ev1 rfl) (ec (ev2 rfl) (ec (ev2 rfl) en)) rfl (by exact mfits _ _ ⟨zap rfl rfl rfl, rfl, trivial⟩) (atRim_d w h ds ts hr hc hg f k q p hp) rfl rfl rfl (by exact (wrc (sb_srx rfl rfl) (wrc rfl rfl))) rfl rfl).cast (d' := .val (.bool true)) (by rw [h2])) (by simp only [upd, zaa, za]; exact rfl) ?_
  refine zab rfl rfl rfl ((op_and rfl (ev1 rfl) (ev3 rfl (fun _ => rfl))).cast (d' := .val (.bool true)) (by rfl)) ?_
  refine zae ?_
  refine dwp_if_t rfl (rfl) ?_
  refine zai 2 (by simp only [holes, List.cons_append, List.nil_append]; exact rfl) ?_
  refine zad ?_
  refine zab rfl rfl rfl (zac (.inl rfl) (ev1 rfl)) ?_
  refine zab rfl rfl rfl (op_ldw rfl tb34 (ev1 rfl) rfl rfl) ?_
  refine zab rfl rfl rfl (op_bs (ps := [(0, .tmp 15)]) rfl sl64 zr34 rfl (vc (ev1 rfl) vn) rfl (by decide) (by decide)) ?_
  refine zaj rfl rfl rfl (op_appF (j1 := 5) (j2 := 6) rfl rfl sl64 zr34 rfl (ev1 rfl) (ev1 rfl) rfl (fmP_at l) rfl rfl rfl (fun _ => rfl) (fun _ => ⟨by omega, by omega⟩)) (by simp only [upd, zaa, za]; exact rfl) ?_
  refine zab rfl rfl rfl (zac (.inr rfl) (ev1 rfl)) ?_
  refine zae ?_
  refine zaf ?_
  refine zad ?_
  refine zab rfl rfl rfl (zac (.inl rfl) (ev1 rfl)) ?_
  refine zab rfl rfl rfl (zac (.inr rfl) (ev1 rfl)) ?_
  refine zae ?_
  refine zao ?_
  refine kend [0, 1, 2, 3] (rs1 rfl (rv_t rfl)) rfl rfl ?_ ⟨zap rfl rfl rfl, rfl, rfl, congrArg (fun B => some (Blk.fam B)) (fmP_add l p), trivial⟩
  rw [fmP_len, List.length_append]
  rfl
theorem rim1_y (w h : Int) (ds : List D) (ts : List TL) (hr : RowOk ds ts) (hc : CvOk w h ts) (hg : tsRng ts) (f : FD) (k : Nat) (q : List P2) (l : List P2) (hl : l.length ≤ 5000) (p : P2) (hp : inF32 p) (hb : rmB w h f p = true) : DFun Try.prog 58 [.farr 3 l.length, .val (.agg #[.int .i64 p.x, .int .i64 p.y]), .loc 2 0] [.mix 134 (srL (cvD w h ds) (f).l (.farr 1 (k))), .fam (fmQ (k) (q)), .mix 84 [.loc 0 0], .fam (fmP (l))] (.farr 3 (l ++ [p]).length) [.mix 134 (srL (cvD w h ds) (f).l (.farr 1 (k))), .fam (fmQ (k) (q)), .mix 84 [.loc 0 0], .fam (fmP (l ++ [p]))] := by
  unfold rmB at hb
  rw [Bool.and_eq_true] at hb
  exact rim1_yy w h ds ts hr hc hg f k q l hl p hp hb.1 hb.2
theorem rim1_n (w h : Int) (ds : List D) (ts : List TL) (hr : RowOk ds ts) (hc : CvOk w h ts) (hg : tsRng ts) (f : FD) (k : Nat) (q : List P2) (l : List P2) (hl : l.length ≤ 5000) (p : P2) (hp : inF32 p) (hb : rmB w h f p = false) : DFun Try.prog 58 [.farr 3 l.length, .val (.agg #[.int .i64 p.x, .int .i64 p.y]), .loc 2 0] [.mix 134 (srL (cvD w h ds) (f).l (.farr 1 (k))), .fam (fmQ (k) (q)), .mix 84 [.loc 0 0], .fam (fmP (l))] (.farr 3 l.length) [.mix 134 (srL (cvD w h ds) (f).l (.farr 1 (k))), .fam (fmQ (k) (q)), .mix 84 [.loc 0 0], .fam (fmP (l))] := by
  unfold rmB at hb
  by_cases h1 : f.has p = true
  · exact rim1_n2 w h ds ts hr hc hg f k q l hl p hp h1 (by rw [h1] at hb; simpa using hb)
  · exact rim1_n1 w h ds ts hr hc hg f k q l hl p hp (by simpa using h1)
set_option maxRecDepth 4000 in
set_option maxHeartbeats 1000000 in
theorem gatR_d (w h : Int) (ds : List D) (ts : List TL) (hr : RowOk ds ts) (hc : CvOk w h ts) (f : FD) (k : Nat) (q : List P2) (hg : tsRng ts) : DFun Try.prog 40 [.loc 0 0, .fn (.func 58) [] [.loc 2 0]] [.mix 134 (srL (cvD w h ds) (f).l (.farr 1 (k))), .fam (fmQ (k) (q)), .mix 84 [.loc 0 0]] (.slf 2 (gtP (rmB w h f) (w * 8).toNat ((h * 8).toNat * (w * 8).toNat)).length ((gtP (rmB w h f) (w * 8).toNat ((h * 8).toNat * (w * 8).toNat)).flatMap p2)) [.mix 134 (srL (cvD w h ds) (f).l (.farr 1 (k))), .fam (fmQ (k) (q)), .mix 84 [.loc 0 0]] := by
  have hb := mayS_b hc.may
  have hW : ((w * 8).toNat : Int) = w * 8 := by omega
  have hH : ((h * 8).toNat : Int) = h * 8 := by omega
  have hWH : (h * 8).toNat * (w * 8).toNat ≤ 32 * 32 := Nat.mul_le_mul (by omega) (by omega)
  refine zan (N := 35) 3 (by kernel_rfl) Try.func40 rfl rfl rfl (by simp only [fr0, Nat.zero_add, Nat.reduceAdd]; exact rfl) rfl fun s0 hs0 => ?_
  refine zaf ?_
  refine zad ?_
  refine zab rfl rfl rfl (zac (.inr rfl) (ev1 rfl)) ?_
  refine zae ?_
  refine zaf ?_
  refine zad ?_
  refine zab rfl rfl rfl (zac (.inr rfl) (ev1 rfl)) ?_
  refine zae ?_
  refine zaf ?_
  refine dwp_adopt (m := 3) 5 34 2 rfl rfl rfl ?_
  refine dwp_hole ?_
  refine dwp_fam 4 rfl (by simp only [List.cons_append, List.nil_append, zaa, za]; exact rfl) ?_
  refine zad ?_
  refine zab rfl rfl rfl (zac (.inl rfl) (ev1 rfl)) ?_
  refine zab rfl rfl rfl (op_nc rfl (ev1 rfl) (fun s v h => by cases h; exact ⟨_, rfl⟩)) ?_
  refine zab rfl rfl rfl (op_fa rfl fo134_0 (ev1 rfl)) ?_
  refine zab rfl rfl rfl (op_ldm rfl tb29 (ev1 rfl) rfl (srL_0 rfl)) ?_
  refine zab rfl rfl rfl (zah [] [] [] rfl (ev1 rfl) (ec (ev1 rfl) en) rfl rfl (size_d w h ds ts hr hc) rfl rfl rfl rfl rfl rfl) ?_
  refine zab rfl rfl rfl (zac (.inl rfl) (ev1 rfl)) ?_
  refine zab rfl rfl rfl (op_ext rfl (ev1 rfl) rfl) ?_
  refine zab rfl rfl rfl (op_ext rfl (ev1 rfl) rfl) ?_
  refine zab rfl rfl rfl (zac (.inr rfl) (ev1 rfl)) ?_
  refine zab rfl rfl rfl (zac (.inr rfl) (ev1 rfl)) ?_
  refine zae ?_
  refine zaf ?_
  refine zaf ?_
  refine dwp_abs 5 4 rfl rfl rfl (by simp only [zaa, za]; exact rfl) ?_
  refine zad ?_
  refine zab rfl rfl rfl (zac (.inl rfl) (ev1 rfl)) ?_
  refine zab rfl rfl rfl (zac (.inl rfl) (ev1 rfl)) ?_
  refine zae ?_
  refine zal ?_
  refine dwp_loopS ⟨hs0, rfl⟩ (α := Nat) (fun y => [(5, .farr 4 (gtP (rmB w h f) (w * 8).toNat (y * (w * 8).toNat)).length), (19, .val (.int .i64 (y : Int)))]) [(1, _), (6, _), (18, _)] (fun y => [(4, .fam (fmP ((gtP (rmB w h f) (w * 8).toNat (y * (w * 8).toNat)))))]) [_, _, _, _, .hole] (fun y => y ≤ (h * 8).toNat) (fun y => (h * 8).toNat - y) 0 [0, 1, 2, 3, 4] (Nat.zero_le _) rfl ⟨rfl, rfl, rfl, trivial⟩ ⟨by rw [Nat.zero_mul]; rfl, rfl, trivial⟩ ⟨zap rfl rfl rfl, rfl, rfl, rfl, by rw [Nat.zero_mul]; rfl, trivial⟩ ?_
  intro y hx
  simp only [upd, zaa, za, List.cons_append, List.nil_append]
  have hy0 := hx
  have hyW : y * (w * 8).toNat ≤ (h * 8).toNat * (w * 8).toNat := Nat.mul_le_mul_right _ hy0
  refine zaf ?_
  refine zad ?_
  refine zab rfl rfl rfl (op_lss rfl (ev1 rfl) (ev1 rfl)) ?_
  refine zae ?_
  refine zaf ?_
  refine dwp_cond rfl (fun c1 => ?_) (fun c1 => ?_)
  · try simp only [decide_eq_true_eq, decide_eq_false_iff_not, beq_iff_eq, bne_iff_ne, beq_eq_false_iff_ne, bne_eq_false_iff_eq, Bool.not_eq_true', Bool.not_eq_false', Bool.and_eq_true, Bool.or_eq_true, Bool.or_eq_false_iff, ne_eq, Decidable.not_not, Int.not_lt, Int.not_le] at c1
    refine zak ?_
    refine zaf ?_
    refine zal ?_
    refine zaf ?_
    refine zad ?_
    refine zab rfl rfl rfl (zac (.inl rfl) (ev1 rfl)) ?_
    refine zab rfl rfl rfl (zac (.inr rfl) (ev1 rfl)) ?_
    refine zae ?_
    refine zaf ?_
    refine zad ?_
    refine zab rfl rfl rfl (zac (.inl rfl) (ev1 rfl)) ?_
    refine zab rfl rfl rfl (zac (.inl rfl) (ev1 rfl)) ?_
    refine zae ?_
    refine zal ?_
    refine dwp_loopS ⟨hs0, rfl⟩ (α := Nat) (fun x => [(5, .farr 4 (gtP (rmB w h f) (w * 8).toNat (y * (w * 8).toNat + x)).length), (23, .val (.int .i64 (x : Int)))]) [(1, _), (6, _), (8, _), (18, _), (19, _), (22, _)] (fun x => [(4, .fam (fmP ((gtP (rmB w h f) (w * 8).toNat (y * (w * 8).toNat + x)))))]) [_, _, _, _, .hole] (fun x => x ≤ (w * 8).toNat) (fun x => (w * 8).toNat - x) 0 [0, 1, 2, 3, 4] (Nat.zero_le _) rfl ⟨rfl, rfl, rfl, rfl, rfl, rfl, trivial⟩ ⟨by rw [Nat.add_zero]; rfl, rfl, trivial⟩ ⟨zap rfl rfl rfl, rfl, rfl, rfl, by rw [Nat.add_zero]; rfl, trivial⟩ ?_
    intro x hx
    simp only [upd, zaa, za, List.cons_append, List.nil_append]
    have hx0 := hx
    have hgl := gtS_len (rmB w h f) (w * 8).toNat (y * (w * 8).toNat + x)
    have hgp := gtP_len (rmB w h f) (w * 8).toNat (y * (w * 8).toNat + x)
    refine zaf ?_
    refine zad ?_
    refine zab rfl rfl rfl (op_lss rfl (ev1 rfl) (ev1 rfl)) ?_
    refine zae ?_
    refine zaf ?_
    refine dwp_cond rfl (fun c2 => ?_) (fun c2 => ?_)
    · try simp only [decide_eq_true_eq, decide_eq_false_iff_not, beq_iff_eq, bne_iff_ne, beq_eq_false_iff_ne, bne_eq_false_iff_eq, Bool.not_eq_true', Bool.not_eq_false', Bool.and_eq_true, Bool.or_eq_true, Bool.or_eq_false_iff, ne_eq, Decidable.not_not, Int.not_lt, Int.not_le] at c2
      refine zak ?_
      refine zaf ?_
      refine zal ?_
      refine zaf ?_
      refine zad ?_
      refine zab rfl rfl rfl (zac (.inl rfl) (ev1 rfl)) ?_
      refine zab rfl rfl rfl (zac (.inr rfl) (ev1 rfl)) ?_
      refine zae ?_
      by_cases hh : (rmB w h f) (atN x y) = true
      · have hxW : x < (w * 8).toNat := by omega
        have hyH : y < (h * 8).toNat := by omega
        have hyW2 : (y + 1) * (w * 8).toNat ≤ (h * 8).toNat * (w * 8).toNat := Nat.mul_le_mul_right _ hyH
        rw [Nat.succ_mul] at hyW2
        have hpi : inF32 (atN x y) := by unfold inF32 atN; simp only; omega
        have hpo : onS w h (atN x y).x (atN x y).y = true := onS_iff.2 ⟨by show (0 : Int) ≤ (x : Int) ∧ (x : Int) < w * 8; omega, by show (0 : Int) ≤ (y : Int) ∧ (y : Int) < h * 8; omega⟩
        refine zad ?_
        refine zab rfl rfl rfl (zac (.inl rfl) (ev1 rfl)) ?_
        refine zab rfl rfl rfl (zac (.inl rfl) (ev1 rfl)) ?_
        refine zab rfl rfl rfl (zac (.inl rfl) (ev1 rfl)) ?_
        refine zab rfl rfl rfl (zac (.inl rfl) (ev1 rfl)) ?_
        refine zab rfl rfl rfl (op_build (ps := [(0, .tmp 28), (1, .tmp 29)]) rfl fl34 zr34 (vc (ev1 rfl) (vc (ev1 rfl) vn)) rfl rfl) ?_
        refine zaj rfl rfl rfl (zah [0, 1, 2, 4] [] [] rfl (ev1 rfl) (ec (ev1 rfl) (ec (ev1 rfl) en)) rfl (by exact mfits _ _ ⟨zap rfl rfl rfl, rfl, rfl, rfl, trivial⟩) (rim1_y w h ds ts hr hc hg f k q _ (by omega) (atN x y) hpi hh) rfl rfl rfl (by exact (wrc (sb_srx rfl rfl) (wrc rfl (wrc rfl (wrc rfl rfl))))) rfl rfl) (by simp only [upd, zaa, za]; exact rfl) ?_
        refine zab rfl rfl rfl (zac (.inr rfl) (ev1 rfl)) ?_
        refine zae ?_
        refine zad ?_
        refine zab rfl rfl rfl (op_add' rfl (ev1 rfl) (ev1 rfl) (fun _ => IntWalk.i64_in _ (by omega))) ?_
        refine zab rfl rfl rfl (zac (.inl rfl) (ev1 rfl)) ?_
        refine zae ?_
        refine ⟨x + 1, [0, 1, 2, 3, 4], by omega, by simp only []; omega, rfl, ⟨by rw [gtP_yes hxW hh, List.length_append]; rfl, rfl, rfl, rfl, rfl, rfl, rfl, rfl, trivial⟩, ⟨zap rfl rfl rfl, rfl, rfl, rfl, by rw [gtP_yes hxW hh]; rfl, trivial⟩⟩
      · have hh : (rmB w h f) (atN x y) = false := by simpa using hh
        have hxW : x < (w * 8).toNat := by omega
        have hyH : y < (h * 8).toNat := by omega
        have hyW2 : (y + 1) * (w * 8).toNat ≤ (h * 8).toNat * (w * 8).toNat := Nat.mul_le_mul_right _ hyH
        rw [Nat.succ_mul] at hyW2
        have hpi : inF32 (atN x y) := by unfold inF32 atN; simp only; omega
        have hpo : onS w h (atN x y).x (atN x y).y = true := onS_iff.2 ⟨by show (0 : Int) ≤ (x : Int) ∧ (x : Int) < w * 8; omega, by show (0 : Int) ≤ (y : Int) ∧ (y : Int) < h * 8; omega⟩
        refine zad ?_
        refine zab rfl rfl rfl (zac (.inl rfl) (ev1 rfl)) ?_
        refine zab rfl rfl rfl (zac (.inl rfl) (ev1 rfl)) ?_
        refine zab rfl rfl rfl (zac (.inl rfl) (ev1 rfl)) ?_
        refine zab rfl rfl rfl (zac (.inl rfl) (ev1 rfl)) ?_
        refine zab rfl rfl rfl (op_build (ps := [(0, .tmp 28), (1, .tmp 29)]) rfl fl34 zr34 (vc (ev1 rfl) (vc (ev1 rfl) vn)) rfl rfl) ?_
        refine zaj rfl rfl rfl (zah [0, 1, 2, 4] [] [] rfl (ev1 rfl) (ec (ev1 rfl) (ec (ev1 rfl) en)) rfl (by exact mfits _ _ ⟨zap rfl rfl rfl, rfl, rfl, rfl, trivial⟩) (rim1_n w h ds ts hr hc hg f k q _ (by omega) (atN x y) hpi hh) rfl rfl rfl (by exact (wrc (sb_srx rfl rfl) (wrc rfl (wrc rfl (wrc rfl rfl))))) rfl rfl) (by simp only [upd, zaa, za]; exact rfl) ?_
        refine zab rfl rfl rfl (zac (.inr rfl) (ev1 rfl)) ?_
        refine zae ?_
        refine zad ?_
        refine zab rfl rfl rfl (op_add' rfl (ev1 rfl) (ev1 rfl) (fun _ => IntWalk.i64_in _ (by omega))) ?_
        refine zab rfl rfl rfl (zac (.inl rfl) (ev1 rfl)) ?_
        refine zae ?_
        refine ⟨x + 1, [0, 1, 2, 3, 4], by omega, by simp only []; omega, rfl, ⟨by rw [gtP_no hxW hh]; rfl, rfl, rfl, rfl, rfl, rfl, rfl, rfl, trivial⟩, ⟨zap rfl rfl rfl, rfl, rfl, rfl, by rw [gtP_no hxW hh]; rfl, trivial⟩⟩
    · try simp only [decide_eq_true_eq, decide_eq_false_iff_not, beq_iff_eq, bne_iff_ne, beq_eq_false_iff_ne, bne_eq_false_iff_eq, Bool.not_eq_true', Bool.not_eq_false', Bool.and_eq_true, Bool.or_eq_true, Bool.or_eq_false_iff, ne_eq, Decidable.not_not, Int.not_lt, Int.not_le] at c2
      refine dwp_exit ?_
      refine zad ?_
      refine zab rfl rfl rfl (op_add' rfl (ev1 rfl) (ev1 rfl) (fun _ => IntWalk.i64_in _ (by omega))) ?_
      refine zab rfl rfl rfl (zac (.inl rfl) (ev1 rfl)) ?_
      refine zae ?_
      obtain rfl : x = (w * 8).toNat := by omega
      refine ⟨y + 1, [0, 1, 2, 3, 4], by omega, by simp only []; omega, rfl, ⟨by rw [Nat.succ_mul]; rfl, rfl, rfl, rfl, rfl, trivial⟩, ⟨zap rfl rfl rfl, rfl, rfl, rfl, by rw [Nat.succ_mul]; rfl, trivial⟩⟩
  · try simp only [decide_eq_true_eq, decide_eq_false_iff_not, beq_iff_eq, bne_iff_ne, beq_eq_false_iff_ne, bne_eq_false_iff_eq, Bool.not_eq_true', Bool.not_eq_false', Bool.and_eq_true, Bool.or_eq_true, Bool.or_eq_false_iff, ne_eq, Decidable.not_not, Int.not_lt, Int.not_le] at c1
    refine dwp_exit ?_
    refine zaf ?_
    refine zad ?_
    refine zab rfl rfl rfl (zac (.inl rfl) (ev1 rfl)) ?_
    refine zab rfl rfl rfl (zac (.inr rfl) (ev1 rfl)) ?_
    refine zae ?_
    refine dwp_hole ?_
    refine dwp_rel 4 4 (j := 5) rfl rfl (fmP_at _) rfl (by simp only [List.cons_append, List.nil_append, zaa, za]; exact rfl) ?_
    refine dwp_giveA 4 rfl rfl (by simp only [List.cons_append, List.nil_append, zaa, za]; exact rfl) ?_
    refine zao ?_
    obtain rfl : y = (h * 8).toNat := by omega
    refine kend [0, 1, 2] (rs1 rfl (rv_t rfl)) rfl rfl ?_ ⟨zap rfl rfl rfl, rfl, rfl, trivial⟩
    rfl
noncomputable def rmrA : Code := rfA (pth [1, 1, 1, 1, 0, 1, 0] (bodyOf Try.f24))
noncomputable def rmrB : Code := rfB (pth [1, 1, 1, 1, 0, 1, 0] (bodyOf Try.f24))
set_option maxRecDepth 4000 in
set_option maxHeartbeats 1000000 in
theorem rmRound_y (w h : Int) (ds : List D) (ts : List TL) (hr : RowOk ds ts) (hc : CvOk w h ts) (hg : tsRng ts) (P : List P2) (p : P2) (ho : onP w h p = true) : DRound Try.prog 0 [.val (.agg #[.int .i64 p.x, .int .i64 p.y])] [.lp 44 [(2, .loc 1 0), (4, .loc 2 0), (5, .loc 3 0), (8, .loc 4 0)] #[26] rmrA rmrB .ready none, .mix 29 [cvD w h ds], .flat 64 [.slice none 0 0], .flat 36 [.int .i64 0], .mix 84 [.loc 5 0], .mix 134 (srL (cvD w h ds) ((mtF (P))).l (.farr 6 (0))), .fam (fmQ (0) (([] : List P2)))] true [.lp 44 [(2, .loc 1 0), (4, .loc 2 0), (5, .loc 3 0), (8, .loc 4 0)] #[26] rmrA rmrB .ready none, .mix 29 [cvD w h ds], .flat 64 [.slice none 0 0], .flat 36 [.int .i64 0], .mix 84 [.loc 5 0], .mix 134 (srL (cvD w h ds) ((mtF (P ++ [p]))).l (.farr 6 (0))), .fam (fmQ (0) (([] : List P2)))] := by
  have hpi := onP_in hc.may p ho
  refine dround_go 7 rfl rfl (by simp) rfl rfl fun s0 hs0 => ?_
  refine zai 1 (by simp only [holes, List.cons_append, List.nil_append]; exact rfl) ?_
  refine zad ?_
  refine zaj rfl rfl rfl (op_alloc 7 rfl zr34 rfl) (by simp only [upd, zaa, za]; exact rfl) ?_
  refine walk_s rfl rfl (op_stwa rfl tb34 (ev1 rfl) (ev1 rfl) rfl rfl rfl rfl) (by simp only [upd, zaa, za]; exact rfl) ?_
  refine zae ?_
  refine ⟨rfl, ?_⟩
  simp only [zaa, za]
  refine zal ?_
  refine zaf ?_
  refine zaf ?_
  refine zai 1 (by simp only [holes, List.cons_append, List.nil_append]; exact rfl) ?_
  refine zad ?_
  refine zab rfl rfl rfl (op_ldm rfl tb29 (ev1 rfl) rfl rfl) ?_
  refine zab rfl rfl rfl (op_fa rfl fo34_0 (ev1 rfl)) ?_
  refine zab rfl rfl rfl (zam rfl tb3 (ev1 rfl) rfl rfl) ?_
  refine zab rfl rfl rfl (op_fa rfl fo34_1 (ev1 rfl)) ?_
  refine zab rfl rfl rfl (zam rfl tb3 (ev1 rfl) rfl rfl) ?_
  refine zab rfl rfl rfl (zah [] [] [] rfl (ev1 rfl) (ec (ev1 rfl) (ec (ev1 rfl) (ec (ev1 rfl) en))) rfl rfl (at_d w h ds ts hr hc p.x p.y) rfl rfl rfl rfl rfl rfl) ?_
  refine zab rfl rfl rfl (zac (.inl rfl) (ev1 rfl)) ?_
  refine zab rfl rfl rfl (op_ext rfl (ev1 rfl) rfl) ?_
  refine zab rfl rfl rfl (op_ext rfl (ev1 rfl) rfl) ?_
  refine zaj rfl rfl rfl (op_alloc 8 rfl zr27 rfl) (by simp only [upd, zaa, za]; exact rfl) ?_
  refine walk_s rfl rfl (op_stwa rfl tb27 (ev1 rfl) (ev1 rfl) rfl rfl rfl rfl) (by simp only [upd, zaa, za]; exact rfl) ?_
  refine zab rfl rfl rfl (zac (.inr rfl) (ev1 rfl)) ?_
  refine zae ?_
  refine zaf ?_
  refine zad ?_
  refine zab rfl rfl rfl (zac (.inl rfl) (ev1 rfl)) ?_
  refine zab rfl rfl rfl (op_not rfl (ev1 rfl)) ?_
  refine zae ?_
  refine dwp_if_f rfl (by rw [show onS w h p.x p.y = true from ho]; rfl) ?_
  refine zak ?_
  refine zad ?_
  refine zab rfl rfl rfl (op_ldm rfl tb84 (ev1 rfl) rfl rfl) ?_
  refine zab rfl rfl rfl (op_ldw rfl tb34 (ev1 rfl) rfl rfl) ?_
  refine zaj rfl rfl rfl (zah [5, 6] [] [] rfl (ev1 rfl) (ec (ev1 rfl) (ec (ev1 rfl) (ec (ev1 rfl) en))) rfl (by exact mfits _ _ ⟨zap rfl rfl rfl, rfl, trivial⟩) (meet_d w h ds (mtF P) 0 [] p 0 hpi (by omega)) rfl rfl rfl (by exact (wrc (sb_srx rfl rfl) (wrc rfl rfl))) rfl rfl) (by simp only [upd, zaa, za]; exact rfl) ?_
  refine zae ?_
  refine ⟨by first | rfl | assumption | simp_all, rfl, [0, 1, 2, 3, 4, 5, 6], rfl, ⟨rfl, rfl, rfl, rfl, rfl, zap (by rw [mtF_add]) rfl rfl, rfl, trivial⟩⟩
set_option maxRecDepth 4000 in
set_option maxHeartbeats 1000000 in
theorem rmRound_n (w h : Int) (ds : List D) (ts : List TL) (hr : RowOk ds ts) (hc : CvOk w h ts) (hg : tsRng ts) (P : List P2) (p : P2) (ho : onP w h p = false) : DRound Try.prog 0 [.val (.agg #[.int .i64 p.x, .int .i64 p.y])] [.lp 44 [(2, .loc 1 0), (4, .loc 2 0), (5, .loc 3 0), (8, .loc 4 0)] #[26] rmrA rmrB .ready none, .mix 29 [cvD w h ds], .flat 64 [.slice none 0 0], .flat 36 [.int .i64 0], .mix 84 [.loc 5 0], .mix 134 (srL (cvD w h ds) ((mtF (P))).l (.farr 6 (0))), .fam (fmQ (0) (([] : List P2)))] false [.lp 44 [(2, .loc 1 0), (4, .loc 2 0), (5, .loc 3 0), (8, .loc 4 0)] #[26] rmrA rmrB .done (some .ret), .mix 29 [cvD w h ds], .flat 64 [.slice none 0 0], .flat 36 [.int .i64 4], .mix 84 [.loc 5 0], .mix 134 (srL (cvD w h ds) ((mtF (P))).l (.farr 6 (0))), .fam (fmQ (0) (([] : List P2)))] := by
  refine dround_go 7 rfl rfl (by simp) rfl rfl fun s0 hs0 => ?_
  refine zai 1 (by simp only [holes, List.cons_append, List.nil_append]; exact rfl) ?_
  refine zad ?_
  refine zaj rfl rfl rfl (op_alloc 7 rfl zr34 rfl) (by simp only [upd, zaa, za]; exact rfl) ?_
  refine walk_s rfl rfl (op_stwa rfl tb34 (ev1 rfl) (ev1 rfl) rfl rfl rfl rfl) (by simp only [upd, zaa, za]; exact rfl) ?_
  refine zae ?_
  refine ⟨rfl, ?_⟩
  simp only [zaa, za]
  refine zal ?_
  refine zaf ?_
  refine zaf ?_
  refine zai 1 (by simp only [holes, List.cons_append, List.nil_append]; exact rfl) ?_
  refine zad ?_
  refine zab rfl rfl rfl (op_ldm rfl tb29 (ev1 rfl) rfl rfl) ?_
  refine zab rfl rfl rfl (op_fa rfl fo34_0 (ev1 rfl)) ?_
  refine zab rfl rfl rfl (zam rfl tb3 (ev1 rfl) rfl rfl) ?_
  refine zab rfl rfl rfl (op_fa rfl fo34_1 (ev1 rfl)) ?_
  refine zab rfl rfl rfl (zam rfl tb3 (ev1 rfl) rfl rfl) ?_
  refine zab rfl rfl rfl (zah [] [] [] rfl (ev1 rfl) (ec (ev1 rfl) (ec (ev1 rfl) (ec (ev1 rfl) en))) rfl rfl (at_d w h ds ts hr hc p.x p.y) rfl rfl rfl rfl rfl rfl) ?_
  refine zab rfl rfl rfl (zac (.inl rfl) (ev1 rfl)) ?_
  refine zab rfl rfl rfl (op_ext rfl (ev1 rfl) rfl) ?_
  refine zab rfl rfl rfl (op_ext rfl (ev1 rfl) rfl) ?_
  refine zaj rfl rfl rfl (op_alloc 8 rfl zr27 rfl) (by simp only [upd, zaa, za]; exact rfl) ?_
  refine walk_s rfl rfl (op_stwa rfl tb27 (ev1 rfl) (ev1 rfl) rfl rfl rfl rfl) (by simp only [upd, zaa, za]; exact rfl) ?_
  refine zab rfl rfl rfl (zac (.inr rfl) (ev1 rfl)) ?_
  refine zae ?_
  refine zaf ?_
  refine zad ?_
  refine zab rfl rfl rfl (zac (.inl rfl) (ev1 rfl)) ?_
  refine zab rfl rfl rfl (op_not rfl (ev1 rfl)) ?_
  refine zae ?_
  refine dwp_if_t rfl (by rw [show onS w h p.x p.y = false from ho]; rfl) ?_
  refine zaf ?_
  refine zad ?_
  refine walk_s rfl rfl (op_st rfl tb64 (ev1 rfl) (ev1 rfl) rfl rfl rfl rfl (by decide) rfl) (by simp only [upd, zaa, za]; exact rfl) ?_
  refine walk_s rfl rfl (op_stwi rfl tb36 (ev1 rfl) (ev1 rfl) rfl) (by simp only [upd, zaa, za]; exact rfl) ?_
  refine zae ?_
  refine zao ?_
  refine ⟨by first | rfl | assumption | simp_all, rfl, [0, 1, 2, 3, 4, 5, 6], rfl, ⟨rfl, rfl, rfl, rfl, rfl, zap rfl rfl rfl, rfl, trivial⟩⟩
end Go.Proofs.Ytfnhckildfbikaa
namespace Go.Proofs.Ytfnhckildfbikaa
set_option maxRecDepth 4000
set_option linter.unusedVariables false
set_option linter.unusedSimpArgs false
open Go.RowKit
attribute [local irreducible] zFD srL goF bfsF
attribute [local irreducible] spF spN prK
theorem zr36 : zrC Try.prog 36 = some [.int .i64 0] := by kernel_rfl
theorem zr64 : zrC Try.prog 64 = some [.slice none 0 0] := by kernel_rfl
noncomputable def alrA : Code := rfA (pth [1, 1, 0] (bodyOf Try.f82))
noncomputable def alrB : Code := rfB (pth [1, 1, 0] (bodyOf Try.f82))
set_option maxRecDepth 4000 in
set_option maxHeartbeats 1000000 in
theorem rspan_y (w h : Int) (ds : List D) (ts : List TL) (hr : RowOk ds ts) (hc : CvOk w h ts) (hg : tsRng ts) (s : Sp) (hs : rchS s ∧ s.f ≤ s.t) (hon : oneS w h s = true) (P : List P2) : DRound Try.prog 0 [.val (.agg (s3 s).toArray)] [.lp 23 [(2, .loc 1 0)] #[7] alrA alrB .ready none, .mix 87 [.yld 2], .lp 44 [(2, .loc 3 0), (4, .loc 4 0), (5, .loc 5 0), (8, .loc 6 0)] #[26] rmrA rmrB .ready none, .mix 29 [cvD w h ds], .flat 64 [.slice none 0 0], .flat 36 [.int .i64 0], .mix 84 [.loc 7 0], .mix 134 (srL (cvD w h ds) ((mtF (P))).l (.farr 8 (0))), .fam (fmQ (0) (([] : List P2)))] true [.lp 23 [(2, .loc 1 0)] #[7] alrA alrB .ready none, .mix 87 [.yld 2], .lp 44 [(2, .loc 3 0), (4, .loc 4 0), (5, .loc 5 0), (8, .loc 6 0)] #[26] rmrA rmrB .ready none, .mix 29 [cvD w h ds], .flat 64 [.slice none 0 0], .flat 36 [.int .i64 0], .mix 84 [.loc 7 0], .mix 134 (srL (cvD w h ds) ((mtF (P ++ s.pts))).l (.farr 8 (0))), .fam (fmQ (0) (([] : List P2)))] := by
  obtain ⟨hrs, hft⟩ := hs
  have hr2 := hrs
  unfold rchS at hr2
  have hwd : (s.wd : Int) = s.t - s.f + 1 := by unfold Sp.wd; omega
  have hpw := pts_wd s
  refine dround_go 9 rfl rfl (by simp) rfl rfl fun s0 hs0 => ?_
  refine zai 1 (by simp only [holes, List.cons_append, List.nil_append]; exact rfl) ?_
  refine zad ?_
  refine zaj rfl rfl rfl (op_alloc 9 rfl zr53 rfl) (by simp only [upd, zaa, za]; exact rfl) ?_
  refine walk_s rfl rfl (op_stwa rfl tb53 (ev1 rfl) (ev1 rfl) rfl rfl rfl rfl) (by simp only [upd, zaa, za]; exact rfl) ?_
  refine zae ?_
  refine ⟨rfl, ?_⟩
  simp only [zaa, za]
  refine zal ?_
  refine zaf ?_
  refine zad ?_
  refine zab rfl rfl rfl (op_fa rfl fo53_1 (ev1 rfl)) ?_
  refine zab rfl rfl rfl (zam rfl tb3 (ev1 rfl) rfl rfl) ?_
  refine zab rfl rfl rfl (zac (.inr rfl) (ev1 rfl)) ?_
  refine zae ?_
  refine zal ?_
  refine dwp_loopS ⟨hs0, rfl⟩ (α := Nat) (fun k => [(4, .val (.int .i64 (s.f + (k : Int))))]) [(2, _), (3, _)] (fun k => [(7, .mix 134 (srL (cvD w h ds) ((mtF (P ++ s.pts.take k))).l (.farr 8 (0))))]) [_, _, _, _, _, _, _, .hole, _, _] (fun k => k ≤ s.wd) (fun k => s.wd - k) 0 [0, 1, 2, 3, 4, 5, 6, 7, 8, 9] (Nat.zero_le _) rfl ⟨rfl, rfl, trivial⟩ ⟨congrArg (fun z => some (D.val (.int .i64 z))) (by first | rfl | omega), trivial⟩ ⟨rfl, rfl, rfl, rfl, rfl, rfl, rfl, zap (by rw [List.take_zero, List.append_nil]) rfl rfl, rfl, rfl, trivial⟩ ?_
  intro k hx
  simp only [upd, zaa, za, List.cons_append, List.nil_append]
  have hk0 := hx
  refine zaf ?_
  refine zaf ?_
  refine zad ?_
  refine zab rfl rfl rfl (zac (.inl rfl) (ev1 rfl)) ?_
  refine zab rfl rfl rfl (op_fa rfl fo53_2 (ev1 rfl)) ?_
  refine zab rfl rfl rfl (zam rfl tb3 (ev1 rfl) rfl rfl) ?_
  refine zab rfl rfl rfl (op_leq rfl (ev1 rfl) (ev1 rfl)) ?_
  refine zae ?_
  refine dwp_cond rfl (fun c1 => ?_) (fun c1 => ?_)
  · try simp only [decide_eq_true_eq, decide_eq_false_iff_not, beq_iff_eq, bne_iff_ne, beq_eq_false_iff_ne, bne_eq_false_iff_eq, Bool.not_eq_true', Bool.not_eq_false', Bool.and_eq_true, Bool.or_eq_true, Bool.or_eq_false_iff, ne_eq, Decidable.not_not, Int.not_lt, Int.not_le] at c1
    refine zak ?_
    refine zaf ?_
    refine zal ?_
    refine zaf ?_
    have hk : k < s.wd := by omega
    have hok := oneS_at hon hk
    refine zad ?_
    refine zab rfl rfl rfl (op_ldm rfl tb87 (ev1 rfl) rfl rfl) ?_
    refine zab rfl rfl rfl (zac (.inl rfl) (ev1 rfl)) ?_
    refine zab rfl rfl rfl (op_fa rfl fo53_0 (ev1 rfl)) ?_
    refine zab rfl rfl rfl (zam rfl tb3 (ev1 rfl) rfl rfl) ?_
    refine zab rfl rfl rfl (op_build (ps := [(0, .tmp 17), (1, .tmp 19)]) rfl fl34 zr34 (vc (ev1 rfl) (vc (ev1 rfl) vn)) rfl rfl) ?_
    refine zaj rfl rfl rfl (op_y (i := 0) [2, 3, 4, 5, 6, 7, 8] [] [] rfl (ev1 rfl) (ec (ev1 rfl) en) rfl rfl (by exact mfits _ _ ⟨rfl, rfl, rfl, rfl, rfl, zap rfl rfl rfl, rfl, trivial⟩) (rmRound_y w h ds ts hr hc hg _ ⟨s.f + (k : Int), s.y⟩ hok) rfl rfl rfl (by exact (wrc rfl (wrc rfl (wrc rfl (wrc rfl (wrc rfl (wrc (sb_srx rfl rfl) (wrc rfl rfl)))))))) rfl) (by simp only [upd, zaa, za]; exact rfl) ?_
    refine zab rfl rfl rfl (op_not rfl (ev1 rfl)) ?_
    refine zae ?_
    refine dwp_if_f rfl (rfl) ?_
    refine zak ?_
    refine zad ?_
    refine zab rfl rfl rfl (zac (.inl rfl) (ev1 rfl)) ?_
    refine zab rfl rfl rfl (op_add' rfl (ev1 rfl) (ev1 rfl) (fun _ => IntWalk.i64_in _ (by omega))) ?_
    refine zab rfl rfl rfl (zac (.inr rfl) (ev1 rfl)) ?_
    refine zae ?_
    refine ⟨k + 1, [0, 1, 2, 3, 4, 5, 6, 7, 8, 9], by omega, by simp only []; omega, rfl, ⟨congrArg (fun z => some (D.val (.int .i64 z))) (by first | rfl | omega), rfl, rfl, trivial⟩, ⟨rfl, rfl, rfl, rfl, rfl, rfl, rfl, zap (by rw [pts_add hk, ← List.append_assoc]) rfl rfl, rfl, rfl, trivial⟩⟩
  · try simp only [decide_eq_true_eq, decide_eq_false_iff_not, beq_iff_eq, bne_iff_ne, beq_eq_false_iff_ne, bne_eq_false_iff_eq, Bool.not_eq_true', Bool.not_eq_false', Bool.and_eq_true, Bool.or_eq_true, Bool.or_eq_false_iff, ne_eq, Decidable.not_not, Int.not_lt, Int.not_le] at c1
    refine dwp_exit ?_
    obtain rfl : k = s.wd := by omega
    rw [show s.pts.take s.wd = s.pts from List.take_of_length_le (by omega)]
    refine ⟨by first | rfl | assumption | simp_all, rfl, [0, 1, 2, 3, 4, 5, 6, 7, 8], rfl, ⟨rfl, rfl, rfl, rfl, rfl, rfl, rfl, zap rfl rfl rfl, rfl, trivial⟩⟩
set_option maxRecDepth 4000 in
set_option maxHeartbeats 1000000 in
theorem rspan_n (w h : Int) (ds : List D) (ts : List TL) (hr : RowOk ds ts) (hc : CvOk w h ts) (hg : tsRng ts) (s : Sp) (hs : rchS s ∧ s.f ≤ s.t) (hon : oneS w h s = false) (P : List P2) : DRound Try.prog 0 [.val (.agg (s3 s).toArray)] [.lp 23 [(2, .loc 1 0)] #[7] alrA alrB .ready none, .mix 87 [.yld 2], .lp 44 [(2, .loc 3 0), (4, .loc 4 0), (5, .loc 5 0), (8, .loc 6 0)] #[26] rmrA rmrB .ready none, .mix 29 [cvD w h ds], .flat 64 [.slice none 0 0], .flat 36 [.int .i64 0], .mix 84 [.loc 7 0], .mix 134 (srL (cvD w h ds) ((mtF (P))).l (.farr 8 (0))), .fam (fmQ (0) (([] : List P2)))] false [.lp 23 [(2, .loc 1 0)] #[7] alrA alrB .done (some .ret), .mix 87 [.yld 2], .lp 44 [(2, .loc 3 0), (4, .loc 4 0), (5, .loc 5 0), (8, .loc 6 0)] #[26] rmrA rmrB .done (some .ret), .mix 29 [cvD w h ds], .flat 64 [.slice none 0 0], .flat 36 [.int .i64 4], .mix 84 [.loc 7 0], .mix 134 (srL (cvD w h ds) ((mtF (P ++ tkS w h s))).l (.farr 8 (0))), .fam (fmQ (0) (([] : List P2)))] := by
  obtain ⟨hrs, hft⟩ := hs
  have hr2 := hrs
  unfold rchS at hr2
  have hwd : (s.wd : Int) = s.t - s.f + 1 := by unfold Sp.wd; omega
  have hpw := pts_wd s
  refine dround_go 9 rfl rfl (by simp) rfl rfl fun s0 hs0 => ?_
  refine zai 1 (by simp only [holes, List.cons_append, List.nil_append]; exact rfl) ?_
  refine zad ?_
  refine zaj rfl rfl rfl (op_alloc 9 rfl zr53 rfl) (by simp only [upd, zaa, za]; exact rfl) ?_
  refine walk_s rfl rfl (op_stwa rfl tb53 (ev1 rfl) (ev1 rfl) rfl rfl rfl rfl) (by simp only [upd, zaa, za]; exact rfl) ?_
  refine zae ?_
  refine ⟨rfl, ?_⟩
  simp only [zaa, za]
  refine zal ?_
  refine zaf ?_
  refine zad ?_
  refine zab rfl rfl rfl (op_fa rfl fo53_1 (ev1 rfl)) ?_
  refine zab rfl rfl rfl (zam rfl tb3 (ev1 rfl) rfl rfl) ?_
  refine zab rfl rfl rfl (zac (.inr rfl) (ev1 rfl)) ?_
  refine zae ?_
  refine zal ?_
  refine dwp_loopS ⟨hs0, rfl⟩ (α := Nat) (fun k => [(4, .val (.int .i64 (s.f + (k : Int))))]) [(2, _), (3, _)] (fun k => [(7, .mix 134 (srL (cvD w h ds) ((mtF (P ++ s.pts.take k))).l (.farr 8 (0))))]) [_, _, _, _, _, _, _, .hole, _, _] (fun k => k ≤ s.wd ∧ (s.pts.take k).all (onP w h) = true) (fun k => s.wd - k) 0 [0, 1, 2, 3, 4, 5, 6, 7, 8, 9] (⟨Nat.zero_le _, rfl⟩) rfl ⟨rfl, rfl, trivial⟩ ⟨congrArg (fun z => some (D.val (.int .i64 z))) (by first | rfl | omega), trivial⟩ ⟨rfl, rfl, rfl, rfl, rfl, rfl, rfl, zap (by rw [List.take_zero, List.append_nil]) rfl rfl, rfl, rfl, trivial⟩ ?_
  intro k hx
  simp only [upd, zaa, za, List.cons_append, List.nil_append]
  obtain ⟨hk0, hall⟩ := hx
  refine zaf ?_
  refine zaf ?_
  refine zad ?_
  refine zab rfl rfl rfl (zac (.inl rfl) (ev1 rfl)) ?_
  refine zab rfl rfl rfl (op_fa rfl fo53_2 (ev1 rfl)) ?_
  refine zab rfl rfl rfl (zam rfl tb3 (ev1 rfl) rfl rfl) ?_
  refine zab rfl rfl rfl (op_leq rfl (ev1 rfl) (ev1 rfl)) ?_
  refine zae ?_
  refine dwp_cond rfl (fun c1 => ?_) (fun c1 => ?_)
  · try simp only [decide_eq_true_eq, decide_eq_false_iff_not, beq_iff_eq, bne_iff_ne, beq_eq_false_iff_ne, bne_eq_false_iff_eq, Bool.not_eq_true', Bool.not_eq_false', Bool.and_eq_true, Bool.or_eq_true, Bool.or_eq_false_iff, ne_eq, Decidable.not_not, Int.not_lt, Int.not_le] at c1
    refine zak ?_
    refine zaf ?_
    refine zal ?_
    refine zaf ?_
    by_cases hok : onP w h ⟨s.f + (k : Int), s.y⟩ = true
    · have hk : k < s.wd := by omega
      refine zad ?_
      refine zab rfl rfl rfl (op_ldm rfl tb87 (ev1 rfl) rfl rfl) ?_
      refine zab rfl rfl rfl (zac (.inl rfl) (ev1 rfl)) ?_
      refine zab rfl rfl rfl (op_fa rfl fo53_0 (ev1 rfl)) ?_
      refine zab rfl rfl rfl (zam rfl tb3 (ev1 rfl) rfl rfl) ?_
      refine zab rfl rfl rfl (op_build (ps := [(0, .tmp 17), (1, .tmp 19)]) rfl fl34 zr34 (vc (ev1 rfl) (vc (ev1 rfl) vn)) rfl rfl) ?_
      refine zaj rfl rfl rfl (op_y (i := 0) [2, 3, 4, 5, 6, 7, 8] [] [] rfl (ev1 rfl) (ec (ev1 rfl) en) rfl rfl (by exact mfits _ _ ⟨rfl, rfl, rfl, rfl, rfl, zap rfl rfl rfl, rfl, trivial⟩) (rmRound_y w h ds ts hr hc hg _ ⟨s.f + (k : Int), s.y⟩ hok) rfl rfl rfl (by exact (wrc rfl (wrc rfl (wrc rfl (wrc rfl (wrc rfl (wrc (sb_srx rfl rfl) (wrc rfl rfl)))))))) rfl) (by simp only [upd, zaa, za]; exact rfl) ?_
      refine zab rfl rfl rfl (op_not rfl (ev1 rfl)) ?_
      refine zae ?_
      refine dwp_if_f rfl (rfl) ?_
      refine zak ?_
      refine zad ?_
      refine zab rfl rfl rfl (zac (.inl rfl) (ev1 rfl)) ?_
      refine zab rfl rfl rfl (op_add' rfl (ev1 rfl) (ev1 rfl) (fun _ => IntWalk.i64_in _ (by omega))) ?_
      refine zab rfl rfl rfl (zac (.inr rfl) (ev1 rfl)) ?_
      refine zae ?_
      refine ⟨k + 1, [0, 1, 2, 3, 4, 5, 6, 7, 8, 9], ⟨by omega, pts_on hk hall hok⟩, by simp only []; omega, rfl, ⟨congrArg (fun z => some (D.val (.int .i64 z))) (by first | rfl | omega), rfl, rfl, trivial⟩, ⟨rfl, rfl, rfl, rfl, rfl, rfl, rfl, zap (by rw [pts_add hk, ← List.append_assoc]) rfl rfl, rfl, rfl, trivial⟩⟩
    · have hk : k < s.wd := by omega
      have hok : onP w h ⟨s.f + (k : Int), s.y⟩ = false := by simpa using hok
      refine zad ?_
      refine zab rfl rfl rfl (op_ldm rfl tb87 (ev1 rfl) rfl rfl) ?_
      refine zab rfl rfl rfl (zac (.inl rfl) (ev1 rfl)) ?_
      refine zab rfl rfl rfl (op_fa rfl fo53_0 (ev1 rfl)) ?_
      refine zab rfl rfl rfl (zam rfl tb3 (ev1 rfl) rfl rfl) ?_
      refine zab rfl rfl rfl (op_build (ps := [(0, .tmp 17), (1, .tmp 19)]) rfl fl34 zr34 (vc (ev1 rfl) (vc (ev1 rfl) vn)) rfl rfl) ?_
      refine zaj rfl rfl rfl (op_y (i := 0) [2, 3, 4, 5, 6, 7, 8] [] [] rfl (ev1 rfl) (ec (ev1 rfl) en) rfl rfl (by exact mfits _ _ ⟨rfl, rfl, rfl, rfl, rfl, zap rfl rfl rfl, rfl, trivial⟩) (rmRound_n w h ds ts hr hc hg _ ⟨s.f + (k : Int), s.y⟩ hok) rfl rfl rfl (by exact (wrc rfl (wrc rfl (wrc rfl (wrc rfl (wrc rfl (wrc (sb_srx rfl rfl) (wrc rfl rfl)))))))) rfl) (by simp only [upd, zaa, za]; exact rfl) ?_
      refine zab rfl rfl rfl (op_not rfl (ev1 rfl)) ?_
      refine zae ?_
      refine dwp_if_t rfl (rfl) ?_
      refine zao ?_
      rw [tkS_stop hk hall hok]
      refine ⟨by first | rfl | assumption | simp_all, rfl, [0, 1, 2, 3, 4, 5, 6, 7, 8], rfl, ⟨rfl, rfl, rfl, rfl, rfl, rfl, rfl, zap rfl rfl rfl, rfl, trivial⟩⟩
  · have c3 : ¬ (s.f + (k : Int) ≤ s.t) := by simpa using c1
    obtain rfl : k = s.wd := by omega
    rw [show s.pts.take s.wd = s.pts from List.take_of_length_le (by omega)] at hall
    unfold oneS at hon
    rw [hall] at hon
    exact absurd hon (by decide)
set_option maxRecDepth 4000 in
set_option maxHeartbeats 1000000 in
theorem told_rm (w h : Int) (ds : List D) (ts : List TL) (hr : RowOk ds ts) (hc : CvOk w h ts) (hg : tsRng ts) (l : List Sp) (hl : chkS l) (hl0 : l.length ≤ 9223372036854775807) : DFun Try.prog 86 [.yld 0, .loc 9 0] [.lp 23 [(2, .loc 1 0)] #[7] alrA alrB .ready none, .mix 87 [.yld 2], .lp 44 [(2, .loc 3 0), (4, .loc 4 0), (5, .loc 5 0), (8, .loc 6 0)] #[26] rmrA rmrB .ready none, .mix 29 [cvD w h ds], .flat 64 [.slice none 0 0], .flat 36 [.int .i64 0], .mix 84 [.loc 7 0], .mix 134 (srL (cvD w h ds) ((mtF ([]))).l (.farr 8 (0))), .fam (fmQ (0) (([] : List P2))), .mix 35 [.slf 3 l.length (l.flatMap s3)]] (.tup []) [.lp 23 [(2, .loc 1 0)] #[7] alrA alrB (rst (onA w h l)) (rpe .ret (onA w h l)), .mix 87 [.yld 2], .lp 44 [(2, .loc 3 0), (4, .loc 4 0), (5, .loc 5 0), (8, .loc 6 0)] #[26] rmrA rmrB (rst (onA w h l)) (rpe .ret (onA w h l)), .mix 29 [cvD w h ds], .flat 64 [.slice none 0 0], .flat 36 [.int .i64 (errZ (onA w h l))], .mix 84 [.loc 7 0], .mix 134 (srL (cvD w h ds) ((mtF (tkA w h l))).l (.farr 8 (0))), .fam (fmQ (0) (([] : List P2))), .mix 35 [.slf 3 l.length (l.flatMap s3)]] := by
  refine zan (N := 19) 10 (by kernel_rfl) Try.func86 rfl rfl rfl (by simp only [fr0, Nat.zero_add, Nat.reduceAdd]; exact rfl) rfl fun s0 hs0 => ?_
  refine zaf ?_
  refine zaf ?_
  refine zad ?_
  refine zab rfl rfl rfl (op_ldm rfl tb35 (ev1 rfl) rfl rfl) ?_
  refine zab rfl rfl rfl (zah [] [] [] rfl (ev1 rfl) (ec (ev1 rfl) en) rfl rfl (check_d l) rfl rfl rfl rfl rfl rfl) ?_
  refine zab rfl rfl rfl (op_neq rfl (ev1 rfl) (ev1 rfl)) ?_
  refine zae ?_
  refine dwp_if_f rfl (by rw [chkE_ok hl]; rfl) ?_
  refine zak ?_
  refine zaf ?_
  refine zad ?_
  refine zab rfl rfl rfl (op_ldm rfl tb35 (ev1 rfl) rfl rfl) ?_
  refine zab rfl rfl rfl (op_len rfl sl35 (ev1 rfl)) ?_
  refine zab rfl rfl rfl (zac (.inl rfl) (ev1 rfl)) ?_
  refine zae ?_
  refine zal ?_
  refine dwp_loopS ⟨hs0, rfl⟩ (α := Nat) (fun i => [(10, .val (.int .i64 (i : Int)))]) [(0, _), (8, _), (9, _)] (fun i => [(7, .mix 134 (srL (cvD w h ds) ((mtF (ptsS (l.take i)))).l (.farr 8 (0))))]) [_, _, _, _, _, _, _, .hole, _, _] (fun i => i ≤ l.length ∧ onA w h (l.take i) = true) (fun i => l.length - i) 0 [0, 1, 2, 3, 4, 5, 6, 7, 8, 9] (⟨Nat.zero_le _, rfl⟩) rfl ⟨rfl, rfl, rfl, trivial⟩ ⟨rfl, trivial⟩ ⟨rfl, rfl, rfl, rfl, rfl, rfl, rfl, zap rfl rfl rfl, rfl, rfl, trivial⟩ ?_
  intro i hx
  simp only [upd, zaa, za, List.cons_append, List.nil_append]
  obtain ⟨hi0, hlo⟩ := hx
  refine zaf ?_
  refine zad ?_
  refine zab rfl rfl rfl (op_lss rfl (ev1 rfl) (ev1 rfl)) ?_
  refine zae ?_
  refine zaf ?_
  refine dwp_cond rfl (fun c2 => ?_) (fun c2 => ?_)
  · try simp only [decide_eq_true_eq, decide_eq_false_iff_not, beq_iff_eq, bne_iff_ne, beq_eq_false_iff_ne, bne_eq_false_iff_eq, Bool.not_eq_true', Bool.not_eq_false', Bool.and_eq_true, Bool.or_eq_true, Bool.or_eq_false_iff, ne_eq, Decidable.not_not, Int.not_lt, Int.not_le] at c2
    refine zak ?_
    refine zaf ?_
    refine zal ?_
    refine zaf ?_
    have hi : i < l.length := by omega
    refine zai 1 (by simp only [holes, List.cons_append, List.nil_append]; exact rfl) ?_
    refine zad ?_
    refine zab rfl rfl rfl (op_ixsr (j := i) rfl sl35 (ev1 rfl) (ev1 rfl) (fun _ => rfl) (by decide) (by omega) (by omega)) ?_
    refine zab rfl rfl rfl (op_ldwd rfl tb53 (ev1 rfl) rfl) ?_
    refine zaj rfl rfl rfl (op_alloc 10 rfl zr53 rfl) (by simp only [upd, zaa, za]; exact rfl) ?_
    refine walk_s rfl rfl (op_stwa rfl tb53 (ev1 rfl) (ev1 rfl) rfl rfl rfl rfl) (by simp only [upd, zaa, za]; exact rfl) ?_
    refine zae ?_
    refine zaf ?_
    by_cases hy : oneS w h l[i] = true
    · refine zad ?_
      refine zab rfl rfl rfl (zac (.inl rfl) (ev1 rfl)) ?_
      refine zab rfl rfl rfl (op_ldw rfl tb53 (ev1 rfl) rfl rfl) ?_
      refine zaj rfl rfl rfl (op_y (i := 0) [0, 1, 2, 3, 4, 5, 6, 7, 8] [] [] rfl (ev1 rfl) (ec (ev1 rfl) en) rfl rfl (by exact mfits _ _ ⟨rfl, rfl, rfl, rfl, rfl, rfl, rfl, zap rfl rfl rfl, rfl, trivial⟩) (rspan_y w h ds ts hr hc hg l[i] (hl.1 _ (List.getElem_mem hi)) hy _) rfl rfl rfl (by exact (wrc rfl (wrc rfl (wrc rfl (wrc rfl (wrc rfl (wrc rfl (wrc rfl (wrc (sb_srx rfl rfl) (wrc rfl rfl)))))))))) rfl) (by simp only [upd, zaa, za]; exact rfl) ?_
      refine zab rfl rfl rfl (op_not rfl (ev1 rfl)) ?_
      refine zae ?_
      refine dwp_if_f rfl (rfl) ?_
      refine zak ?_
      refine zad ?_
      refine zab rfl rfl rfl (op_add' rfl (ev1 rfl) (ev1 rfl) (fun _ => IntWalk.i64_in _ (by omega))) ?_
      refine zab rfl rfl rfl (zac (.inl rfl) (ev1 rfl)) ?_
      refine zae ?_
      refine ⟨i + 1, [0, 1, 2, 3, 4, 5, 6, 7, 8, 9], ⟨by omega, onA_add hi hlo hy⟩, by simp only []; omega, rfl, ⟨rfl, rfl, rfl, rfl, trivial⟩, ⟨rfl, rfl, rfl, rfl, rfl, rfl, rfl, zap (by rw [ptsS_add hi]) rfl rfl, rfl, rfl, trivial⟩⟩
    · have hy : oneS w h l[i] = false := by simpa using hy
      refine zad ?_
      refine zab rfl rfl rfl (zac (.inl rfl) (ev1 rfl)) ?_
      refine zab rfl rfl rfl (op_ldw rfl tb53 (ev1 rfl) rfl rfl) ?_
      refine zaj rfl rfl rfl (op_y (i := 0) [0, 1, 2, 3, 4, 5, 6, 7, 8] [] [] rfl (ev1 rfl) (ec (ev1 rfl) en) rfl rfl (by exact mfits _ _ ⟨rfl, rfl, rfl, rfl, rfl, rfl, rfl, zap rfl rfl rfl, rfl, trivial⟩) (rspan_n w h ds ts hr hc hg l[i] (hl.1 _ (List.getElem_mem hi)) hy _) rfl rfl rfl (by exact (wrc rfl (wrc rfl (wrc rfl (wrc rfl (wrc rfl (wrc rfl (wrc rfl (wrc (sb_srx rfl rfl) (wrc rfl rfl)))))))))) rfl) (by simp only [upd, zaa, za]; exact rfl) ?_
      refine zab rfl rfl rfl (op_not rfl (ev1 rfl)) ?_
      refine zae ?_
      refine dwp_if_t rfl (rfl) ?_
      refine zao ?_
      obtain ⟨e1, e2⟩ := onA_stop hi hlo hy
      rw [e1, e2]
      refine kend [0, 1, 2, 3, 4, 5, 6, 7, 8, 9] (res_none rfl) rfl rfl ?_ ⟨rfl, rfl, rfl, rfl, rfl, rfl, rfl, zap rfl rfl rfl, rfl, rfl, trivial⟩
      rfl
  · try simp only [decide_eq_true_eq, decide_eq_false_iff_not, beq_iff_eq, bne_iff_ne, beq_eq_false_iff_ne, bne_eq_false_iff_eq, Bool.not_eq_true', Bool.not_eq_false', Bool.and_eq_true, Bool.or_eq_true, Bool.or_eq_false_iff, ne_eq, Decidable.not_not, Int.not_lt, Int.not_le] at c2
    refine dwp_exit ?_
    have hil : l.take i = l := take_all (by omega)
    rw [hil] at hlo
    rw [hlo, tkA_all hlo, hil]
    refine kend [0, 1, 2, 3, 4, 5, 6, 7, 8, 9] (res_none rfl) rfl rfl ?_ ⟨rfl, rfl, rfl, rfl, rfl, rfl, rfl, zap rfl rfl rfl, rfl, rfl, trivial⟩
    rfl
set_option maxRecDepth 4000 in
set_option maxHeartbeats 1000000 in
theorem all_rm (w h : Int) (ds : List D) (ts : List TL) (hr : RowOk ds ts) (hc : CvOk w h ts) (hg : tsRng ts) (l : List Sp) (hl : chkS l) (hl0 : l.length ≤ 9223372036854775807) : DFun Try.prog 82 [.yld 0, .loc 7 0] [.lp 44 [(2, .loc 1 0), (4, .loc 2 0), (5, .loc 3 0), (8, .loc 4 0)] #[26] rmrA rmrB .ready none, .mix 29 [cvD w h ds], .flat 64 [.slice none 0 0], .flat 36 [.int .i64 0], .mix 84 [.loc 5 0], .mix 134 (srL (cvD w h ds) ((mtF ([]))).l (.farr 6 (0))), .fam (fmQ (0) (([] : List P2))), .mix 35 [.slf 3 l.length (l.flatMap s3)]] (.tup []) [.lp 44 [(2, .loc 1 0), (4, .loc 2 0), (5, .loc 3 0), (8, .loc 4 0)] #[26] rmrA rmrB (rst (onA w h l)) (rpe .ret (onA w h l)), .mix 29 [cvD w h ds], .flat 64 [.slice none 0 0], .flat 36 [.int .i64 (errZ (onA w h l))], .mix 84 [.loc 5 0], .mix 134 (srL (cvD w h ds) ((mtF (tkA w h l))).l (.farr 6 (0))), .fam (fmQ (0) (([] : List P2))), .mix 35 [.slf 3 l.length (l.flatMap s3)]] := by
  refine zan (N := 23) 8 (by kernel_rfl) Try.func82 rfl rfl rfl (by simp only [fr0, Nat.zero_add, Nat.reduceAdd]; exact rfl) rfl fun s0 hs0 => ?_
  refine zaf ?_
  refine zai 1 (by simp only [holes, List.cons_append, List.nil_append]; exact rfl) ?_
  refine zad ?_
  refine zaj rfl rfl rfl (op_boxm 8 rfl (ev1 rfl) (fun s v h => by cases h <;> rfl) rfl) (by simp only [upd, zaa, za]; exact rfl) ?_
  refine zae ?_
  refine zaf ?_
  refine zai 1 (by simp only [holes, List.cons_append, List.nil_append]; exact rfl) ?_
  refine zad ?_
  refine zab rfl rfl rfl (op_ldm rfl tb35 (ev1 rfl) rfl rfl) ?_
  refine zaj rfl rfl rfl (zah [] [] [9] rfl (ev1 rfl) (ec (ev1 rfl) en) rfl rfl (told_d l) rfl rfl rfl rfl rfl rfl) (by simp only [upd, zaa, za]; exact rfl) ?_
  refine zae ?_
  refine zal ?_
  refine dwp_hole ?_
  simp only [List.cons_append, List.nil_append]
  refine dwp_rf (FL := [(2, _)]) (st := (rst (onA w h l))) (pe := (rpe .ret (onA w h l))) [10, 8, 0, 1, 2, 3, 4, 5, 6, 9] [] [] 10 rfl rfl (ev1 rfl) rfl (subF_lk ⟨rfl, trivial⟩) rfl rfl (by exact mfits _ _ ⟨rfl, rfl, rfl, rfl, rfl, rfl, rfl, zap rfl rfl rfl, rfl, rfl, trivial⟩) (told_rm w h ds ts hr hc hg l hl hl0) rfl rfl rfl (by exact (wrc rfl (wrc rfl (wrc rfl (wrc rfl (wrc rfl (wrc rfl (wrc rfl (wrc (sb_srx rfl rfl) (wrc rfl (wrc rfl rfl))))))))))) rfl rfl rfl (rst_busy _) (fun e => ?_) (fun c e => ?_)
  · simp only [upd, zaa, za]
    refine kend [0, 1, 2, 3, 4, 5, 6, 7] (res_none rfl) rfl rfl ?_ ⟨rfl, rfl, rfl, rfl, rfl, zap rfl rfl rfl, rfl, rfl, trivial⟩
    rfl
  · obtain ⟨e1, rfl⟩ : onA w h l = false ∧ c = .ret := by
      cases h : onA w h l <;> simp_all [rpe]
    simp only [upd, zaa, za]
    refine zao ?_
    refine kend [0, 1, 2, 3, 4, 5, 6, 7] (res_none rfl) rfl rfl ?_ ⟨rfl, rfl, rfl, rfl, rfl, zap rfl rfl rfl, rfl, rfl, trivial⟩
    rfl
set_option maxRecDepth 4000 in
set_option maxHeartbeats 1000000 in
theorem rim_d (w h : Int) (ds : List D) (ts : List TL) (hr : RowOk ds ts) (hc : CvOk w h ts) (hg : tsRng ts) (l : List Sp) (hl : l.length ≤ 1000000) (hc2 : chkS l) (ho : onA w h l = true) : DFun Try.prog 24 [cvD w h ds, .slf 3 l.length (l.flatMap s3)] [] (.tup [.slf 2 (gtP (rmB w h (mtF (ptsS l))) (w * 8).toNat ((h * 8).toNat * (w * 8).toNat)).length ((gtP (rmB w h (mtF (ptsS l))) (w * 8).toNat ((h * 8).toNat * (w * 8).toNat)).flatMap p2), .val (.int .i64 0)]) [] := by
  have e2 := tkA_all ho
  rw [← e2]
  refine zan (N := 44) 0 (by kernel_rfl) Try.func24 rfl rfl rfl (by simp only [fr0, Nat.zero_add, Nat.reduceAdd]; exact rfl) rfl fun s0 hs0 => ?_
  refine dwp_len (t := 1) rfl fun hl1 hL1 => ?_
  refine zaf ?_
  refine zai 3 (by simp only [holes, List.cons_append, List.nil_append]; exact rfl) ?_
  refine zad ?_
  refine zaj rfl rfl rfl (op_boxm 0 rfl (ev1 rfl) (fun s v h => by cases h <;> rfl) rfl) (by simp only [upd, zaa, za]; exact rfl) ?_
  refine zaj rfl rfl rfl (op_alloc 1 rfl zr64 rfl) (by simp only [upd, zaa, za]; exact rfl) ?_
  refine zaj rfl rfl rfl (op_alloc 2 rfl zr36 rfl) (by simp only [upd, zaa, za]; exact rfl) ?_
  refine zae ?_
  refine zaf ?_
  refine zaf ?_
  refine zad ?_
  refine zab rfl rfl rfl (op_ldm rfl tb29 (ev1 rfl) rfl rfl) ?_
  refine zab rfl rfl rfl (zah [] [] [] rfl (ev1 rfl) (ec (ev1 rfl) (ec (evnil 1 (ev1 rfl)) (ec (evnil 2 (ev1 rfl)) en))) rfl rfl (refuse_d w h ds ts hr hc [] []) rfl rfl rfl rfl rfl rfl) ?_
  refine zab rfl rfl rfl (zac (.inr rfl) (ev1 rfl)) ?_
  refine zae ?_
  refine zaf ?_
  refine zad ?_
  refine zab rfl rfl rfl (zac (.inl rfl) (ev1 rfl)) ?_
  refine zab rfl rfl rfl (op_neq rfl (ev1 rfl) (ev1 rfl)) ?_
  refine zae ?_
  refine dwp_if_f rfl (by rfl) ?_
  refine zak ?_
  refine zaf ?_
  refine zaf ?_
  refine zad ?_
  refine zab rfl rfl rfl (zac (.inl rfl) (ev1 rfl)) ?_
  refine zab rfl rfl rfl (zah [] [] [] rfl (ev1 rfl) (ec (ev1 rfl) en) rfl rfl (check_d l) rfl rfl rfl rfl rfl rfl) ?_
  refine zab rfl rfl rfl (zac (.inr rfl) (ev1 rfl)) ?_
  refine zae ?_
  refine zaf ?_
  refine zad ?_
  refine zab rfl rfl rfl (zac (.inl rfl) (ev1 rfl)) ?_
  refine zab rfl rfl rfl (op_neq rfl (ev1 rfl) (ev1 rfl)) ?_
  refine zae ?_
  refine dwp_if_f rfl (by rw [chkE_ok hc2]; rfl) ?_
  refine zak ?_
  refine zaf ?_
  refine zai 3 (by simp only [holes, List.cons_append, List.nil_append]; exact rfl) ?_
  refine zad ?_
  refine zab rfl rfl rfl (op_ldm rfl tb29 (ev1 rfl) rfl rfl) ?_
  refine zaj rfl rfl rfl (zah [] [] [3, 4] rfl (ev1 rfl) (ec (ev1 rfl) en) rfl rfl (searchOf_d w h ds) rfl rfl rfl (by exact (wrc (sb_srx rfl rfl) (wrc rfl rfl))) rfl rfl) (by simp only [upd, zaa, za]; exact rfl) ?_
  refine zaj rfl rfl rfl (op_alloc 5 rfl zr84 rfl) (by simp only [upd, zaa, za]; exact rfl) ?_
  refine walk_s rfl rfl (op_stfm rfl tb84 (ev1 rfl) (ev1 rfl) (fun s v h => by cases h <;> exact ⟨rfl, rfl⟩) rfl (by decide)) (by simp only [upd, zaa, za]; exact rfl) ?_
  refine zae ?_
  refine zaf ?_
  refine zaf ?_
  refine zai 1 (by simp only [holes, List.cons_append, List.nil_append]; exact rfl) ?_
  refine zad ?_
  refine zab rfl rfl rfl (zac (.inl rfl) (ev1 rfl)) ?_
  refine zaj rfl rfl rfl (zah [] [] [6] rfl (ev1 rfl) (ec (ev1 rfl) en) rfl rfl (all_d l hl) rfl rfl rfl rfl rfl rfl) (by simp only [upd, zaa, za]; exact rfl) ?_
  refine zae ?_
  refine zal ?_
  refine dwp_hole ?_
  simp only [List.cons_append, List.nil_append]
  refine dwp_rf (FL := [(2, _), (4, _), (5, _), (8, _)]) (st := (rst (onA w h l))) (pe := (rpe .ret (onA w h l))) [7, 0, 1, 2, 5, 3, 4, 6] [] [] 7 rfl rfl (ev1 rfl) rfl (subF_lk ⟨rfl, rfl, rfl, rfl, trivial⟩) rfl rfl (by exact mfits _ _ ⟨rfl, rfl, rfl, rfl, rfl, zap rfl rfl rfl, rfl, rfl, trivial⟩) (all_rm w h ds ts hr hc hg l hc2 hl1) rfl rfl rfl (by exact (wrc rfl (wrc rfl (wrc rfl (wrc rfl (wrc rfl (wrc (sb_srx rfl rfl) (wrc rfl (wrc rfl rfl))))))))) rfl rfl rfl (rst_busy _) (fun e => ?_) (fun c e => ?_)
  · simp only [upd, zaa, za]
    refine zaf ?_
    refine zad ?_
    refine zab rfl rfl rfl (op_ldm rfl tb84 (ev1 rfl) rfl rfl) ?_
    refine zab rfl rfl rfl (op_mkf rfl en (ec (ev1 rfl) en)) ?_
    refine zaj rfl rfl rfl (zah [3, 4, 5] [] [] rfl (ev1 rfl) (ec (ev1 rfl) (ec (ev1 rfl) en)) rfl (by exact mfits _ _ ⟨zap rfl rfl rfl, rfl, rfl, trivial⟩) (gatR_d w h ds ts hr hc (mtF (tkA w h l)) _ [] hg) rfl rfl rfl (by exact (wrc (sb_srx rfl rfl) (wrc rfl (wrc rfl rfl)))) rfl rfl) (by simp only [upd, zaa, za]; exact rfl) ?_
    refine walk_s rfl rfl (op_stfm rfl tb64 (ev1 rfl) (ev1 rfl) (fun s v h => by cases h <;> exact ⟨rfl, rfl⟩) rfl (by decide)) (by simp only [upd, zaa, za]; exact rfl) ?_
    refine walk_s rfl rfl (op_stwi rfl tb36 (ev1 rfl) (ev1 rfl) rfl) (by simp only [upd, zaa, za]; exact rfl) ?_
    refine zae ?_
    refine zao ?_
    refine kend0 (rs2 rfl (rv_m tb64 rfl rfl rfl) (rv_1 tb36 rfl rfl rfl)) rfl ?_
    rfl
  · exact absurd e (by rw [ho]; exact fun e => by cases e)
end Go.Proofs.Ytfnhckildfbikaa
namespace Go.Proofs.Ytfnhckildfbikaa
set_option maxRecDepth 4000
set_option linter.unusedVariables false
set_option linter.unusedSimpArgs false
open Go.RowKit
attribute [local irreducible] zFD srL goF bfsF
attribute [local irreducible] spF spN prK
def fV (f : FD) : List Value := f.l.map fun n => .int .i64 ((n : Nat) : Int)
theorem fV_len (f : FD) : (fV f).length = 1024 := by unfold fV; rw [List.length_map, f.h]
theorem fV_oc (f : FD) : (fV f).all (·.oneCell') = true := by unfold fV; rw [List.all_map]; exact List.all_eq_true.2 fun _ _ => rfl
def zFV : List Value := List.replicate 1024 (.int .i64 0)
theorem fV_zero : zFV = fV zFD := by unfold zFV fV zFD; rw [List.map_replicate]; rfl
theorem ix_two {p : P2} (hp : inF32 p) : 0 + p.y.toNat * 32 + p.x.toNat * 1 = ixF p := by unfold inF32 at hp; unfold ixF; omega
theorem fV_at {f : FD} {p : P2} (hp : inF32 p) : (fV f)[0 + p.y.toNat * 32 + p.x.toNat * 1]? = some (.int .i64 ((f.at p : Nat) : Int)) := by
  rw [ix_two hp]
  have := ixF_lt hp
  unfold fV FD.at
  rw [List.getElem?_map, List.getD_eq_getElem?_getD, List.getElem?_eq_getElem (by rw [f.h]; exact this)]
  rfl
theorem fV_fit {f : FD} {p : P2} (hp : inF32 p) : 0 + p.y.toNat * 32 + p.x.toNat * 1 + 1 ≤ (fV f).length := by rw [ix_two hp, fV_len]; have := ixF_lt hp; omega
theorem fV_set {f : FD} {p : P2} {v : Nat} (hp : inF32 p) : setL (fV f) (0 + p.y.toNat * 32 + p.x.toNat * 1) [.int .i64 ((v : Nat) : Int)] = fV (f.put p v) := by
  have hf := fV_fit (f := f) hp
  rw [ix_two hp] at *
  rw [setL_eq _ _ _ (by simpa using hf)]
  rw [fV_len] at hf
  unfold fV FD.put
  rw [List.map_set, List.set_eq_take_append_cons_drop, if_pos (by rw [List.length_map, f.h]; omega)]
  simp
def nearB (w : Int) (ts : List TL) (tol : Int) (c : C4) (b : FD) (q : P2) : Bool := decide (b.at q = 0) && nearP w ts tol c q
def grF (w h : Int) (ts : List TL) (tol : Int) (b : FD) (p : P2) : FD := spF (onP w h) (nearB w ts tol (getC w ts p.x p.y) b) zFD p
def wvK (On near : P2 → Bool) (f : FD) (q : List P2) (i : Nat) : FD × List P2 := (q.take i).foldl (fun s p => ((goF On near s.1 p).1, s.2 ++ (goF On near s.1 p).2)) (f, [])
theorem wvK_zero (On near : P2 → Bool) (f : FD) (q : List P2) : wvK On near f q 0 = (f, []) := rfl
theorem wvK_add {On near : P2 → Bool} {f : FD} {q : List P2} {i : Nat} (hi : i < q.length) : wvK On near f q (i + 1) = ((goF On near (wvK On near f q i).1 q[i]).1, (wvK On near f q i).2 ++ (goF On near (wvK On near f q i).1 q[i]).2) := by
  unfold wvK
  rw [List.take_succ_eq_append_getElem hi, List.foldl_append]
  rfl
def gnK (On near : P2 → Bool) (f : FD) (p : P2) (j : Nat) : FD × List P2 := ((nbL On p).take j).foldl (visF near (f.at p + 1)) (f, [])
theorem gnK_zero (On near : P2 → Bool) (f : FD) (p : P2) : gnK On near f p 0 = (f, []) := rfl
theorem gnK_end {On near : P2 → Bool} {f : FD} {p : P2} {j : Nat} (hj : (nbL On p).length ≤ j) : gnK On near f p j = goF On near f p := by unfold gnK goF; rw [List.take_of_length_le hj]
theorem gnK_add {On near : P2 → Bool} {f : FD} {p : P2} {j : Nat} (hj : j < (nbL On p).length) : gnK On near f p (j + 1) = visF near (f.at p + 1) (gnK On near f p j) (nbL On p)[j] := by
  unfold gnK
  rw [List.take_succ_eq_append_getElem hj, List.foldl_append]
  rfl
theorem gnK_old {On near : P2 → Bool} (hOn : ∀ p, On p = true → inF32 p) {f : FD} {p n : P2} {j : Nat} (hn : On n = true) (h0 : 0 < f.at n) : (gnK On near f p j).1.at n = f.at n := by
  have h := (vis_all (near := near) hOn ((nbL On p).take j) (f.at p + 1) f [] ((nb_nodup On p).sublist (List.take_sublist ..)) (fun q hq => (nb_iff.1 (List.mem_of_mem_take hq)).2) (by omega)).1 n hn
  unfold gnK
  rw [h, if_neg (by omega)]
theorem gnK_len {On near : P2 → Bool} (f : FD) (p : P2) (j : Nat) : (gnK On near f p j).2.length ≤ 4 := by
  have key : ∀ (L : List P2) (v : Nat) (s : FD × List P2), (L.foldl (visF near v) s).2.length ≤ s.2.length + L.length := by
    intro L v
    induction L with
    | nil => intro s; simp
    | cons a L ih =>
      intro s
      rw [List.foldl_cons, List.length_cons]
      refine Nat.le_trans (ih _) ?_
      unfold visF
      split
      · simp only [List.length_append, List.length_cons, List.length_nil]; omega
      · omega
  unfold gnK
  refine Nat.le_trans (key _ _ _) ?_
  have h1 := List.length_filter_le On (adjL p)
  have h2 := List.length_take_le j (nbL On p)
  have h3 : (nbL On p).length ≤ 4 := h1
  have h4 : ((nbL On p).take j).length ≤ (nbL On p).length := by rw [List.length_take]; omega
  simp only [List.length_nil]
  omega
theorem nbL_len (On : P2 → Bool) (p : P2) : (nbL On p).length ≤ 4 := List.length_filter_le On (adjL p)
def GrI (On near : P2 → Bool) (T f : FD) (q : List P2) : Prop := ∃ K KT, SpI On near T KT (f, q, K)
theorem GrI.start {On near : P2 → Bool} (hOn : ∀ p, On p = true → inF32 p) {p : P2} (hp : On p = true) : GrI On near (spF On near zFD p) (zFD.put p 1) [p] := ⟨_, _, SpI.start hOn 0 hp (zFD_at p)⟩
theorem GrI.step {On near : P2 → Bool} (hOn : ∀ p, On p = true → inF32 p) {T f : FD} {q : List P2} {i : Nat} (hi : i < q.length) (h : GrI On near T (wvK On near f q i).1 (q.drop i ++ (wvK On near f q i).2)) :
    GrI On near T (wvK On near f q (i + 1)).1 (q.drop (i + 1) ++ (wvK On near f q (i + 1)).2) := by
  obtain ⟨K, KT, h⟩ := h
  rw [List.drop_eq_getElem_cons hi, List.cons_append] at h
  have := (h.step hOn).1
  rw [wvK_add hi]
  rw [List.append_assoc] at this
  exact ⟨_, _, this⟩
theorem GrI.done {On near : P2 → Bool} {T f : FD} (h : GrI On near T f []) : f = T := by
  obtain ⟨K, KT, h⟩ := h
  exact h.done.1
theorem GrI.bd {On near : P2 → Bool} {T f : FD} {q : List P2} {i : Nat} (hi : i < q.length) (h : GrI On near T (wvK On near f q i).1 (q.drop i ++ (wvK On near f q i).2)) : On q[i] = true ∧ (0 < (wvK On near f q i).1.at q[i] ∧ (wvK On near f q i).1.at q[i] ≤ 4000) ∧ (wvK On near f q i).2.length ≤ 4000 := by
  obtain ⟨K, KT, h⟩ := h
  rw [List.drop_eq_getElem_cons hi, List.cons_append] at h
  obtain ⟨h1, h2, h3⟩ := h.bd
  rw [List.length_append] at h3
  exact ⟨h1, h2, by omega⟩
theorem wv_zr {On near : P2 → Bool} (hOn : ∀ p, On p = true → inF32 p) {f : FD} {q : List P2} {i : Nat} (hi : i < q.length) {m : Nat} (h : zrF (wvK On near f q i).1 + (wvK On near f q i).2.length = m) : zrF (wvK On near f q (i + 1)).1 + (wvK On near f q (i + 1)).2.length = m := by
  have := goF_zr (near := near) hOn (wvK On near f q i).1 q[i]
  rw [wvK_add hi, List.length_append]
  show zrF (goF On near (wvK On near f q i).1 q[i]).1 + _ = m
  omega
theorem tk_filt {α : Type} {q : α → Bool} {l : List α} {i : Nat} (hi : i < l.length) : (l.take (i + 1)).filter q = (l.take i).filter q ++ (if q l[i] = true then [l[i]] else []) := by
  rw [List.take_succ_eq_append_getElem hi, List.filter_append]
  congr 1
  cases h : q l[i] <;> simp [h]
set_option maxRecDepth 4000 in
set_option maxHeartbeats 1000000 in
theorem rsizes_d (w h : Int) (ts : List TL) (hc : CvOk w h ts) : DFun Try.prog 42 [shD w h ts] [] (.tup [.val (.int .i64 (w * 8)), .val (.int .i64 (h * 8))]) [] := by
  have hb := mayS_b hc.may
  refine zan (N := 10) 0 (by kernel_rfl) Try.func42 rfl rfl rfl (by simp only [fr0, Nat.zero_add, Nat.reduceAdd]; exact rfl) rfl fun s0 hs0 => ?_
  refine zaf ?_
  refine zai 1 (by simp only [holes, List.cons_append, List.nil_append]; exact rfl) ?_
  refine zad ?_
  refine zaj rfl rfl rfl (op_boxam 0 rfl (ev1 rfl) rfl) (by simp only [upd, zaa, za]; exact rfl) ?_
  refine zab rfl rfl rfl (zac (.inr rfl) (ev1 rfl)) ?_
  refine zab rfl rfl rfl (zac (.inr rfl) (ev1 rfl)) ?_
  refine zae ?_
  refine zaf ?_
  refine dwp_draw [([], []), ([0], []), ([], []), ([], []), ([0], []), ([], []), ([], []), ([], [])] mixed (by kernel_rfl) ?_
  refine zag rfl rfl (op_fa rfl fo24_0 (ev1 rfl)) ?_
  refine zag rfl rfl (op_ldm rfl tb3 (ev1 rfl) rfl rfl) ?_
  refine zag rfl rfl (op_mul' rfl (ev1 rfl) (ev1 rfl) (fun _ => IntWalk.i64_in _ (by omega))) ?_
  refine zag rfl rfl (op_fa rfl fo24_1 (ev1 rfl)) ?_
  refine zag rfl rfl (op_ldm rfl tb3 (ev1 rfl) rfl rfl) ?_
  refine zag rfl rfl (op_mul' rfl (ev1 rfl) (ev1 rfl) (fun _ => IntWalk.i64_in _ (by omega))) ?_
  refine zag rfl rfl (zac (.inr rfl) (ev1 rfl)) ?_
  refine zag rfl rfl (zac (.inr rfl) (ev1 rfl)) ?_
  refine lex_nil ?_
  refine zao ?_
  refine kend0 (rs2 rfl (rv_t rfl) (rv_t rfl)) rfl ?_
  rw [Int.mul_comm w 8, Int.mul_comm h 8]
set_option maxRecDepth 4000 in
set_option maxHeartbeats 1000000 in
theorem ron_d (w h : Int) (ts : List TL) (hc : CvOk w h ts) (p : P2) : DFun Try.prog 12 [shD w h ts, .val (.agg #[.int .i64 p.x, .int .i64 p.y])] [] (.val (.bool (onP w h p))) [] := by
  refine zan (N := 32) 0 (by kernel_rfl) Try.func12 rfl rfl rfl (by simp only [fr0, Nat.zero_add, Nat.reduceAdd]; exact rfl) rfl fun s0 hs0 => ?_
  refine zaf ?_
  refine zai 2 (by simp only [holes, List.cons_append, List.nil_append]; exact rfl) ?_
  refine zad ?_
  refine zaj rfl rfl rfl (op_boxam 0 rfl (ev1 rfl) rfl) (by simp only [upd, zaa, za]; exact rfl) ?_
  refine zaj rfl rfl rfl (op_boxa 1 rfl (ev1 rfl) rfl) (by simp only [upd, zaa, za]; exact rfl) ?_
  refine zab rfl rfl rfl (zac (.inr rfl) (ev1 rfl)) ?_
  refine zae ?_
  refine zaf ?_
  refine zad ?_
  refine zab rfl rfl rfl (op_ldmw rfl tb24 (ev1 rfl) rfl rfl) ?_
  refine zab rfl rfl rfl (zah [] [] [] rfl (ev1 rfl) (ec (ev1 rfl) en) rfl rfl (rsizes_d w h ts hc) rfl rfl rfl rfl rfl rfl) ?_
  refine zab rfl rfl rfl (zac (.inl rfl) (ev1 rfl)) ?_
  refine zab rfl rfl rfl (op_ext rfl (ev1 rfl) rfl) ?_
  refine zab rfl rfl rfl (op_ext rfl (ev1 rfl) rfl) ?_
  refine zab rfl rfl rfl (zac (.inr rfl) (ev1 rfl)) ?_
  refine zab rfl rfl rfl (zac (.inr rfl) (ev1 rfl)) ?_
  refine zae ?_
  refine zaf ?_
  refine zad ?_
  refine zab rfl rfl rfl (op_fa rfl fo34_0 (ev1 rfl)) ?_
  refine zab rfl rfl rfl (zam rfl tb3 (ev1 rfl) rfl rfl) ?_
  refine zab rfl rfl rfl (op_geq rfl (ev1 rfl) (ev1 rfl)) ?_
  refine zab rfl rfl rfl (zac (.inl rfl) (ev1 rfl)) ?_
  refine walk_gr (gd_t rfl rfl rfl) rfl rfl rfl (op_fa rfl fo34_0 (ev1 rfl)) ?_
  refine walk_gr (gd_t rfl rfl rfl) rfl rfl rfl (zam rfl tb3 (ev2 rfl) rfl rfl) ?_
  refine walk_gr (gd_t rfl rfl rfl) rfl rfl rfl (zac (.inl rfl) (ev1 rfl)) ?_
  refine walk_gr (gd_t rfl rfl rfl) rfl rfl rfl (op_lss rfl (ev2 rfl) (ev2 rfl)) ?_
  refine zab rfl rfl rfl (op_and rfl (ev1 rfl) (ev3 rfl id)) ?_
  refine zab rfl rfl rfl (zac (.inl rfl) (ev1 rfl)) ?_
  refine walk_gr (gd_t rfl rfl rfl) rfl rfl rfl (op_fa rfl fo34_1 (ev1 rfl)) ?_
  refine walk_gr (gd_t rfl rfl rfl) rfl rfl rfl (zam rfl tb3 (ev2 rfl) rfl rfl) ?_
  refine walk_gr (gd_t rfl rfl rfl) rfl rfl rfl (op_geq rfl (ev2 rfl) (ev1 rfl)) ?_
  refine zab rfl rfl rfl (op_and rfl (ev1 rfl) (ev3 rfl id)) ?_
  refine zab rfl rfl rfl (zac (.inl rfl) (ev1 rfl)) ?_
  refine walk_gr (gd_t rfl rfl rfl) rfl rfl rfl (op_fa rfl fo34_1 (ev1 rfl)) ?_
  refine walk_gr (gd_t rfl rfl rfl) rfl rfl rfl (zam rfl tb3 (ev2 rfl) rfl rfl) ?_
  refine walk_gr (gd_t rfl rfl rfl) rfl rfl rfl (zac (.inl rfl) (ev1 rfl)) ?_
  refine walk_gr (gd_t rfl rfl rfl) rfl rfl rfl (op_lss rfl (ev2 rfl) (ev2 rfl)) ?_
  refine zab rfl rfl rfl (op_and rfl (ev1 rfl) (ev3 rfl id)) ?_
  refine zab rfl rfl rfl (zac (.inr rfl) (ev1 rfl)) ?_
  refine zae ?_
  refine zao ?_
  refine kend0 (rs1 rfl (rv_t rfl)) rfl ?_
  rw [D.val.injEq, Value.bool.injEq, Bool.eq_iff_iff]
  unfold onP
  rw [onS_iff]
  simp [and_assoc]
set_option maxRecDepth 4000 in
set_option maxHeartbeats 1000000 in
theorem rat8_d (w h : Int) (ts : List TL) (p : P2) (hc : CvOk w h ts) (ho : onP w h p = true) : DFun Try.prog 43 [shD w h ts, .val (.agg #[.int .i64 p.x, .int .i64 p.y])] [] (.val (.agg (c4 (getC w ts p.x p.y)).toArray)) [] := by
  unfold onP at ho
  have hb := mayS_b hc.may
  have hxy := onS_iff.1 ho
  have hpl := on_pl hc.may ho
  have hpt := hc.pl ho
  have hq1 : 0 ≤ p.y / 8 ∧ p.y / 8 ≤ 3 := by omega
  have hq2 : 0 ≤ p.y / 8 * w := Int.mul_nonneg hq1.1 (by omega)
  have hq3 : p.y / 8 * w ≤ 3 * 4 := Int.mul_le_mul hq1.2 hb.1.2 (by omega) (by omega)
  refine zan (N := 28) 0 (by kernel_rfl) Try.func43 rfl rfl rfl (by simp only [fr0, Nat.zero_add, Nat.reduceAdd]; exact rfl) rfl fun s0 hs0 => ?_
  refine zaf ?_
  refine zai 3 (by simp only [holes, List.cons_append, List.nil_append]; exact rfl) ?_
  refine zad ?_
  refine zaj rfl rfl rfl (op_boxam 0 rfl (ev1 rfl) rfl) (by simp only [upd, zaa, za]; exact rfl) ?_
  refine zaj rfl rfl rfl (op_boxa 1 rfl (ev1 rfl) rfl) (by simp only [upd, zaa, za]; exact rfl) ?_
  refine zaj rfl rfl rfl (op_alloc 2 rfl zr27 rfl) (by simp only [upd, zaa, za]; exact rfl) ?_
  refine zae ?_
  refine zaf ?_
  refine dwp_draw [([], []), ([0], []), ([], []), ([1], []), ([], []), ([], []), ([0], []), ([], []), ([], []), ([1], []), ([], []), ([], []), ([], []), ([1], []), ([], []), ([], []), ([], []), ([1], []), ([], []), ([], []), ([], []), ([], []), ([], []), ([2], [2])] mixed (by kernel_rfl) ?_
  refine zag rfl rfl (op_fa rfl fo24_2 (ev1 rfl)) ?_
  refine zag rfl rfl (op_ldm rfl tb22 (ev1 rfl) rfl rfl) ?_
  refine zag rfl rfl (op_fa rfl fo34_1 (ev1 rfl)) ?_
  refine zag rfl rfl (zam rfl tb3 (ev1 rfl) rfl rfl) ?_
  refine zag rfl rfl (op_quo' rfl (ev1 rfl) (ev1 rfl) (fun _ => ⟨by omega, by omega, IntWalk.i64_in _ (by omega)⟩)) ?_
  refine zag rfl rfl (op_fa rfl fo24_0 (ev1 rfl)) ?_
  refine zag rfl rfl (op_ldm rfl tb3 (ev1 rfl) rfl rfl) ?_
  refine zag rfl rfl (op_mul' rfl (ev1 rfl) (ev1 rfl) (fun _ => IntWalk.i64_in _ (by omega))) ?_
  refine zag rfl rfl (op_fa rfl fo34_0 (ev1 rfl)) ?_
  refine zag rfl rfl (zam rfl tb3 (ev1 rfl) rfl rfl) ?_
  refine zag rfl rfl (op_quo' rfl (ev1 rfl) (ev1 rfl) (fun _ => ⟨by omega, by omega, IntWalk.i64_in _ (by omega)⟩)) ?_
  refine zag rfl rfl (op_add' rfl (ev1 rfl) (ev1 rfl) (fun _ => IntWalk.i64_in _ (by omega))) ?_
  refine zag rfl rfl (op_fa rfl fo34_1 (ev1 rfl)) ?_
  refine zag rfl rfl (zam rfl tb3 (ev1 rfl) rfl rfl) ?_
  refine zag rfl rfl (op_rem' rfl (ev1 rfl) (ev1 rfl) (fun _ => ⟨by omega, by omega⟩)) ?_
  refine zag rfl rfl (op_mul' rfl (ev1 rfl) (ev1 rfl) (fun _ => IntWalk.i64_in _ (by omega))) ?_
  refine zag rfl rfl (op_fa rfl fo34_0 (ev1 rfl)) ?_
  refine zag rfl rfl (zam rfl tb3 (ev1 rfl) rfl rfl) ?_
  refine zag rfl rfl (op_rem' rfl (ev1 rfl) (ev1 rfl) (fun _ => ⟨by omega, by omega⟩)) ?_
  refine zag rfl rfl (op_add' rfl (ev1 rfl) (ev1 rfl) (fun _ => IntWalk.i64_in _ (by omega))) ?_
  refine zag rfl rfl (op_ixsr (j := plN w p.x p.y) rfl sl22 (ev1 rfl) (ev1 rfl) tc_len (by decide) (hpl.1) (by omega)) ?_
  refine zag rfl rfl (op_ixdr (j := pxN p.x p.y) (zC4) rfl ar81 (ev1 rfl) (ev1 rfl) (fun _ => hpl.2.2.1) (fun _ => by omega) ((TL.h _)) (fun _ => rfl)) ?_
  refine zag rfl rfl (op_ldwd rfl tb27 (ev1 rfl) rfl) ?_
  refine lex_s rfl rfl (op_stwa rfl tb27 (ev1 rfl) (ev1 rfl) rfl rfl rfl rfl) rfl (by simp only [upd, zaa, za]; exact rfl) ?_
  refine lex_nil ?_
  refine zao ?_
  refine kend0 (rs1 rfl (rv_w tb27 rfl rfl rfl)) rfl ?_
  rw [getC, tl_at hpt]; rfl
set_option maxRecDepth 4000 in
set_option maxHeartbeats 1000000 in
theorem rapart_d (a b : Int) (ha : 0 ≤ a ∧ a ≤ 255) (hb : 0 ≤ b ∧ b ≤ 255) : DFun Try.prog 76 [.val (.int .u8 a), .val (.int .u8 b)] [] (.val (.int .i64 (max a b - min a b))) [] := by
  refine zan (N := 16) 0 (by kernel_rfl) Try.func76 rfl rfl rfl (by simp only [fr0, Nat.zero_add, Nat.reduceAdd]; exact rfl) rfl fun s0 hs0 => ?_
  refine zaf ?_
  refine zad ?_
  refine zab rfl rfl rfl (zac (.inr rfl) (ev1 rfl)) ?_
  refine zae ?_
  refine zaf ?_
  refine zaf ?_
  refine zad ?_
  refine zab rfl rfl rfl (zac (.inl rfl) (ev1 rfl)) ?_
  refine zab rfl rfl rfl (zac (.inl rfl) (ev1 rfl)) ?_
  refine zab rfl rfl rfl (op_lss rfl (ev1 rfl) (ev1 rfl)) ?_
  refine zae ?_
  refine dwp_cond rfl (fun c1 => ?_) (fun c1 => ?_)
  · try simp only [decide_eq_true_eq, decide_eq_false_iff_not, beq_iff_eq, bne_iff_ne, beq_eq_false_iff_ne, bne_eq_false_iff_eq, Bool.not_eq_true', Bool.not_eq_false', Bool.and_eq_true, Bool.or_eq_true, Bool.or_eq_false_iff, ne_eq, Decidable.not_not, Int.not_lt, Int.not_le] at c1
    refine zaf ?_
    refine zad ?_
    refine zab rfl rfl rfl (zac (.inl rfl) (ev1 rfl)) ?_
    refine zab rfl rfl rfl (zac (.inl rfl) (ev1 rfl)) ?_
    refine zab rfl rfl rfl (op_sub' rfl (ev1 rfl) (ev1 rfl) (fun _ => IntWalk.u8_in _ (by omega))) ?_
    refine zab rfl rfl rfl (op_conv' ty5 kn3 rfl (ev1 rfl) (fun _ => IntWalk.i64_in _ (by omega))) ?_
    refine zab rfl rfl rfl (zac (.inr rfl) (ev1 rfl)) ?_
    refine zae ?_
    refine zao ?_
    refine kend0 (rs1 rfl (rv_t rfl)) rfl ?_
    rw [D.val.injEq, Value.int.injEq]
    exact ⟨rfl, by omega⟩
  · try simp only [decide_eq_true_eq, decide_eq_false_iff_not, beq_iff_eq, bne_iff_ne, beq_eq_false_iff_ne, bne_eq_false_iff_eq, Bool.not_eq_true', Bool.not_eq_false', Bool.and_eq_true, Bool.or_eq_true, Bool.or_eq_false_iff, ne_eq, Decidable.not_not, Int.not_lt, Int.not_le] at c1
    refine zak ?_
    refine zaf ?_
    refine zad ?_
    refine zab rfl rfl rfl (zac (.inl rfl) (ev1 rfl)) ?_
    refine zab rfl rfl rfl (zac (.inl rfl) (ev1 rfl)) ?_
    refine zab rfl rfl rfl (op_sub' rfl (ev1 rfl) (ev1 rfl) (fun _ => IntWalk.u8_in _ (by omega))) ?_
    refine zab rfl rfl rfl (op_conv' ty5 kn3 rfl (ev1 rfl) (fun _ => IntWalk.i64_in _ (by omega))) ?_
    refine zab rfl rfl rfl (zac (.inr rfl) (ev1 rfl)) ?_
    refine zae ?_
    refine zao ?_
    refine kend0 (rs1 rfl (rv_t rfl)) rfl ?_
    rw [D.val.injEq, Value.int.injEq]
    exact ⟨rfl, by omega⟩
set_option maxRecDepth 4000 in
set_option maxHeartbeats 1000000 in
theorem rnear8_d (u o : C4) (hu : u.rng) (ho : o.rng) (tol : Int) : DFun Try.prog 45 [.val (.agg (c4 u).toArray), .val (.agg (c4 o).toArray), .val (.int .i64 tol)] [] (.val (.bool (nearC tol u o))) [] := by
  obtain ⟨h1, h2, h3, h4⟩ := hu
  obtain ⟨g1, g2, g3, g4⟩ := ho
  refine zan (N := 32) 0 (by kernel_rfl) Try.func45 rfl rfl rfl (by simp only [fr0, Nat.zero_add, Nat.reduceAdd]; exact rfl) rfl fun s0 hs0 => ?_
  refine zaf ?_
  refine zai 2 (by simp only [holes, List.cons_append, List.nil_append]; exact rfl) ?_
  refine zad ?_
  refine zaj rfl rfl rfl (op_boxa 0 rfl (ev1 rfl) rfl) (by simp only [upd, zaa, za]; exact rfl) ?_
  refine zaj rfl rfl rfl (op_boxa 1 rfl (ev1 rfl) rfl) (by simp only [upd, zaa, za]; exact rfl) ?_
  refine zab rfl rfl rfl (zac (.inr rfl) (ev1 rfl)) ?_
  refine zae ?_
  refine zaf ?_
  refine dwp_draw [([], []), ([0], []), ([], []), ([1], []), ([], []), ([], []), ([0], []), ([], []), ([1], []), ([], []), ([], []), ([], []), ([0], []), ([], []), ([1], []), ([], []), ([], []), ([], []), ([0], []), ([], []), ([1], []), ([], []), ([], []), ([], []), ([], []), ([], [])] mixed (by kernel_rfl) ?_
  refine zag rfl rfl (op_fa rfl fo27_0 (ev1 rfl)) ?_
  refine zag rfl rfl (zam rfl tb5 (ev1 rfl) rfl rfl) ?_
  refine zag rfl rfl (op_fa rfl fo27_0 (ev1 rfl)) ?_
  refine zag rfl rfl (zam rfl tb5 (ev1 rfl) rfl rfl) ?_
  refine zag rfl rfl (zah [] [] [] rfl (ev1 rfl) (ec (ev1 rfl) (ec (ev1 rfl) en)) rfl rfl (rapart_d u.r o.r h1 g1) rfl rfl rfl rfl rfl rfl) ?_
  refine zag rfl rfl (op_fa rfl fo27_1 (ev1 rfl)) ?_
  refine zag rfl rfl (zam rfl tb5 (ev1 rfl) rfl rfl) ?_
  refine zag rfl rfl (op_fa rfl fo27_1 (ev1 rfl)) ?_
  refine zag rfl rfl (zam rfl tb5 (ev1 rfl) rfl rfl) ?_
  refine zag rfl rfl (zah [] [] [] rfl (ev1 rfl) (ec (ev1 rfl) (ec (ev1 rfl) en)) rfl rfl (rapart_d u.g o.g h2 g2) rfl rfl rfl rfl rfl rfl) ?_
  refine zag rfl rfl (op_add' rfl (ev1 rfl) (ev1 rfl) (fun _ => IntWalk.i64_in _ (by omega))) ?_
  refine zag rfl rfl (op_fa rfl fo27_2 (ev1 rfl)) ?_
  refine zag rfl rfl (zam rfl tb5 (ev1 rfl) rfl rfl) ?_
  refine zag rfl rfl (op_fa rfl fo27_2 (ev1 rfl)) ?_
  refine zag rfl rfl (zam rfl tb5 (ev1 rfl) rfl rfl) ?_
  refine zag rfl rfl (zah [] [] [] rfl (ev1 rfl) (ec (ev1 rfl) (ec (ev1 rfl) en)) rfl rfl (rapart_d u.b o.b h3 g3) rfl rfl rfl rfl rfl rfl) ?_
  refine zag rfl rfl (op_add' rfl (ev1 rfl) (ev1 rfl) (fun _ => IntWalk.i64_in _ (by omega))) ?_
  refine zag rfl rfl (op_fa rfl fo27_3 (ev1 rfl)) ?_
  refine zag rfl rfl (zam rfl tb5 (ev1 rfl) rfl rfl) ?_
  refine zag rfl rfl (op_fa rfl fo27_3 (ev1 rfl)) ?_
  refine zag rfl rfl (zam rfl tb5 (ev1 rfl) rfl rfl) ?_
  refine zag rfl rfl (zah [] [] [] rfl (ev1 rfl) (ec (ev1 rfl) (ec (ev1 rfl) en)) rfl rfl (rapart_d u.a o.a h4 g4) rfl rfl rfl rfl rfl rfl) ?_
  refine zag rfl rfl (op_add' rfl (ev1 rfl) (ev1 rfl) (fun _ => IntWalk.i64_in _ (by omega))) ?_
  refine zag rfl rfl (zac (.inl rfl) (ev1 rfl)) ?_
  refine zag rfl rfl (op_leq rfl (ev1 rfl) (ev1 rfl)) ?_
  refine zag rfl rfl (zac (.inr rfl) (ev1 rfl)) ?_
  refine lex_nil ?_
  refine zao ?_
  refine kend0 (rs1 rfl (rv_t rfl)) rfl ?_
  rfl
set_option maxRecDepth 4000 in
set_option maxHeartbeats 1000000 in
theorem rtol_d (t : Int) : DFun Try.prog 11 [.val (.int .i64 t)] [] (.val (.bool (!badT t))) [] := by
  refine zan (N := 9) 0 (by kernel_rfl) Try.func11 rfl rfl rfl (by simp only [fr0, Nat.zero_add, Nat.reduceAdd]; exact rfl) rfl fun s0 hs0 => ?_
  refine zaf ?_
  refine zad ?_
  refine zab rfl rfl rfl (zac (.inr rfl) (ev1 rfl)) ?_
  refine zae ?_
  refine zaf ?_
  refine zad ?_
  refine zab rfl rfl rfl (zac (.inl rfl) (ev1 rfl)) ?_
  refine zab rfl rfl rfl (op_geq rfl (ev1 rfl) (ev1 rfl)) ?_
  refine zab rfl rfl rfl (zac (.inl rfl) (ev1 rfl)) ?_
  refine walk_gr (gd_t rfl rfl rfl) rfl rfl rfl (zac (.inl rfl) (ev1 rfl)) ?_
  refine walk_gr (gd_t rfl rfl rfl) rfl rfl rfl (op_leq rfl (ev2 rfl) (ev1 rfl)) ?_
  refine zab rfl rfl rfl (op_and rfl (ev1 rfl) (ev3 rfl id)) ?_
  refine zab rfl rfl rfl (zac (.inr rfl) (ev1 rfl)) ?_
  refine zae ?_
  refine zao ?_
  refine kend0 (rs1 rfl (rv_t rfl)) rfl ?_
  rw [D.val.injEq, Value.bool.injEq]
  unfold badT
  rw [Bool.eq_iff_iff]
  simp
set_option maxRecDepth 4000 in
set_option maxHeartbeats 1000000 in
theorem rnb_d (w h : Int) (ts : List TL) (hc : CvOk w h ts) (p : P2) (hp : inF32 p) : DFun Try.prog 44 [shD w h ts, .val (.agg #[.int .i64 p.x, .int .i64 p.y])] [] (.slf 2 (nbL (onP w h) p).length ((nbL (onP w h) p).flatMap p2)) [] := by
  have hp2 := hp
  unfold inF32 at hp2
  have hal := adj_len p
  refine zan (N := 47) 0 (by kernel_rfl) Try.func44 rfl rfl rfl (by simp only [fr0, Nat.zero_add, Nat.reduceAdd]; exact rfl) rfl fun s0 hs0 => ?_
  refine zaf ?_
  refine zai 2 (by simp only [holes, List.cons_append, List.nil_append]; exact rfl) ?_
  refine zad ?_
  refine zaj rfl rfl rfl (op_boxam 0 rfl (ev1 rfl) rfl) (by simp only [upd, zaa, za]; exact rfl) ?_
  refine zaj rfl rfl rfl (op_boxa 1 rfl (ev1 rfl) rfl) (by simp only [upd, zaa, za]; exact rfl) ?_
  refine zab rfl rfl rfl (zac (.inr rfl) (ev1 rfl)) ?_
  refine zae ?_
  refine zaf ?_
  refine zad ?_
  refine zab rfl rfl rfl (zac (.inr rfl) (ev1 rfl)) ?_
  refine zae ?_
  refine zaf ?_
  refine zaf ?_
  refine zad ?_
  refine zab rfl rfl rfl (op_fa rfl fo34_0 (ev1 rfl)) ?_
  refine zab rfl rfl rfl (zam rfl tb3 (ev1 rfl) rfl rfl) ?_
  refine zab rfl rfl rfl (op_sub' rfl (ev1 rfl) (ev1 rfl) (fun _ => IntWalk.i64_in _ (by omega))) ?_
  refine zab rfl rfl rfl (op_fa rfl fo34_1 (ev1 rfl)) ?_
  refine zab rfl rfl rfl (zam rfl tb3 (ev1 rfl) rfl rfl) ?_
  refine zab rfl rfl rfl (op_build (ps := [(0, .tmp 10), (1, .tmp 12)]) rfl fl34 zr34 (vc (ev1 rfl) (vc (ev1 rfl) vn)) rfl rfl) ?_
  refine zab rfl rfl rfl (op_fa rfl fo34_0 (ev1 rfl)) ?_
  refine zab rfl rfl rfl (zam rfl tb3 (ev1 rfl) rfl rfl) ?_
  refine zab rfl rfl rfl (op_add' rfl (ev1 rfl) (ev1 rfl) (fun _ => IntWalk.i64_in _ (by omega))) ?_
  refine zab rfl rfl rfl (op_fa rfl fo34_1 (ev1 rfl)) ?_
  refine zab rfl rfl rfl (zam rfl tb3 (ev1 rfl) rfl rfl) ?_
  refine zab rfl rfl rfl (op_build (ps := [(0, .tmp 16), (1, .tmp 18)]) rfl fl34 zr34 (vc (ev1 rfl) (vc (ev1 rfl) vn)) rfl rfl) ?_
  refine zab rfl rfl rfl (op_fa rfl fo34_0 (ev1 rfl)) ?_
  refine zab rfl rfl rfl (zam rfl tb3 (ev1 rfl) rfl rfl) ?_
  refine zab rfl rfl rfl (op_fa rfl fo34_1 (ev1 rfl)) ?_
  refine zab rfl rfl rfl (zam rfl tb3 (ev1 rfl) rfl rfl) ?_
  refine zab rfl rfl rfl (op_sub' rfl (ev1 rfl) (ev1 rfl) (fun _ => IntWalk.i64_in _ (by omega))) ?_
  refine zab rfl rfl rfl (op_build (ps := [(0, .tmp 21), (1, .tmp 24)]) rfl fl34 zr34 (vc (ev1 rfl) (vc (ev1 rfl) vn)) rfl rfl) ?_
  refine zab rfl rfl rfl (op_fa rfl fo34_0 (ev1 rfl)) ?_
  refine zab rfl rfl rfl (zam rfl tb3 (ev1 rfl) rfl rfl) ?_
  refine zab rfl rfl rfl (op_fa rfl fo34_1 (ev1 rfl)) ?_
  refine zab rfl rfl rfl (zam rfl tb3 (ev1 rfl) rfl rfl) ?_
  refine zab rfl rfl rfl (op_add' rfl (ev1 rfl) (ev1 rfl) (fun _ => IntWalk.i64_in _ (by omega))) ?_
  refine zab rfl rfl rfl (op_build (ps := [(0, .tmp 27), (1, .tmp 30)]) rfl fl34 zr34 (vc (ev1 rfl) (vc (ev1 rfl) vn)) rfl rfl) ?_
  refine zab rfl rfl rfl ((op_bs (ps := [(0, .tmp 13), (1, .tmp 19), (2, .tmp 25), (3, .tmp 31)]) rfl sl64 zr34 rfl (vc (ev1 rfl) (vc (ev1 rfl) (vc (ev1 rfl) (vc (ev1 rfl) vn)))) rfl (by decide) (by decide)).cast (d' := .slf 2 (adjL p).length ((adjL p).flatMap p2)) (by rfl)) ?_
  refine zab rfl rfl rfl (op_len rfl sl64 (ev1 rfl)) ?_
  refine zab rfl rfl rfl (zac (.inl rfl) (ev1 rfl)) ?_
  refine zae ?_
  refine zal ?_
  refine dwp_adopt 5 34 2 rfl rfl rfl ?_
  refine dwp_loopS ⟨hs0, rfl⟩ (α := Nat) (fun i => [(34, .val (.int .i64 (i : Int)))]) [(2, _), (5, _), (32, _), (33, _)] (fun i => [(2, .arr 34 2 ((((adjL p).take i).filter (onP w h))).length (((((adjL p).take i).filter (onP w h))).flatMap p2))]) [_, _, .hole] (fun i => i ≤ (adjL p).length) (fun i => (adjL p).length - i) 0 [0, 1, 2] (Nat.zero_le _) rfl ⟨rfl, rfl, rfl, rfl, trivial⟩ ⟨rfl, trivial⟩ ⟨rfl, rfl, rfl, trivial⟩ ?_
  intro i hx
  simp only [upd, zaa, za, List.cons_append, List.nil_append]
  have hi0 := hx
  have hfl : (((adjL p).take i).filter (onP w h)).length ≤ 4 := Nat.le_trans (List.length_filter_le ..) (Nat.le_trans (List.length_take_le ..) (by omega))
  refine zaf ?_
  refine zad ?_
  refine zab rfl rfl rfl (op_lss rfl (ev1 rfl) (ev1 rfl)) ?_
  refine zae ?_
  refine zaf ?_
  refine dwp_cond rfl (fun c1 => ?_) (fun c1 => ?_)
  · try simp only [decide_eq_true_eq, decide_eq_false_iff_not, beq_iff_eq, bne_iff_ne, beq_eq_false_iff_ne, bne_eq_false_iff_eq, Bool.not_eq_true', Bool.not_eq_false', Bool.and_eq_true, Bool.or_eq_true, Bool.or_eq_false_iff, ne_eq, Decidable.not_not, Int.not_lt, Int.not_le] at c1
    refine zak ?_
    refine zaf ?_
    refine zal ?_
    refine zaf ?_
    have hi : i < (adjL p).length := by omega
    refine zai 1 (by simp only [holes, List.cons_append, List.nil_append]; exact rfl) ?_
    refine zad ?_
    refine zab rfl rfl rfl (op_ixsr (j := i) rfl sl64 (ev1 rfl) (ev1 rfl) (fun _ => rfl) (by decide) (by omega) (by omega)) ?_
    refine zab rfl rfl rfl (op_ldwd rfl tb34 (ev1 rfl) rfl) ?_
    refine zaj rfl rfl rfl (op_alloc 3 rfl zr34 rfl) (by simp only [upd, zaa, za]; exact rfl) ?_
    refine walk_s rfl rfl (op_stwa rfl tb34 (ev1 rfl) (ev1 rfl) rfl rfl rfl rfl) (by simp only [upd, zaa, za]; exact rfl) ?_
    refine zae ?_
    refine zaf ?_
    refine zad ?_
    refine zab rfl rfl rfl (op_ldmw rfl tb24 (ev1 rfl) rfl rfl) ?_
    refine zab rfl rfl rfl (op_ldw rfl tb34 (ev1 rfl) rfl rfl) ?_
    refine zab rfl rfl rfl (zah [] [] [] rfl (ev1 rfl) (ec (ev1 rfl) (ec (ev1 rfl) en)) rfl rfl (ron_d w h ts hc _) rfl rfl rfl rfl rfl rfl) ?_
    refine zae ?_
    refine dwp_cond rfl (fun c2 => ?_) (fun c2 => ?_)
    · refine zai 1 (by simp only [holes, List.cons_append, List.nil_append]; exact rfl) ?_
      refine zad ?_
      refine zab rfl rfl rfl (zac (.inl rfl) (ev1 rfl)) ?_
      refine zab rfl rfl rfl (op_ldw rfl tb34 (ev1 rfl) rfl rfl) ?_
      refine zab rfl rfl rfl (op_bs (ps := [(0, .tmp 42)]) rfl sl64 zr34 rfl (vc (ev1 rfl) vn) rfl (by decide) (by decide)) ?_
      refine zaj rfl rfl rfl (op_app (j := 4) rfl sl64 zr34 rfl (ev1 rfl) (ev1 rfl) src_slf rfl rfl (fun _ => rfl) (fun _ => ⟨by omega, by omega⟩)) (by simp only [upd, zaa, za]; exact rfl) ?_
      refine zab rfl rfl rfl (zac (.inr rfl) (ev1 rfl)) ?_
      refine zae ?_
      refine zad ?_
      refine zab rfl rfl rfl (op_add' rfl (ev1 rfl) (ev1 rfl) (fun _ => IntWalk.i64_in _ (by omega))) ?_
      refine zab rfl rfl rfl (zac (.inl rfl) (ev1 rfl)) ?_
      refine zae ?_
      refine ⟨i + 1, [0, 1, 4], by omega, by simp only []; omega, rfl, ⟨rfl, rfl, rfl, rfl, rfl, trivial⟩, ⟨rfl, rfl, arr_eq (by rw [tk_filt hi, if_pos c2, List.length_append]; rfl) (by rw [tk_filt hi, if_pos c2, List.flatMap_append]; rfl), trivial⟩⟩
    · refine zak ?_
      refine zad ?_
      refine zab rfl rfl rfl (op_add' rfl (ev1 rfl) (ev1 rfl) (fun _ => IntWalk.i64_in _ (by omega))) ?_
      refine zab rfl rfl rfl (zac (.inl rfl) (ev1 rfl)) ?_
      refine zae ?_
      refine ⟨i + 1, [0, 1, 2], by omega, by simp only []; omega, rfl, ⟨rfl, rfl, rfl, rfl, rfl, trivial⟩, ⟨rfl, rfl, arr_eq (by rw [tk_filt hi, if_neg (by rw [c2]; decide), List.append_nil]) (by rw [tk_filt hi, if_neg (by rw [c2]; decide), List.append_nil]), trivial⟩⟩
  · try simp only [decide_eq_true_eq, decide_eq_false_iff_not, beq_iff_eq, bne_iff_ne, beq_eq_false_iff_ne, bne_eq_false_iff_eq, Bool.not_eq_true', Bool.not_eq_false', Bool.and_eq_true, Bool.or_eq_true, Bool.or_eq_false_iff, ne_eq, Decidable.not_not, Int.not_lt, Int.not_le] at c1
    refine dwp_exit ?_
    refine zaf ?_
    refine dwp_giveA 5 rfl rfl (by simp only [zaa, za]; exact rfl) ?_
    refine zad ?_
    refine zab rfl rfl rfl (zac (.inl rfl) (ev1 rfl)) ?_
    refine zab rfl rfl rfl (zac (.inr rfl) (ev1 rfl)) ?_
    refine zae ?_
    refine zao ?_
    refine kend0 (rs1 rfl (rv_t rfl)) rfl ?_
    obtain rfl : i = 4 := by omega
    rfl
end Go.Proofs.Ytfnhckildfbikaa
namespace Go.Proofs.Ytfnhckildfbikaa
set_option maxRecDepth 4000
set_option linter.unusedVariables false
set_option linter.unusedSimpArgs false
open Go.RowKit
attribute [local irreducible] zFD srL goF bfsF
attribute [local irreducible] spF spN prK
theorem ar43 : arE Try.prog 43 = some (32, 1) := by kernel_rfl
theorem ar45 : arE Try.prog 45 = some (32, 32) := by kernel_rfl
theorem tb45 : tyB Try.prog 45 = some (true, 1024) := by kernel_rfl
theorem zr45 : zrC Try.prog 45 = some (zFV) := by kernel_rfl
theorem visF_pos {near : P2 → Bool} {v : Nat} {s : FD × List P2} {q : P2} (h : s.1.at q = 0 ∧ near q = true) : visF near v s q = (s.1.put q v, s.2 ++ [q]) := if_pos h
theorem visF_neg {near : P2 → Bool} {v : Nat} {s : FD × List P2} {q : P2} (h : ¬ (s.1.at q = 0 ∧ near q = true)) : visF near v s q = s := if_neg h
theorem fV_fit0 {p : P2} (hp : inF32 p) : 0 + p.y.toNat * 32 + p.x.toNat * 1 + 1 ≤ zFV.length := by rw [fV_zero]; exact fV_fit hp
theorem fV_set0 {p : P2} (hp : inF32 p) : setL zFV (0 + p.y.toNat * 32 + p.x.toNat * 1) [.int .i64 1] = fV (zFD.put p 1) := by rw [fV_zero]; exact fV_set (v := 1) hp
theorem GrI.len {On near : P2 → Bool} {T f : FD} {q : List P2} (h : GrI On near T f q) : q.length ≤ 5000 := by
  obtain ⟨K, KT, h⟩ := h
  cases q with
  | nil => simp
  | cons a r => have := h.bd.2.2; rw [List.length_cons]; omega
theorem nearB_iff {w : Int} {ts : List TL} {tol : Int} {c : C4} {b : FD} {q : P2} : nearB w ts tol c b q = true ↔ b.at q = 0 ∧ nearC tol c (getC w ts q.x q.y) = true := by
  unfold nearB nearP
  rw [Bool.and_eq_true, decide_eq_true_eq]
theorem zFV_len : zFV.length = 1024 := List.length_replicate
set_option maxRecDepth 4000 in
set_option maxHeartbeats 1000000 in
theorem rgrown_d (w h : Int) (ts : List TL) (hc : CvOk w h ts) (hg : tsRng ts) (p : P2) (hp : onP w h p = true) (tol : Int) (b : FD) : DFun Try.prog 13 [shD w h ts, .val (.agg #[.int .i64 p.x, .int .i64 p.y]), .val (.int .i64 tol), .val (.agg (fV b).toArray)] [] (.val (.agg (fV (grF w h ts tol b p)).toArray)) [] := by
  have hpi := onP_in hc.may p hp
  have hpi3 := hpi
  unfold inF32 at hpi3
  refine zan (N := 93) 0 (by kernel_rfl) Try.func13 rfl rfl rfl (by simp only [fr0, Nat.zero_add, Nat.reduceAdd]; exact rfl) rfl fun s0 hs0 => ?_
  refine zaf ?_
  refine zai 4 (by simp only [holes, List.cons_append, List.nil_append]; exact rfl) ?_
  refine zad ?_
  refine zaj rfl rfl rfl (op_boxam 0 rfl (ev1 rfl) rfl) (by simp only [upd, zaa, za]; exact rfl) ?_
  refine zaj rfl rfl rfl (op_boxa 1 rfl (ev1 rfl) rfl) (by simp only [upd, zaa, za]; exact rfl) ?_
  refine zaj rfl rfl rfl (op_boxa 2 rfl (ev1 rfl) rfl) (by simp only [upd, zaa, za]; exact rfl) ?_
  refine zaj rfl rfl rfl (op_alloc 3 rfl zr45 rfl) (by simp only [upd, zaa, za]; exact rfl) ?_
  refine zae ?_
  refine zaf ?_
  refine zai 1 (by simp only [holes, List.cons_append, List.nil_append]; exact rfl) ?_
  refine zad ?_
  refine zaj rfl rfl rfl (op_alloc 4 rfl zr45 rfl) (by simp only [upd, zaa, za]; exact rfl) ?_
  refine zae ?_
  refine zaf ?_
  refine dwp_draw [([], []), ([1], []), ([], []), ([1], []), ([], []), ([], []), ([4], [4])] mixed (by kernel_rfl) ?_
  refine zag rfl rfl (op_fa rfl fo34_1 (ev1 rfl)) ?_
  refine zag rfl rfl (zam rfl tb3 (ev1 rfl) rfl rfl) ?_
  refine zag rfl rfl (op_fa rfl fo34_0 (ev1 rfl)) ?_
  refine zag rfl rfl (zam rfl tb3 (ev1 rfl) rfl rfl) ?_
  refine zag rfl rfl (op_ixl rfl ar45 (ev1 rfl) (ev1 rfl) (fun _ => by omega)) ?_
  refine zag rfl rfl (op_ixl rfl ar43 (ev1 rfl) (ev1 rfl) (fun _ => by omega)) ?_
  refine lex_s rfl rfl (op_st rfl tb3 (ev1 rfl) (ev1 rfl) rfl rfl rfl rfl (fV_fit0 hpi) (fV_set0 hpi)) rfl (by simp only [upd, zaa, za]; exact rfl) ?_
  refine lex_nil ?_
  refine zaf ?_
  refine zad ?_
  refine zab rfl rfl rfl (op_ldw rfl tb34 (ev1 rfl) rfl rfl) ?_
  refine zab rfl rfl rfl (op_bs (ps := [(0, .tmp 23)]) rfl sl64 zr34 rfl (vc (ev1 rfl) vn) rfl (by decide) (by decide)) ?_
  refine zab rfl rfl rfl (zac (.inr rfl) (ev1 rfl)) ?_
  refine zae ?_
  refine zaf ?_
  refine zai 1 (by simp only [holes, List.cons_append, List.nil_append]; exact rfl) ?_
  refine zad ?_
  refine zab rfl rfl rfl (op_ldmw rfl tb24 (ev1 rfl) rfl rfl) ?_
  refine zab rfl rfl rfl (op_ldw rfl tb34 (ev1 rfl) rfl rfl) ?_
  refine zab rfl rfl rfl (zah [] [] [] rfl (ev1 rfl) (ec (ev1 rfl) (ec (ev1 rfl) en)) rfl rfl (rat8_d w h ts p hc hp) rfl rfl rfl rfl rfl rfl) ?_
  refine zaj rfl rfl rfl (op_alloc 5 rfl zr27 rfl) (by simp only [upd, zaa, za]; exact rfl) ?_
  refine walk_s rfl rfl (op_stwa rfl tb27 (ev1 rfl) (ev1 rfl) rfl rfl rfl rfl) (by simp only [upd, zaa, za]; exact rfl) ?_
  refine zae ?_
  refine zaf ?_
  refine zal ?_
  refine dwp_loopS ⟨hs0, rfl⟩ (α := FD × List P2) (fun x => [(10, .slf 2 x.2.length (x.2.flatMap p2))]) [(2, _), (4, _), (7, _), (8, _), (9, _), (11, _)] (fun x => [(4, .flat 45 (fV x.1))]) [_, _, _, _, .hole, _] (fun x => GrI (onP w h) (nearB w ts tol (getC w ts p.x p.y) b) (grF w h ts tol b p) x.1 x.2) (fun x => zrF x.1 + x.2.length) (zFD.put p 1, [p]) [0, 1, 2, 3, 4, 5] (GrI.start (onP_in hc.may) hp) rfl ⟨rfl, rfl, rfl, rfl, rfl, rfl, trivial⟩ ⟨rfl, trivial⟩ ⟨rfl, rfl, rfl, rfl, rfl, rfl, trivial⟩ ?_
  intro x hx
  simp only [upd, zaa, za, List.cons_append, List.nil_append]
  obtain ⟨f, q⟩ := x
  have hI : GrI (onP w h) (nearB w ts tol (getC w ts p.x p.y) b) (grF w h ts tol b p) f q := hx
  clear hx
  have hql := hI.len
  refine zaf ?_
  refine zaf ?_
  refine zad ?_
  refine zab rfl rfl rfl (zac (.inl rfl) (ev1 rfl)) ?_
  refine zab rfl rfl rfl (op_len rfl sl64 (ev1 rfl)) ?_
  refine zab rfl rfl rfl (op_gtr rfl (ev1 rfl) (ev1 rfl)) ?_
  refine zae ?_
  refine dwp_cond rfl (fun c1 => ?_) (fun c1 => ?_)
  · have hq0 : (0 : Int) < (q.length : Int) := of_decide_eq_true c1
    refine zak ?_
    refine zal ?_
    refine zaf ?_
    refine zad ?_
    refine zab rfl rfl rfl (zac (.inr rfl) (ev1 rfl)) ?_
    refine zae ?_
    refine zaf ?_
    refine zaf ?_
    refine zad ?_
    refine zab rfl rfl rfl (zac (.inl rfl) (ev1 rfl)) ?_
    refine zab rfl rfl rfl (op_len rfl sl64 (ev1 rfl)) ?_
    refine zab rfl rfl rfl (zac (.inl rfl) (ev1 rfl)) ?_
    refine zae ?_
    refine zal ?_
    refine dwp_adopt 12 34 2 rfl rfl rfl ?_
    refine dwp_loopS ⟨hs0, rfl⟩ (α := Nat) (fun i => [(33, .val (.int .i64 (i : Int)))]) [(2, _), (4, _), (7, _), (8, _), (9, _), (11, _), (12, _), (31, _), (32, _)] (fun i => [(4, .flat 45 (fV (wvK (onP w h) (nearB w ts tol (getC w ts p.x p.y) b) f q i).1)), (6, .arr 34 2 ((wvK (onP w h) (nearB w ts tol (getC w ts p.x p.y) b) f q i).2).length (((wvK (onP w h) (nearB w ts tol (getC w ts p.x p.y) b) f q i).2).flatMap p2))]) [_, _, _, _, .hole, _, .hole] (fun i => i ≤ q.length ∧ GrI (onP w h) (nearB w ts tol (getC w ts p.x p.y) b) (grF w h ts tol b p) (wvK (onP w h) (nearB w ts tol (getC w ts p.x p.y) b) f q i).1 (q.drop i ++ (wvK (onP w h) (nearB w ts tol (getC w ts p.x p.y) b) f q i).2) ∧ zrF (wvK (onP w h) (nearB w ts tol (getC w ts p.x p.y) b) f q i).1 + (wvK (onP w h) (nearB w ts tol (getC w ts p.x p.y) b) f q i).2.length = zrF f) (fun i => q.length - i) 0 [0, 1, 2, 3, 4, 5, 6] (⟨Nat.zero_le _, by rw [List.drop_zero, wvK_zero, List.append_nil]; exact hI, rfl⟩) rfl ⟨rfl, rfl, rfl, rfl, rfl, rfl, rfl, rfl, rfl, trivial⟩ ⟨rfl, trivial⟩ ⟨rfl, rfl, rfl, rfl, rfl, rfl, rfl, trivial⟩ ?_
    intro i hx
    simp only [upd, zaa, za, List.cons_append, List.nil_append]
    obtain ⟨hi0, hG, hz⟩ := hx
    refine zaf ?_
    refine zad ?_
    refine zab rfl rfl rfl (op_lss rfl (ev1 rfl) (ev1 rfl)) ?_
    refine zae ?_
    refine zaf ?_
    refine dwp_cond rfl (fun c2 => ?_) (fun c2 => ?_)
    · try simp only [decide_eq_true_eq, decide_eq_false_iff_not, beq_iff_eq, bne_iff_ne, beq_eq_false_iff_ne, bne_eq_false_iff_eq, Bool.not_eq_true', Bool.not_eq_false', Bool.and_eq_true, Bool.or_eq_true, Bool.or_eq_false_iff, ne_eq, Decidable.not_not, Int.not_lt, Int.not_le] at c2
      refine zak ?_
      refine zaf ?_
      refine zal ?_
      refine zaf ?_
      have hi : i < q.length := by omega
      obtain ⟨hop, ⟨hp0, hp1⟩, hnl⟩ := GrI.bd hi hG
      have hpi2 := onP_in hc.may _ hop
      have hpi4 := hpi2
      unfold inF32 at hpi4
      have hnbl := nbL_len (onP w h) q[i]
      refine zai 1 (by simp only [holes, List.cons_append, List.nil_append]; exact rfl) ?_
      refine zad ?_
      refine zab rfl rfl rfl (op_ixsr (j := i) rfl sl64 (ev1 rfl) (ev1 rfl) (fun _ => rfl) (by decide) (by omega) (by omega)) ?_
      refine zab rfl rfl rfl (op_ldwd rfl tb34 (ev1 rfl) rfl) ?_
      refine zaj rfl rfl rfl (op_alloc 7 rfl zr34 rfl) (by simp only [upd, zaa, za]; exact rfl) ?_
      refine walk_s rfl rfl (op_stwa rfl tb34 (ev1 rfl) (ev1 rfl) rfl rfl rfl rfl) (by simp only [upd, zaa, za]; exact rfl) ?_
      refine zae ?_
      refine zaf ?_
      refine zad ?_
      refine zab rfl rfl rfl (op_ldmw rfl tb24 (ev1 rfl) rfl rfl) ?_
      refine zab rfl rfl rfl (op_ldw rfl tb34 (ev1 rfl) rfl rfl) ?_
      refine zab rfl rfl rfl (zah [] [] [] rfl (ev1 rfl) (ec (ev1 rfl) (ec (ev1 rfl) en)) rfl rfl (rnb_d w h ts hc q[i] hpi2) rfl rfl rfl rfl rfl rfl) ?_
      refine zab rfl rfl rfl (op_len rfl sl64 (ev1 rfl)) ?_
      refine zab rfl rfl rfl (zac (.inl rfl) (ev1 rfl)) ?_
      refine zae ?_
      refine zal ?_
      refine dwp_loopS ⟨hs0, rfl⟩ (α := Nat) (fun j => [(41, .val (.int .i64 (j : Int)))]) [(2, _), (4, _), (7, _), (8, _), (9, _), (11, _), (12, _), (14, _), (31, _), (32, _), (33, _), (39, _), (40, _)] (fun j => [(4, .flat 45 (fV (gnK (onP w h) (nearB w ts tol (getC w ts p.x p.y) b) (wvK (onP w h) (nearB w ts tol (getC w ts p.x p.y) b) f q i).1 q[i] j).1)), (6, .arr 34 2 ((wvK (onP w h) (nearB w ts tol (getC w ts p.x p.y) b) f q i).2 ++ (gnK (onP w h) (nearB w ts tol (getC w ts p.x p.y) b) (wvK (onP w h) (nearB w ts tol (getC w ts p.x p.y) b) f q i).1 q[i] j).2).length (((wvK (onP w h) (nearB w ts tol (getC w ts p.x p.y) b) f q i).2 ++ (gnK (onP w h) (nearB w ts tol (getC w ts p.x p.y) b) (wvK (onP w h) (nearB w ts tol (getC w ts p.x p.y) b) f q i).1 q[i] j).2).flatMap p2))]) [_, _, _, _, .hole, _, .hole, _] (fun j => j ≤ (nbL (onP w h) q[i]).length) (fun j => (nbL (onP w h) q[i]).length - j) 0 [0, 1, 2, 3, 4, 5, 6, 7] (Nat.zero_le _) rfl ⟨rfl, rfl, rfl, rfl, rfl, rfl, rfl, rfl, rfl, rfl, rfl, rfl, rfl, trivial⟩ ⟨rfl, trivial⟩ ⟨rfl, rfl, rfl, rfl, by rw [gnK_zero]; rfl, rfl, arr_eq (by rw [gnK_zero, List.append_nil]) (by rw [gnK_zero, List.append_nil]), rfl, trivial⟩ ?_
      intro j hx
      simp only [upd, zaa, za, List.cons_append, List.nil_append]
      have hj0 := hx
      have hgl := gnK_len (On := onP w h) (near := (nearB w ts tol (getC w ts p.x p.y) b)) (wvK (onP w h) (nearB w ts tol (getC w ts p.x p.y) b) f q i).1 q[i] j
      have hall : ((wvK (onP w h) (nearB w ts tol (getC w ts p.x p.y) b) f q i).2 ++ (gnK (onP w h) (nearB w ts tol (getC w ts p.x p.y) b) (wvK (onP w h) (nearB w ts tol (getC w ts p.x p.y) b) f q i).1 q[i] j).2).length ≤ 5000 := by rw [List.length_append]; omega
      have hold := gnK_old (onP_in hc.may) (near := (nearB w ts tol (getC w ts p.x p.y) b)) (p := q[i]) (j := j) hop hp0
      refine zaf ?_
      refine zad ?_
      refine zab rfl rfl rfl (op_lss rfl (ev1 rfl) (ev1 rfl)) ?_
      refine zae ?_
      refine zaf ?_
      refine dwp_cond rfl (fun c3 => ?_) (fun c3 => ?_)
      · try simp only [decide_eq_true_eq, decide_eq_false_iff_not, beq_iff_eq, bne_iff_ne, beq_eq_false_iff_ne, bne_eq_false_iff_eq, Bool.not_eq_true', Bool.not_eq_false', Bool.and_eq_true, Bool.or_eq_true, Bool.or_eq_false_iff, ne_eq, Decidable.not_not, Int.not_lt, Int.not_le] at c3
        refine zak ?_
        refine zaf ?_
        refine zal ?_
        refine zaf ?_
        have hj : j < (nbL (onP w h) q[i]).length := by omega
        obtain ⟨hadj, hon⟩ := nb_iff.1 (List.getElem_mem hj)
        have hni := onP_in hc.may _ hon
        have hni2 := hni
        unfold inF32 at hni2
        refine zai 1 (by simp only [holes, List.cons_append, List.nil_append]; exact rfl) ?_
        refine zad ?_
        refine zab rfl rfl rfl (op_ixsr (j := j) rfl sl64 (ev1 rfl) (ev1 rfl) (fun _ => rfl) (by decide) (by omega) (by omega)) ?_
        refine zab rfl rfl rfl (op_ldwd rfl tb34 (ev1 rfl) rfl) ?_
        refine zaj rfl rfl rfl (op_alloc 8 rfl zr34 rfl) (by simp only [upd, zaa, za]; exact rfl) ?_
        refine walk_s rfl rfl (op_stwa rfl tb34 (ev1 rfl) (ev1 rfl) rfl rfl rfl rfl) (by simp only [upd, zaa, za]; exact rfl) ?_
        refine zae ?_
        refine zaf ?_
        refine dwp_draw [([], []), ([8], []), ([], []), ([8], []), ([], []), ([], []), ([4], []), ([], []), ([], []), ([], []), ([8], []), ([], []), ([8], []), ([], []), ([], []), ([2], []), ([], []), ([], []), ([], []), ([5], []), ([0], []), ([8], []), ([], []), ([], []), ([], []), ([], [])] mixed (by kernel_rfl) ?_
        refine zag rfl rfl (op_fa rfl fo34_1 (ev1 rfl)) ?_
        refine zag rfl rfl (zam rfl tb3 (ev1 rfl) rfl rfl) ?_
        refine zag rfl rfl (op_fa rfl fo34_0 (ev1 rfl)) ?_
        refine zag rfl rfl (zam rfl tb3 (ev1 rfl) rfl rfl) ?_
        refine zag rfl rfl (op_ixl rfl ar45 (ev1 rfl) (ev1 rfl) (fun _ => by omega)) ?_
        refine zag rfl rfl (op_ixl rfl ar43 (ev1 rfl) (ev1 rfl) (fun _ => by omega)) ?_
        refine zag rfl rfl (zam rfl tb3 (ev1 rfl) rfl (fV_at hni)) ?_
        refine zag rfl rfl (op_eql rfl (ev1 rfl) (ev1 rfl)) ?_
        refine zag rfl rfl (zac (.inl rfl) (ev1 rfl)) ?_
        refine lex_gr (gd_t rfl rfl rfl) rfl rfl (op_fa rfl fo34_1 (ev1 rfl)) ?_
        refine lex_gr (gd_t rfl rfl rfl) rfl rfl (zam rfl tb3 (ev2 rfl) rfl rfl) ?_
        refine lex_gr (gd_t rfl rfl rfl) rfl rfl (op_fa rfl fo34_0 (ev1 rfl)) ?_
        refine lex_gr (gd_t rfl rfl rfl) rfl rfl (zam rfl tb3 (ev2 rfl) rfl rfl) ?_
        refine lex_gr (gd_t rfl rfl rfl) rfl rfl (op_ixl rfl ar45 (ev1 rfl) (ev2 rfl) (fun _ => by omega)) ?_
        refine lex_gr (gd_t rfl rfl rfl) rfl rfl (op_ixl rfl ar43 (ev2 rfl) (ev2 rfl) (fun _ => by omega)) ?_
        refine lex_gr (gd_t rfl rfl rfl) rfl rfl (zam rfl tb3 (ev2 rfl) rfl (fV_at hni)) ?_
        refine lex_gr (gd_t rfl rfl rfl) rfl rfl (op_eql rfl (ev2 rfl) (ev1 rfl)) ?_
        refine zag rfl rfl (op_and rfl (ev1 rfl) (ev3 rfl id)) ?_
        refine zag rfl rfl (zac (.inl rfl) (ev1 rfl)) ?_
        refine lex_gr (gd_t rfl rfl rfl) rfl rfl (op_ldw rfl tb27 (ev1 rfl) rfl rfl) ?_
        refine lex_gr (gd_t rfl rfl rfl) rfl rfl (op_ldmw rfl tb24 (ev1 rfl) rfl rfl) ?_
        refine lex_gr (gd_t rfl rfl rfl) rfl rfl (op_ldw rfl tb34 (ev1 rfl) rfl rfl) ?_
        refine lex_gr (gd_t rfl rfl rfl) rfl rfl (zah [] [] [] rfl (ev1 rfl) (ec (ev2 rfl) (ec (ev2 rfl) en)) rfl rfl (rat8_d w h ts _ hc hon) rfl rfl rfl rfl rfl rfl) ?_
        refine lex_gr (gd_t rfl rfl rfl) rfl rfl (zac (.inl rfl) (ev1 rfl)) ?_
        refine lex_gr (gd_t rfl rfl rfl) rfl rfl (zah [] [] [] rfl (ev1 rfl) (ec (ev2 rfl) (ec (ev2 rfl) (ec (ev2 rfl) en))) rfl rfl (rnear8_d _ _ (getC_rng hg _ _ _) (getC_rng hg _ _ _) tol) rfl rfl rfl rfl rfl rfl) ?_
        refine zag rfl rfl (op_and rfl (ev1 rfl) (ev3 rfl id)) ?_
        refine lex_nil ?_
        refine dwp_cond rfl (fun c3 => ?_) (fun c3 => ?_)
        · have hc1 : (gnK (onP w h) (nearB w ts tol (getC w ts p.x p.y) b) (wvK (onP w h) (nearB w ts tol (getC w ts p.x p.y) b) f q i).1 q[i] j).1.at (nbL (onP w h) q[i])[j] = 0 ∧ (nearB w ts tol (getC w ts p.x p.y) b) (nbL (onP w h) q[i])[j] = true := by
            simp only [Bool.and_eq_true, beq_iff_eq] at c3
            exact ⟨by omega, nearB_iff.2 ⟨by omega, c3.2⟩⟩
          refine zaf ?_
          refine dwp_draw [([], []), ([8], []), ([], []), ([8], []), ([], []), ([7], []), ([], []), ([7], []), ([], []), ([], []), ([4], []), ([], []), ([], []), ([], []), ([4], [4])] mixed (by kernel_rfl) ?_
          refine zag rfl rfl (op_fa rfl fo34_1 (ev1 rfl)) ?_
          refine zag rfl rfl (zam rfl tb3 (ev1 rfl) rfl rfl) ?_
          refine zag rfl rfl (op_fa rfl fo34_0 (ev1 rfl)) ?_
          refine zag rfl rfl (zam rfl tb3 (ev1 rfl) rfl rfl) ?_
          refine zag rfl rfl (op_fa rfl fo34_1 (ev1 rfl)) ?_
          refine zag rfl rfl (zam rfl tb3 (ev1 rfl) rfl rfl) ?_
          refine zag rfl rfl (op_fa rfl fo34_0 (ev1 rfl)) ?_
          refine zag rfl rfl (zam rfl tb3 (ev1 rfl) rfl rfl) ?_
          refine zag rfl rfl (op_ixl rfl ar45 (ev1 rfl) (ev1 rfl) (fun _ => by omega)) ?_
          refine zag rfl rfl (op_ixl rfl ar43 (ev1 rfl) (ev1 rfl) (fun _ => by omega)) ?_
          refine zag rfl rfl (zam rfl tb3 (ev1 rfl) rfl (fV_at hpi2)) ?_
          refine zag rfl rfl ((op_add' rfl (ev1 rfl) (ev1 rfl) (fun _ => IntWalk.i64_in _ (by omega))).cast (d' := .val (.int .i64 (((wvK (onP w h) (nearB w ts tol (getC w ts p.x p.y) b) f q i).1.at q[i] + 1 : Nat) : Int))) (by rw [hold]; rfl)) ?_
          refine zag rfl rfl (op_ixl rfl ar45 (ev1 rfl) (ev1 rfl) (fun _ => by omega)) ?_
          refine zag rfl rfl (op_ixl rfl ar43 (ev1 rfl) (ev1 rfl) (fun _ => by omega)) ?_
          refine lex_s rfl rfl (op_st rfl tb3 (ev1 rfl) (ev1 rfl) rfl rfl rfl rfl (fV_fit hni) (fV_set hni)) rfl (by simp only [upd, zaa, za]; exact rfl) ?_
          refine lex_nil ?_
          refine zai 1 (by simp only [holes, List.cons_append, List.nil_append]; exact rfl) ?_
          refine zad ?_
          refine zab rfl rfl rfl (zac (.inl rfl) (ev1 rfl)) ?_
          refine zab rfl rfl rfl (op_ldw rfl tb34 (ev1 rfl) rfl rfl) ?_
          refine zab rfl rfl rfl (op_bs (ps := [(0, .tmp 86)]) rfl sl64 zr34 rfl (vc (ev1 rfl) vn) rfl (by decide) (by decide)) ?_
          refine zaj rfl rfl rfl (op_app (j := 9) rfl sl64 zr34 rfl (ev1 rfl) (ev1 rfl) src_slf rfl rfl (fun _ => rfl) (fun _ => ⟨by omega, by omega⟩)) (by simp only [upd, zaa, za]; exact rfl) ?_
          refine zab rfl rfl rfl (zac (.inr rfl) (ev1 rfl)) ?_
          refine zae ?_
          refine zad ?_
          refine zab rfl rfl rfl (op_add' rfl (ev1 rfl) (ev1 rfl) (fun _ => IntWalk.i64_in _ (by omega))) ?_
          refine zab rfl rfl rfl (zac (.inl rfl) (ev1 rfl)) ?_
          refine zae ?_
          refine ⟨j + 1, [0, 1, 2, 3, 4, 5, 9, 7], by omega, by simp only []; omega, rfl, ⟨rfl, rfl, rfl, rfl, rfl, rfl, rfl, rfl, rfl, rfl, rfl, rfl, rfl, rfl, trivial⟩, ⟨rfl, rfl, rfl, rfl, by rw [gnK_add hj, visF_pos hc1]; rfl, rfl, arr_eq (by rw [gnK_add hj, visF_pos hc1, ← List.append_assoc, List.length_append (bs := [_])]; rfl) (by rw [gnK_add hj, visF_pos hc1, ← List.append_assoc, List.flatMap_append (ys := [_])]; rfl), rfl, trivial⟩⟩
        · have hc1 : ¬ ((gnK (onP w h) (nearB w ts tol (getC w ts p.x p.y) b) (wvK (onP w h) (nearB w ts tol (getC w ts p.x p.y) b) f q i).1 q[i] j).1.at (nbL (onP w h) q[i])[j] = 0 ∧ (nearB w ts tol (getC w ts p.x p.y) b) (nbL (onP w h) q[i])[j] = true) := by
            rintro ⟨g1, g2⟩
            obtain ⟨g3, g4⟩ := nearB_iff.1 g2
            rw [g4, g1, g3] at c3
            exact absurd c3 (by decide)
          refine zak ?_
          refine zad ?_
          refine zab rfl rfl rfl (op_add' rfl (ev1 rfl) (ev1 rfl) (fun _ => IntWalk.i64_in _ (by omega))) ?_
          refine zab rfl rfl rfl (zac (.inl rfl) (ev1 rfl)) ?_
          refine zae ?_
          refine ⟨j + 1, [0, 1, 2, 3, 4, 5, 6, 7], by omega, by simp only []; omega, rfl, ⟨rfl, rfl, rfl, rfl, rfl, rfl, rfl, rfl, rfl, rfl, rfl, rfl, rfl, rfl, trivial⟩, ⟨rfl, rfl, rfl, rfl, by rw [gnK_add hj, visF_neg hc1]; rfl, rfl, by rw [gnK_add hj, visF_neg hc1]; rfl, rfl, trivial⟩⟩
      · try simp only [decide_eq_true_eq, decide_eq_false_iff_not, beq_iff_eq, bne_iff_ne, beq_eq_false_iff_ne, bne_eq_false_iff_eq, Bool.not_eq_true', Bool.not_eq_false', Bool.and_eq_true, Bool.or_eq_true, Bool.or_eq_false_iff, ne_eq, Decidable.not_not, Int.not_lt, Int.not_le] at c3
        refine dwp_exit ?_
        refine zad ?_
        refine zab rfl rfl rfl (op_add' rfl (ev1 rfl) (ev1 rfl) (fun _ => IntWalk.i64_in _ (by omega))) ?_
        refine zab rfl rfl rfl (zac (.inl rfl) (ev1 rfl)) ?_
        refine zae ?_
        have hge := gnK_end (On := onP w h) (near := (nearB w ts tol (getC w ts p.x p.y) b)) (f := (wvK (onP w h) (nearB w ts tol (getC w ts p.x p.y) b) f q i).1) (p := q[i]) (j := j) (by omega)
        refine ⟨i + 1, [0, 1, 2, 3, 4, 5, 6], ⟨by omega, GrI.step (onP_in hc.may) hi hG, wv_zr (onP_in hc.may) hi hz⟩, by simp only []; omega, rfl, ⟨rfl, rfl, rfl, rfl, rfl, rfl, rfl, rfl, rfl, rfl, trivial⟩, ⟨rfl, rfl, rfl, rfl, by rw [wvK_add hi, ← hge]; rfl, rfl, by rw [wvK_add hi, ← hge]; rfl, trivial⟩⟩
    · try simp only [decide_eq_true_eq, decide_eq_false_iff_not, beq_iff_eq, bne_iff_ne, beq_eq_false_iff_ne, bne_eq_false_iff_eq, Bool.not_eq_true', Bool.not_eq_false', Bool.and_eq_true, Bool.or_eq_true, Bool.or_eq_false_iff, ne_eq, Decidable.not_not, Int.not_lt, Int.not_le] at c2
      refine dwp_exit ?_
      refine dwp_giveA 12 rfl rfl (by simp only [zaa, za]; exact rfl) ?_
      obtain rfl : i = q.length := by omega
      refine zad ?_
      refine zab rfl rfl rfl (zac (.inl rfl) (ev1 rfl)) ?_
      refine zab rfl rfl rfl (zac (.inr rfl) (ev1 rfl)) ?_
      refine zae ?_
      refine ⟨(wvK (onP w h) (nearB w ts tol (getC w ts p.x p.y) b) f q q.length), [0, 1, 2, 3, 4, 5], by rw [List.drop_length, List.nil_append] at hG; exact hG, (by show zrF (wvK (onP w h) (nearB w ts tol (getC w ts p.x p.y) b) f q q.length).1 + (wvK (onP w h) (nearB w ts tol (getC w ts p.x p.y) b) f q q.length).2.length < zrF f + q.length; omega), rfl, ⟨rfl, rfl, rfl, rfl, rfl, rfl, rfl, trivial⟩, ⟨rfl, rfl, rfl, rfl, rfl, rfl, trivial⟩⟩
  · have c2 : ¬ (0 : Int) < (q.length : Int) := of_decide_eq_false c1
    obtain rfl : q = [] := by
      cases q with
      | nil => rfl
      | cons a b => rw [List.length_cons] at c2; omega
    have e1 := hI.done
    subst e1
    refine dwp_exit ?_
    refine zaf ?_
    refine zad ?_
    refine zab rfl rfl rfl (op_ldw rfl tb45 (ev1 rfl) rfl (fV_len _)) ?_
    refine walk_s rfl rfl (op_stwa rfl tb45 (ev1 rfl) (ev1 rfl) rfl (fV_len _) (fV_oc _) (by rw [fV_len, zFV_len])) (by simp only [upd, zaa, za]; exact rfl) ?_
    refine zae ?_
    refine zao ?_
    refine kend0 (rs1 rfl (rv_w tb45 rfl rfl (fV_len _))) rfl ?_
    rfl
end Go.Proofs.Ytfnhckildfbikaa
namespace Go.Proofs.Ytfnhckildfbikaa
set_option maxRecDepth 4000
set_option linter.unusedVariables false
set_option linter.unusedSimpArgs false
open Go.RowKit
theorem okd_wk {I : Nat → Prop} {w h : Int} {ts : List TL} {d : D} (hf : Okd (NewCv I w h ts) d) : Wk d (.tup [cvD w h (dpR ts), .val (.int .i64 0)]) := by
  obtain ⟨_, ⟨A, hA, _, rfl⟩, rfl⟩ := hf
  exact Wk.tup (.cons ((pinsR_ok hA).wkd w h) (.cons (.refl _) .nil))
theorem of_d (w h : Int) (ts : List TL) (hc : CvOk w h ts) : DFun Try.prog 33 [shD w h ts] [] (.tup [cvD w h (dpR ts), .val (.int .i64 0)]) [] := (of_i w h ts hc).fun fun I d hf => okd_wk hf
theorem cnew_d (w h : Int) (n : Nat) (hm : mayS w h = true) (hn : w * h = (n : Int)) : DFun Try.prog 64 [.val (.int .i64 w), .val (.int .i64 h)] [] (.tup [cvD w h (dpR (List.replicate n (nT zC4))), .val (.int .i64 0)]) [] := (cnew_i w h n hm hn).fun fun I d hf => okd_wk hf
def redC : C4 := ⟨255, 0, 0, 255⟩
def wkT : List TL := List.replicate 1 (nT zC4)
theorem wkT_ok : CvOk 1 1 wkT := ⟨by decide, by decide⟩
def crT : List TL := putsC 1 1 wkT (dtsC redC [⟨0, 1⟩, ⟨1, 1⟩, ⟨1, 0⟩])
theorem crT_eq : crT = putsC 1 1 wkT (dtsC redC [⟨0, 1⟩, ⟨1, 1⟩, ⟨1, 0⟩]) := rfl
theorem crT_ok : CvOk 1 1 crT := wkT_ok.puts _
theorem w8_a : rgS 1 1 (rgF 1 1 crT 0 ⟨1, 0⟩) = [⟨0, 1, 1⟩, ⟨1, 0, 1⟩] := by kernel_rfl
theorem redC_rng : redC.rng := by unfold C4.rng redC; decide
theorem wkT_rng : tsRng wkT := fun t ht c hc => by
  obtain rfl := (List.mem_replicate.1 ht).2
  have hc : c ∈ List.replicate 64 zC4 := hc
  obtain rfl := (List.mem_replicate.1 hc).2
  exact zC4_rng
theorem dts_rng {c : C4} (hc : c.rng) (l : List P2) : ∀ d ∈ dtsC c l, d.c.rng := fun d hd => by
  have hd : d ∈ l.map fun p => (⟨p.x, p.y, c⟩ : Dt) := hd
  obtain ⟨p, _, rfl⟩ := List.mem_map.1 hd
  exact hc
theorem crT_rng : tsRng crT := putsC_rng _ wkT_rng (dts_rng redC_rng _)
def k8a : List Sp := [⟨0, 1, 1⟩, ⟨1, 0, 1⟩]
theorem w8_a2 : rgS 1 1 (rgF 1 1 crT 0 ⟨1, 0⟩) = k8a := w8_a
def k8p : List Int := [3, 1]
theorem w8_p : ([0, 1020] : List Int).map (pcV 1 1 crT) = k8p := by kernel_rfl
theorem w8_s : (((rgF 1 1 crT 0 ⟨1, 0⟩).at ⟨0, 1⟩ : Nat) : Int) - 1 = 2 := by kernel_rfl
theorem w8_sh : (rgF 1 1 crT 0 ⟨1, 0⟩).has ⟨0, 1⟩ = true := by kernel_rfl
theorem w8_no : (rgF 1 1 crT 0 ⟨0, 0⟩).has ⟨1, 0⟩ = false := by kernel_rfl
def k8m : List P2 := [⟨0, 0⟩]
theorem w8_m : gtP (rmB 1 1 (mtF (ptsS [⟨0, 0, 0⟩]))) ((1 : Int) * 8).toNat (((1 : Int) * 8).toNat * ((1 : Int) * 8).toNat) = k8m := by kernel_rfl
theorem w8_mc : chkS [⟨0, 0, 0⟩] := by decide
theorem w8_mo : onA 1 1 [⟨0, 0, 0⟩] = true := by kernel_rfl
def crU : List TL := putsC 1 1 crT (dtsC redC (rgP 1 1 (rgF 1 1 crT 0 ⟨0, 0⟩)))
theorem crU_eq : crU = putsC 1 1 crT (dtsC redC (rgP 1 1 (rgF 1 1 crT 0 ⟨0, 0⟩))) := rfl
theorem crU_ok : CvOk 1 1 crU := crT_ok.puts _
theorem crU_rng : tsRng crU := putsC_rng _ crT_rng (dts_rng redC_rng _)
def k8q : List Int := [2]
theorem w8_q : ([0] : List Int).map (pcV 1 1 crU) = k8q := by kernel_rfl
end Go.Proofs.Ytfnhckildfbikaa
namespace Go.Proofs.Ytfnhckildfbikaa
set_option maxRecDepth 4000
set_option linter.unusedVariables false
set_option linter.unusedSimpArgs false
open Go.RowKit
attribute [local irreducible] crT crU pcV rgF rgS gtP
theorem w8r_d : DFun Try.prog 9 [cvD 1 1 (dpR crT), .val (.agg #[.int .i64 1, .int .i64 0]), .val (.int .i64 0)] [] (.tup [.slf 3 k8a.length (k8a.flatMap s3), .val (.int .i64 0)]) [] := by
  have h := region_d 1 1 _ crT (dpR_ok crT) crT_ok crT_rng ⟨1, 0⟩ 0 (by decide)
  rw [w8_a2] at h
  exact h
theorem w8p_d : DFun Try.prog 20 [cvD 1 1 (dpR crT), .slf 1 2 [.int .i64 0, .int .i64 1020]] [] (.tup [.slf 1 k8p.length (k8p.flatMap iV), .val (.int .i64 0)]) [] := by
  have h := parts_d 1 1 _ crT (dpR_ok crT) crT_ok crT_rng [0, 1020] (by decide) (by decide)
  rw [w8_p] at h
  exact h
theorem w8s_d : DFun Try.prog 28 [cvD 1 1 (dpR crT), .val (.agg #[.int .i64 1, .int .i64 0]), .val (.agg #[.int .i64 0, .int .i64 1]), .val (.int .i64 0)] [] (.tup [.val (.int .i64 2), .val (.int .i64 0)]) [] := by
  have h := steps_d 1 1 _ crT (dpR_ok crT) crT_ok crT_rng ⟨1, 0⟩ ⟨0, 1⟩ 0 (by decide) w8_sh
  rw [w8_s] at h
  exact h
theorem w8n_d : DFun Try.prog 28 [cvD 1 1 (dpR crT), .val (.agg #[.int .i64 0, .int .i64 0]), .val (.agg #[.int .i64 1, .int .i64 0]), .val (.int .i64 0)] [] (.tup [.val (.int .i64 0), .val (.int .i64 4)]) [] := by
  have h := steps_no 1 1 _ crT (dpR_ok crT) crT_ok crT_rng ⟨0, 0⟩ ⟨1, 0⟩ 0 (by decide) w8_no
  exact h
theorem w8m_d : DFun Try.prog 24 [cvD 1 1 (dpR crT), .slf 3 1 [.int .i64 0, .int .i64 0, .int .i64 0]] [] (.tup [.slf 2 k8m.length (k8m.flatMap p2), .val (.int .i64 0)]) [] := by
  have h := rim_d 1 1 _ crT (dpR_ok crT) crT_ok crT_rng [⟨0, 0, 0⟩] (by decide) w8_mc w8_mo
  rw [w8_m] at h
  exact h
theorem w8g_d : DFun Try.prog 9 [cvD 1 1 (dpR crT), .val (.agg #[.int .i64 1, .int .i64 0]), .val (.int .i64 (-1))] [] (.tup [.val (.slice none 0 0), .val (.int .i64 2)]) [] := by
  have h := region_n 1 1 _ crT (dpR_ok crT) crT_ok crT_rng ⟨1, 0⟩ (-1) (by decide)
  rw [show refE 1 1 [-1] [⟨1, 0⟩] = 2 by decide] at h
  exact h
theorem w8f_d : DFun Try.prog 10 [cvD 1 1 (dpR crT), .val (.agg #[.int .i64 0, .int .i64 0]), .val (.int .i64 0), .val (.agg #[.int .u8 255, .int .u8 0, .int .u8 0, .int .u8 255])] [] (.tup [cvD 1 1 (dpR crU), .val (.int .i64 0)]) [] := by
  have h := fill_d 1 1 _ crT (dpR_ok crT) crT_ok crT_rng ⟨0, 0⟩ 0 redC (by decide)
  rw [← crU_eq] at h
  exact h
theorem w8q_d : DFun Try.prog 20 [cvD 1 1 (dpR crU), .slf 1 1 [.int .i64 0]] [] (.tup [.slf 1 k8q.length (k8q.flatMap iV), .val (.int .i64 0)]) [] := by
  have h := parts_d 1 1 _ crU (dpR_ok crU) crU_ok crU_rng [0] (by decide) (by decide)
  rw [w8_q] at h
  exact h
set_option maxRecDepth 4000 in
set_option maxHeartbeats 1000000 in
theorem corner_d : DFun Try.prog 31 [] [] (cvD 1 1 (dpR crT)) [] := by
  refine zan (N := 16) 0 (by kernel_rfl) Try.func31 rfl rfl rfl (by simp only [fr0, Nat.zero_add, Nat.reduceAdd]; exact rfl) rfl fun s0 hs0 => ?_
  refine zaf ?_
  refine zad ?_
  refine zab rfl rfl rfl (zac (.inr rfl) (ev1 rfl)) ?_
  refine zae ?_
  refine zaf ?_
  refine zad ?_
  refine zab rfl rfl rfl (zah [] [] [] rfl (ev1 rfl) (ec (ev1 rfl) (ec (ev1 rfl) en)) rfl rfl (cnew_d 1 1 1 (by decide) (by decide)) rfl rfl rfl rfl rfl rfl) ?_
  refine zab rfl rfl rfl (zac (.inl rfl) (ev1 rfl)) ?_
  refine zab rfl rfl rfl (op_ext rfl (ev1 rfl) rfl) ?_
  refine zab rfl rfl rfl (op_ext rfl (ev1 rfl) rfl) ?_
  refine zab rfl rfl rfl (zac (.inr rfl) (ev1 rfl)) ?_
  refine zab rfl rfl rfl (zac (.inr rfl) (ev1 rfl)) ?_
  refine zae ?_
  refine zaf ?_
  refine zaf ?_
  refine zad ?_
  refine zab rfl rfl rfl (zac (.inl rfl) (ev1 rfl)) ?_
  refine zab rfl rfl rfl ((op_neq rfl (ev1 rfl) (ev1 rfl)).cast (d' := .val (.bool false)) (by kernel_rfl)) ?_
  refine zae ?_
  refine dwp_if_f rfl (rfl) ?_
  refine zak ?_
  refine zaf ?_
  refine zad ?_
  refine zab rfl rfl rfl (zac (.inl rfl) (ev1 rfl)) ?_
  refine zab rfl rfl rfl (op_build (ps := [(0, .const (.int .u8 255)), (3, .const (.int .u8 255))]) rfl fl27 zr27 (vc (ev1 rfl) (vc (ev1 rfl) vn)) rfl rfl) ?_
  refine zab rfl rfl rfl (op_build (ps := [(1, .const (.int .i64 1))]) rfl fl34 zr34 (vc (ev1 rfl) vn) rfl rfl) ?_
  refine zab rfl rfl rfl (op_build (ps := [(0, .const (.int .i64 1)), (1, .const (.int .i64 1))]) rfl fl34 zr34 (vc (ev1 rfl) (vc (ev1 rfl) vn)) rfl rfl) ?_
  refine zab rfl rfl rfl (op_build (ps := [(0, .const (.int .i64 1))]) rfl fl34 zr34 (vc (ev1 rfl) vn) rfl rfl) ?_
  refine zab rfl rfl rfl (op_bs (ps := [(0, .tmp 11), (1, .tmp 12), (2, .tmp 13)]) rfl sl64 zr34 rfl (vc (ev1 rfl) (vc (ev1 rfl) (vc (ev1 rfl) vn))) rfl (by decide) (by decide)) ?_
  refine zab rfl rfl rfl (zah [] [] [] rfl (ev1 rfl) (ec (ev1 rfl) (ec (ev1 rfl) (ec (ev1 rfl) en))) rfl rfl (set_d 1 1 _ wkT (dpR_ok wkT) wkT_ok redC [⟨0, 1⟩, ⟨1, 1⟩, ⟨1, 0⟩] (by decide)) rfl rfl rfl rfl rfl rfl) ?_
  refine zab rfl rfl rfl (zac (.inr rfl) (ev1 rfl)) ?_
  refine zae ?_
  refine zao ?_
  refine kend0 (rs1 rfl (rv_t rfl)) rfl ?_
  rw [crT_eq]
set_option maxRecDepth 4000 in
set_option maxHeartbeats 1000000 in
theorem equalI (l r : List Int) : DFun Try.prog 22 [.slf 1 l.length (l.flatMap iV), .slf 1 r.length (r.flatMap iV)] [] (.val (.bool (decide (l = r)))) [] := by
  refine zan (N := 26) 0 (by kernel_rfl) Try.func22 rfl rfl rfl (by simp only [fr0, Nat.zero_add, Nat.reduceAdd]; exact rfl) rfl fun s0 hs0 => ?_
  refine dwp_len (t := 0) rfl fun hl0 hL0 => ?_
  refine dwp_len (t := 1) rfl fun hl1 hL1 => ?_
  refine zaf ?_
  refine zad ?_
  refine zab rfl rfl rfl (zac (.inr rfl) (ev1 rfl)) ?_
  refine zae ?_
  refine zaf ?_
  refine zaf ?_
  refine zad ?_
  refine zab rfl rfl rfl (zac (.inl rfl) (ev1 rfl)) ?_
  refine zab rfl rfl rfl (op_len rfl sl55 (ev1 rfl)) ?_
  refine zab rfl rfl rfl (zac (.inl rfl) (ev1 rfl)) ?_
  refine zab rfl rfl rfl (op_len rfl sl55 (ev1 rfl)) ?_
  refine zab rfl rfl rfl (op_neq rfl (ev1 rfl) (ev1 rfl)) ?_
  refine zae ?_
  refine dwp_cond rfl (fun c1 => ?_) (fun c1 => ?_)
  · try simp only [decide_eq_true_eq, decide_eq_false_iff_not, beq_iff_eq, bne_iff_ne, beq_eq_false_iff_ne, bne_eq_false_iff_eq, Bool.not_eq_true', Bool.not_eq_false', Bool.and_eq_true, Bool.or_eq_true, Bool.or_eq_false_iff, ne_eq, Decidable.not_not, Int.not_lt, Int.not_le] at c1
    refine zaf ?_
    refine zad ?_
    refine zab rfl rfl rfl (zac (.inr rfl) (ev1 rfl)) ?_
    refine zae ?_
    refine zao ?_
    refine kend0 (rs1 rfl (rv_t rfl)) rfl ?_
    have hne : l ≠ r := fun e => by subst e; exact c1 rfl
    rw [decide_eq_false hne]
  · try simp only [decide_eq_true_eq, decide_eq_false_iff_not, beq_iff_eq, bne_iff_ne, beq_eq_false_iff_ne, bne_eq_false_iff_eq, Bool.not_eq_true', Bool.not_eq_false', Bool.and_eq_true, Bool.or_eq_true, Bool.or_eq_false_iff, ne_eq, Decidable.not_not, Int.not_lt, Int.not_le] at c1
    have hlen : l.length = r.length := by omega
    refine zak ?_
    refine zaf ?_
    refine zaf ?_
    refine zad ?_
    refine zab rfl rfl rfl (zac (.inl rfl) (ev1 rfl)) ?_
    refine zab rfl rfl rfl (op_len rfl sl55 (ev1 rfl)) ?_
    refine zab rfl rfl rfl (zac (.inl rfl) (ev1 rfl)) ?_
    refine zae ?_
    refine zal ?_
    refine dwp_loopS ⟨hs0, rfl⟩ (α := Nat) (fun k => [(13, .val (.int .i64 (k : Int)))]) [(0, _), (1, _), (12, _)] (fun k => []) [] (fun k => k ≤ l.length ∧ l.take k = r.take k) (fun k => l.length - k) 0 [] (by simp) rfl ⟨rfl, rfl, rfl, trivial⟩ ⟨rfl, trivial⟩ trivial ?_
    intro k hx
    simp only [upd, zaa, za, List.cons_append, List.nil_append]
    obtain ⟨hk, he⟩ := hx
    refine zaf ?_
    refine zad ?_
    refine zab rfl rfl rfl (op_lss rfl (ev1 rfl) (ev1 rfl)) ?_
    refine zae ?_
    refine zaf ?_
    refine dwp_cond rfl (fun c2 => ?_) (fun c2 => ?_)
    · try simp only [decide_eq_true_eq, decide_eq_false_iff_not, beq_iff_eq, bne_iff_ne, beq_eq_false_iff_ne, bne_eq_false_iff_eq, Bool.not_eq_true', Bool.not_eq_false', Bool.and_eq_true, Bool.or_eq_true, Bool.or_eq_false_iff, ne_eq, Decidable.not_not, Int.not_lt, Int.not_le] at c2
      refine zak ?_
      refine zaf ?_
      refine zal ?_
      refine zaf ?_
      refine zad ?_
      refine zab rfl rfl rfl (zac (.inl rfl) (ev1 rfl)) ?_
      refine zab rfl rfl rfl (zac (.inr rfl) (ev1 rfl)) ?_
      refine zae ?_
      refine zaf ?_
      refine dwp_draw [([], []), ([], []), ([], []), ([], []), ([], []), ([], []), ([], []), ([], []), ([], [])] mixed (by kernel_rfl) ?_
      refine zag rfl rfl (zac (.inl rfl) (ev1 rfl)) ?_
      refine zag rfl rfl (zac (.inl rfl) (ev1 rfl)) ?_
      refine zag rfl rfl (op_ixsr (j := k) rfl sl55 (ev1 rfl) (ev1 rfl) (fun _ => rfl) (by decide) (by omega) (by omega)) ?_
      refine zag rfl rfl (op_ldod rfl tb3 (ev1 rfl) rfl) ?_
      refine zag rfl rfl (zac (.inl rfl) (ev1 rfl)) ?_
      refine zag rfl rfl (zac (.inl rfl) (ev1 rfl)) ?_
      refine zag rfl rfl (op_ixsr (j := k) rfl sl55 (ev1 rfl) (ev1 rfl) (fun _ => rfl) (by decide) (by omega) (by omega)) ?_
      refine zag rfl rfl (op_ldod rfl tb3 (ev1 rfl) rfl) ?_
      refine zag rfl rfl (op_neq rfl (ev1 rfl) (ev1 rfl)) ?_
      refine lex_nil ?_
      refine dwp_cond rfl (fun c2 => ?_) (fun c2 => ?_)
      · have c3 : l[k] ≠ r[k] := by simpa using c2
        refine zaf ?_
        refine zad ?_
        refine zab rfl rfl rfl (zac (.inr rfl) (ev1 rfl)) ?_
        refine zae ?_
        refine zao ?_
        refine kend0 (rs1 rfl (rv_t rfl)) rfl ?_
        have hne : l ≠ r := fun e => by subst e; exact c3 rfl
        rw [decide_eq_false hne]
      · have c3 : l[k] = r[k] := by simpa using c2
        refine zak ?_
        refine zad ?_
        refine zab rfl rfl rfl (op_add' rfl (ev1 rfl) (ev1 rfl) (fun _ => IntWalk.i64_in _ (by omega))) ?_
        refine zab rfl rfl rfl (zac (.inl rfl) (ev1 rfl)) ?_
        refine zae ?_
        refine ⟨k + 1, [], ⟨by omega, by rw [List.take_succ_eq_append_getElem (by omega), List.take_succ_eq_append_getElem (by omega), he, c3]⟩, by simp only []; omega, rfl, ⟨rfl, rfl, rfl, rfl, trivial⟩, trivial⟩
    · try simp only [decide_eq_true_eq, decide_eq_false_iff_not, beq_iff_eq, bne_iff_ne, beq_eq_false_iff_ne, bne_eq_false_iff_eq, Bool.not_eq_true', Bool.not_eq_false', Bool.and_eq_true, Bool.or_eq_true, Bool.or_eq_false_iff, ne_eq, Decidable.not_not, Int.not_lt, Int.not_le] at c2
      refine dwp_exit ?_
      refine zaf ?_
      refine zad ?_
      refine zab rfl rfl rfl (zac (.inr rfl) (ev1 rfl)) ?_
      refine zae ?_
      refine zao ?_
      refine kend0 (rs1 rfl (rv_t rfl)) rfl ?_
      have e : l = r := by
        have h := he
        rw [List.take_of_length_le (by omega), List.take_of_length_le (by omega)] at h
        exact h
      rw [decide_eq_true e]
set_option maxRecDepth 4000 in
set_option maxHeartbeats 1000000 in
theorem wakes_d : DFun Try.prog 7 [] [] (.val (.bool true)) [] := by
  refine zan (N := 130) 0 (by kernel_rfl) Try.func7 rfl rfl rfl (by simp only [fr0, Nat.zero_add, Nat.reduceAdd]; exact rfl) rfl fun s0 hs0 => ?_
  refine zaf ?_
  refine zad ?_
  refine zab rfl rfl rfl (zac (.inr rfl) (ev1 rfl)) ?_
  refine zae ?_
  refine zaf ?_
  refine zad ?_
  refine zab rfl rfl rfl (zah [] [] [] rfl (ev1 rfl) en rfl rfl (corner_d) rfl rfl rfl rfl rfl rfl) ?_
  refine zab rfl rfl rfl (zac (.inr rfl) (ev1 rfl)) ?_
  refine zae ?_
  refine zaf ?_
  refine zai 1 (by simp only [holes, List.cons_append, List.nil_append]; exact rfl) ?_
  refine zad ?_
  refine zab rfl rfl rfl (op_build (ps := [(0, .const (.int .i64 1))]) rfl fl34 zr34 (vc (ev1 rfl) vn) rfl rfl) ?_
  refine zaj rfl rfl rfl (op_alloc 0 rfl zr34 rfl) (by simp only [upd, zaa, za]; exact rfl) ?_
  refine walk_s rfl rfl (op_stwa rfl tb34 (ev1 rfl) (ev1 rfl) rfl rfl rfl rfl) (by simp only [upd, zaa, za]; exact rfl) ?_
  refine zae ?_
  refine zaf ?_
  refine zad ?_
  refine zab rfl rfl rfl (zac (.inl rfl) (ev1 rfl)) ?_
  refine zab rfl rfl rfl (op_ldw rfl tb34 (ev1 rfl) rfl rfl) ?_
  refine zab rfl rfl rfl (zah [] [] [] rfl (ev1 rfl) (ec (ev1 rfl) (ec (ev1 rfl) (ec (ev1 rfl) en))) rfl rfl (w8r_d) rfl rfl rfl rfl rfl rfl) ?_
  refine zab rfl rfl rfl (zac (.inl rfl) (ev1 rfl)) ?_
  refine zab rfl rfl rfl (op_ext rfl (ev1 rfl) rfl) ?_
  refine zab rfl rfl rfl (op_ext rfl (ev1 rfl) rfl) ?_
  refine zab rfl rfl rfl (zac (.inr rfl) (ev1 rfl)) ?_
  refine zab rfl rfl rfl (zac (.inr rfl) (ev1 rfl)) ?_
  refine zae ?_
  refine zaf ?_
  refine zad ?_
  refine zab rfl rfl rfl (zac (.inl rfl) (ev1 rfl)) ?_
  refine zab rfl rfl rfl (op_bs (ps := [(0, .const (.int .i64 0)), (1, .const (.int .i64 1020))]) rfl sl55 zr3 rfl (vc (ev1 rfl) (vc (ev1 rfl) vn)) rfl (by decide) (by decide)) ?_
  refine zab rfl rfl rfl (zah [] [] [] rfl (ev1 rfl) (ec (ev1 rfl) (ec (ev1 rfl) en)) rfl rfl (w8p_d) rfl rfl rfl rfl rfl rfl) ?_
  refine zab rfl rfl rfl (zac (.inl rfl) (ev1 rfl)) ?_
  refine zab rfl rfl rfl (op_ext rfl (ev1 rfl) rfl) ?_
  refine zab rfl rfl rfl (op_ext rfl (ev1 rfl) rfl) ?_
  refine zab rfl rfl rfl (zac (.inr rfl) (ev1 rfl)) ?_
  refine zab rfl rfl rfl (zac (.inr rfl) (ev1 rfl)) ?_
  refine zae ?_
  refine zaf ?_
  refine zad ?_
  refine zab rfl rfl rfl (zac (.inl rfl) (ev1 rfl)) ?_
  refine zab rfl rfl rfl (op_ldw rfl tb34 (ev1 rfl) rfl rfl) ?_
  refine zab rfl rfl rfl (op_build (ps := [(1, .const (.int .i64 1))]) rfl fl34 zr34 (vc (ev1 rfl) vn) rfl rfl) ?_
  refine zab rfl rfl rfl (zah [] [] [] rfl (ev1 rfl) (ec (ev1 rfl) (ec (ev1 rfl) (ec (ev1 rfl) (ec (ev1 rfl) en)))) rfl rfl (w8s_d) rfl rfl rfl rfl rfl rfl) ?_
  refine zab rfl rfl rfl (zac (.inl rfl) (ev1 rfl)) ?_
  refine zab rfl rfl rfl (op_ext rfl (ev1 rfl) rfl) ?_
  refine zab rfl rfl rfl (op_ext rfl (ev1 rfl) rfl) ?_
  refine zab rfl rfl rfl (zac (.inr rfl) (ev1 rfl)) ?_
  refine zab rfl rfl rfl (zac (.inr rfl) (ev1 rfl)) ?_
  refine zae ?_
  refine zaf ?_
  refine zad ?_
  refine zab rfl rfl rfl (zac (.inl rfl) (ev1 rfl)) ?_
  refine zab rfl rfl rfl (op_build0 rfl fl34 zr34) ?_
  refine zab rfl rfl rfl (op_ldw rfl tb34 (ev1 rfl) rfl rfl) ?_
  refine zab rfl rfl rfl (zah [] [] [] rfl (ev1 rfl) (ec (ev1 rfl) (ec (ev1 rfl) (ec (ev1 rfl) (ec (ev1 rfl) en)))) rfl rfl (w8n_d) rfl rfl rfl rfl rfl rfl) ?_
  refine zab rfl rfl rfl (zac (.inl rfl) (ev1 rfl)) ?_
  refine zab rfl rfl rfl (op_ext rfl (ev1 rfl) rfl) ?_
  refine zab rfl rfl rfl (op_ext rfl (ev1 rfl) rfl) ?_
  refine zab rfl rfl rfl (zac (.inr rfl) (ev1 rfl)) ?_
  refine zab rfl rfl rfl (zac (.inr rfl) (ev1 rfl)) ?_
  refine zae ?_
  refine zaf ?_
  refine zad ?_
  refine zab rfl rfl rfl (zac (.inl rfl) (ev1 rfl)) ?_
  refine zab rfl rfl rfl (op_build0 rfl fl53 zr53) ?_
  refine zab rfl rfl rfl (op_bs (ps := [(0, .tmp 49)]) rfl sl35 zr53 rfl (vc (ev1 rfl) vn) rfl (by decide) (by decide)) ?_
  refine zab rfl rfl rfl (zah [] [] [] rfl (ev1 rfl) (ec (ev1 rfl) (ec (ev1 rfl) en)) rfl rfl (w8m_d) rfl rfl rfl rfl rfl rfl) ?_
  refine zab rfl rfl rfl (zac (.inl rfl) (ev1 rfl)) ?_
  refine zab rfl rfl rfl (op_ext rfl (ev1 rfl) rfl) ?_
  refine zab rfl rfl rfl (op_ext rfl (ev1 rfl) rfl) ?_
  refine zab rfl rfl rfl (zac (.inr rfl) (ev1 rfl)) ?_
  refine zab rfl rfl rfl (zac (.inr rfl) (ev1 rfl)) ?_
  refine zae ?_
  refine zaf ?_
  refine zad ?_
  refine zab rfl rfl rfl (zac (.inl rfl) (ev1 rfl)) ?_
  refine zab rfl rfl rfl (op_ldw rfl tb34 (ev1 rfl) rfl rfl) ?_
  refine zab rfl rfl rfl (zah [] [] [] rfl (ev1 rfl) (ec (ev1 rfl) (ec (ev1 rfl) (ec (ev1 rfl) en))) rfl rfl (w8g_d) rfl rfl rfl rfl rfl rfl) ?_
  refine zab rfl rfl rfl (zac (.inl rfl) (ev1 rfl)) ?_
  refine zab rfl rfl rfl (op_ext rfl (ev1 rfl) rfl) ?_
  refine zab rfl rfl rfl (op_ext rfl (ev1 rfl) rfl) ?_
  refine zab rfl rfl rfl (zac (.inr rfl) (ev1 rfl)) ?_
  refine zab rfl rfl rfl (zac (.inr rfl) (ev1 rfl)) ?_
  refine zae ?_
  refine zaf ?_
  refine zad ?_
  refine zab rfl rfl rfl (zac (.inl rfl) (ev1 rfl)) ?_
  refine zab rfl rfl rfl (op_build0 rfl fl34 zr34) ?_
  refine zab rfl rfl rfl (op_build (ps := [(0, .const (.int .u8 255)), (3, .const (.int .u8 255))]) rfl fl27 zr27 (vc (ev1 rfl) (vc (ev1 rfl) vn)) rfl rfl) ?_
  refine zab rfl rfl rfl (zah [] [] [] rfl (ev1 rfl) (ec (ev1 rfl) (ec (ev1 rfl) (ec (ev1 rfl) (ec (ev1 rfl) en)))) rfl rfl (w8f_d) rfl rfl rfl rfl rfl rfl) ?_
  refine zab rfl rfl rfl (zac (.inl rfl) (ev1 rfl)) ?_
  refine zab rfl rfl rfl (op_ext rfl (ev1 rfl) rfl) ?_
  refine zab rfl rfl rfl (op_ext rfl (ev1 rfl) rfl) ?_
  refine zab rfl rfl rfl (zac (.inr rfl) (ev1 rfl)) ?_
  refine zab rfl rfl rfl (zac (.inr rfl) (ev1 rfl)) ?_
  refine zae ?_
  refine zaf ?_
  refine zad ?_
  refine zab rfl rfl rfl (zac (.inl rfl) (ev1 rfl)) ?_
  refine zab rfl rfl rfl (op_bs (ps := [(0, .const (.int .i64 0))]) rfl sl55 zr3 rfl (vc (ev1 rfl) vn) rfl (by decide) (by decide)) ?_
  refine zab rfl rfl rfl (zah [] [] [] rfl (ev1 rfl) (ec (ev1 rfl) (ec (ev1 rfl) en)) rfl rfl (w8q_d) rfl rfl rfl rfl rfl rfl) ?_
  refine zab rfl rfl rfl (zac (.inl rfl) (ev1 rfl)) ?_
  refine zab rfl rfl rfl (op_ext rfl (ev1 rfl) rfl) ?_
  refine zab rfl rfl rfl (op_ext rfl (ev1 rfl) rfl) ?_
  refine zab rfl rfl rfl (zac (.inr rfl) (ev1 rfl)) ?_
  refine zab rfl rfl rfl (zac (.inr rfl) (ev1 rfl)) ?_
  refine zae ?_
  refine zaf ?_
  refine zad ?_
  refine zab rfl rfl rfl (zac (.inl rfl) (ev1 rfl)) ?_
  refine zab rfl rfl rfl ((op_eql rfl (ev1 rfl) (ev1 rfl)).cast (d' := .val (.bool true)) (by kernel_rfl)) ?_
  refine zab rfl rfl rfl (zac (.inl rfl) (ev1 rfl)) ?_
  refine walk_k (gd_t (b := true) rfl rfl rfl) rfl rfl rfl (zac (.inl rfl) (ev1 rfl)) (by simp only [upd, zaa, za]; exact rfl) ?_
  refine walk_k (gd_t (b := true) rfl rfl rfl) rfl rfl rfl ((op_eql rfl (ev2 rfl) (ev1 rfl)).cast (d' := .val (.bool true)) (by kernel_rfl)) (by simp only [upd, zaa, za]; exact rfl) ?_
  refine zab rfl rfl rfl ((op_and rfl (ev1 rfl) (ev3 rfl (fun _ => rfl))).cast (d' := .val (.bool true)) (by rfl)) ?_
  refine zab rfl rfl rfl (zac (.inl rfl) (ev1 rfl)) ?_
  refine walk_k (gd_t (b := true) rfl rfl rfl) rfl rfl rfl (zac (.inl rfl) (ev1 rfl)) (by simp only [upd, zaa, za]; exact rfl) ?_
  refine walk_k (gd_t (b := true) rfl rfl rfl) rfl rfl rfl ((op_eql rfl (ev2 rfl) (ev1 rfl)).cast (d' := .val (.bool true)) (by kernel_rfl)) (by simp only [upd, zaa, za]; exact rfl) ?_
  refine zab rfl rfl rfl ((op_and rfl (ev1 rfl) (ev3 rfl (fun _ => rfl))).cast (d' := .val (.bool true)) (by rfl)) ?_
  refine zab rfl rfl rfl (zac (.inl rfl) (ev1 rfl)) ?_
  refine walk_k (gd_t (b := true) rfl rfl rfl) rfl rfl rfl (zac (.inl rfl) (ev1 rfl)) (by simp only [upd, zaa, za]; exact rfl) ?_
  refine walk_k (gd_t (b := true) rfl rfl rfl) rfl rfl rfl ((op_eql rfl (ev2 rfl) (ev1 rfl)).cast (d' := .val (.bool true)) (by kernel_rfl)) (by simp only [upd, zaa, za]; exact rfl) ?_
  refine zab rfl rfl rfl ((op_and rfl (ev1 rfl) (ev3 rfl (fun _ => rfl))).cast (d' := .val (.bool true)) (by rfl)) ?_
  refine zab rfl rfl rfl (zac (.inl rfl) (ev1 rfl)) ?_
  refine walk_k (gd_t (b := true) rfl rfl rfl) rfl rfl rfl (zac (.inl rfl) (ev1 rfl)) (by simp only [upd, zaa, za]; exact rfl) ?_
  refine walk_k (gd_t (b := true) rfl rfl rfl) rfl rfl rfl ((op_eql rfl (ev2 rfl) (ev1 rfl)).cast (d' := .val (.bool true)) (by kernel_rfl)) (by simp only [upd, zaa, za]; exact rfl) ?_
  refine zab rfl rfl rfl ((op_and rfl (ev1 rfl) (ev3 rfl (fun _ => rfl))).cast (d' := .val (.bool true)) (by rfl)) ?_
  refine zab rfl rfl rfl (zac (.inl rfl) (ev1 rfl)) ?_
  refine walk_k (gd_t (b := true) rfl rfl rfl) rfl rfl rfl (zac (.inl rfl) (ev1 rfl)) (by simp only [upd, zaa, za]; exact rfl) ?_
  refine walk_k (gd_t (b := true) rfl rfl rfl) rfl rfl rfl ((op_eql rfl (ev2 rfl) (ev1 rfl)).cast (d' := .val (.bool true)) (by kernel_rfl)) (by simp only [upd, zaa, za]; exact rfl) ?_
  refine zab rfl rfl rfl ((op_and rfl (ev1 rfl) (ev3 rfl (fun _ => rfl))).cast (d' := .val (.bool true)) (by rfl)) ?_
  refine zab rfl rfl rfl (zac (.inl rfl) (ev1 rfl)) ?_
  refine walk_k (gd_t (b := true) rfl rfl rfl) rfl rfl rfl (zac (.inl rfl) (ev1 rfl)) (by simp only [upd, zaa, za]; exact rfl) ?_
  refine walk_k (gd_t (b := true) rfl rfl rfl) rfl rfl rfl ((op_eql rfl (ev2 rfl) (ev1 rfl)).cast (d' := .val (.bool true)) (by kernel_rfl)) (by simp only [upd, zaa, za]; exact rfl) ?_
  refine zab rfl rfl rfl ((op_and rfl (ev1 rfl) (ev3 rfl (fun _ => rfl))).cast (d' := .val (.bool true)) (by rfl)) ?_
  refine zab rfl rfl rfl (zac (.inl rfl) (ev1 rfl)) ?_
  refine walk_k (gd_t (b := true) rfl rfl rfl) rfl rfl rfl (zac (.inl rfl) (ev1 rfl)) (by simp only [upd, zaa, za]; exact rfl) ?_
  refine walk_k (gd_t (b := true) rfl rfl rfl) rfl rfl rfl ((op_eql rfl (ev2 rfl) (ev1 rfl)).cast (d' := .val (.bool true)) (by kernel_rfl)) (by simp only [upd, zaa, za]; exact rfl) ?_
  refine zab rfl rfl rfl ((op_and rfl (ev1 rfl) (ev3 rfl (fun _ => rfl))).cast (d' := .val (.bool true)) (by rfl)) ?_
  refine zab rfl rfl rfl (zac (.inl rfl) (ev1 rfl)) ?_
  refine walk_k (gd_t (b := true) rfl rfl rfl) rfl rfl rfl (zac (.inl rfl) (ev1 rfl)) (by simp only [upd, zaa, za]; exact rfl) ?_
  refine walk_k (gd_t (b := true) rfl rfl rfl) rfl rfl rfl (op_build (ps := [(1, .const (.int .i64 1)), (2, .const (.int .i64 1))]) rfl fl53 zr53 (vc (ev1 rfl) (vc (ev1 rfl) vn)) rfl rfl) (by simp only [upd, zaa, za]; exact rfl) ?_
  refine walk_k (gd_t (b := true) rfl rfl rfl) rfl rfl rfl (op_build (ps := [(0, .const (.int .i64 1)), (2, .const (.int .i64 1))]) rfl fl53 zr53 (vc (ev1 rfl) (vc (ev1 rfl) vn)) rfl rfl) (by simp only [upd, zaa, za]; exact rfl) ?_
  refine walk_k (gd_t (b := true) rfl rfl rfl) rfl rfl rfl (op_bs (ps := [(0, .tmp 105), (1, .tmp 106)]) rfl sl35 zr53 rfl (vc (ev2 rfl) (vc (ev2 rfl) vn)) rfl (by decide) (by decide)) (by simp only [upd, zaa, za]; exact rfl) ?_
  refine walk_k (gd_t (b := true) rfl rfl rfl) rfl rfl rfl ((zah [] [] [] rfl (ev1 rfl) (ec (ev2 rfl) (ec (ev2 rfl) en)) rfl rfl (equalS k8a k8a) rfl rfl rfl rfl rfl rfl).cast (d' := .val (.bool true)) (by rw [decide_eq_true rfl])) (by simp only [upd, zaa, za]; exact rfl) ?_
  refine zab rfl rfl rfl ((op_and rfl (ev1 rfl) (ev3 rfl (fun _ => rfl))).cast (d' := .val (.bool true)) (by rfl)) ?_
  refine zab rfl rfl rfl (zac (.inl rfl) (ev1 rfl)) ?_
  refine walk_k (gd_t (b := true) rfl rfl rfl) rfl rfl rfl (zac (.inl rfl) (ev1 rfl)) (by simp only [upd, zaa, za]; exact rfl) ?_
  refine walk_k (gd_t (b := true) rfl rfl rfl) rfl rfl rfl (op_bs (ps := [(0, .const (.int .i64 3)), (1, .const (.int .i64 1))]) rfl sl55 zr3 rfl (vc (ev1 rfl) (vc (ev1 rfl) vn)) rfl (by decide) (by decide)) (by simp only [upd, zaa, za]; exact rfl) ?_
  refine walk_k (gd_t (b := true) rfl rfl rfl) rfl rfl rfl ((zah [] [] [] rfl (ev1 rfl) (ec (ev2 rfl) (ec (ev2 rfl) en)) rfl rfl (equalI k8p k8p) rfl rfl rfl rfl rfl rfl).cast (d' := .val (.bool true)) (by rw [decide_eq_true rfl])) (by simp only [upd, zaa, za]; exact rfl) ?_
  refine zab rfl rfl rfl ((op_and rfl (ev1 rfl) (ev3 rfl (fun _ => rfl))).cast (d' := .val (.bool true)) (by rfl)) ?_
  refine zab rfl rfl rfl (zac (.inl rfl) (ev1 rfl)) ?_
  refine walk_k (gd_t (b := true) rfl rfl rfl) rfl rfl rfl (zac (.inl rfl) (ev1 rfl)) (by simp only [upd, zaa, za]; exact rfl) ?_
  refine walk_k (gd_t (b := true) rfl rfl rfl) rfl rfl rfl ((op_eql rfl (ev2 rfl) (ev1 rfl)).cast (d' := .val (.bool true)) (by kernel_rfl)) (by simp only [upd, zaa, za]; exact rfl) ?_
  refine zab rfl rfl rfl ((op_and rfl (ev1 rfl) (ev3 rfl (fun _ => rfl))).cast (d' := .val (.bool true)) (by rfl)) ?_
  refine zab rfl rfl rfl (zac (.inl rfl) (ev1 rfl)) ?_
  refine walk_k (gd_t (b := true) rfl rfl rfl) rfl rfl rfl (zac (.inl rfl) (ev1 rfl)) (by simp only [upd, zaa, za]; exact rfl) ?_
  refine walk_k (gd_t (b := true) rfl rfl rfl) rfl rfl rfl (op_build0 rfl fl34 zr34) (by simp only [upd, zaa, za]; exact rfl) ?_
  refine walk_k (gd_t (b := true) rfl rfl rfl) rfl rfl rfl (op_bs (ps := [(0, .tmp 121)]) rfl sl64 zr34 rfl (vc (ev2 rfl) vn) rfl (by decide) (by decide)) (by simp only [upd, zaa, za]; exact rfl) ?_
  refine walk_k (gd_t (b := true) rfl rfl rfl) rfl rfl rfl ((zah [] [] [] rfl (ev1 rfl) (ec (ev2 rfl) (ec (ev2 rfl) en)) rfl rfl (equalPt k8m k8m) rfl rfl rfl rfl rfl rfl).cast (d' := .val (.bool true)) (by rw [decide_eq_true rfl])) (by simp only [upd, zaa, za]; exact rfl) ?_
  refine zab rfl rfl rfl ((op_and rfl (ev1 rfl) (ev3 rfl (fun _ => rfl))).cast (d' := .val (.bool true)) (by rfl)) ?_
  refine zab rfl rfl rfl (zac (.inl rfl) (ev1 rfl)) ?_
  refine walk_k (gd_t (b := true) rfl rfl rfl) rfl rfl rfl (zac (.inl rfl) (ev1 rfl)) (by simp only [upd, zaa, za]; exact rfl) ?_
  refine walk_k (gd_t (b := true) rfl rfl rfl) rfl rfl rfl (op_bs (ps := [(0, .const (.int .i64 2))]) rfl sl55 zr3 rfl (vc (ev1 rfl) vn) rfl (by decide) (by decide)) (by simp only [upd, zaa, za]; exact rfl) ?_
  refine walk_k (gd_t (b := true) rfl rfl rfl) rfl rfl rfl ((zah [] [] [] rfl (ev1 rfl) (ec (ev2 rfl) (ec (ev2 rfl) en)) rfl rfl (equalI k8q k8q) rfl rfl rfl rfl rfl rfl).cast (d' := .val (.bool true)) (by rw [decide_eq_true rfl])) (by simp only [upd, zaa, za]; exact rfl) ?_
  refine zab rfl rfl rfl ((op_and rfl (ev1 rfl) (ev3 rfl (fun _ => rfl))).cast (d' := .val (.bool true)) (by rfl)) ?_
  refine zab rfl rfl rfl (zac (.inr rfl) (ev1 rfl)) ?_
  refine zae ?_
  refine zao ?_
  refine kend0 (rs1 rfl (rv_t rfl)) rfl ?_
  rfl
end Go.Proofs.Ytfnhckildfbikaa
namespace Go.Proofs.Ytfnhckildfbikaa
set_option maxRecDepth 4000
set_option linter.unusedVariables false
set_option linter.unusedSimpArgs false
open Go.RowKit
attribute [local irreducible] crT crU pcV rgF rgS gtP
theorem tkmin {α : Type} (l : List α) (n : Nat) : l.take (min l.length n) = l.take n := by
  rcases Nat.le_total l.length n with h | h
  · rw [Nat.min_eq_left h, List.take_length, List.take_of_length_le h]
  · rw [Nat.min_eq_right h]
theorem take_rng {ts : List TL} (h : tsRng ts) (n : Nat) : tsRng (ts.take n) := fun t ht => h t (List.mem_of_mem_take ht)
set_option maxRecDepth 4000 in
set_option maxHeartbeats 1000000 in
theorem lof_y (w h : Int) (ts : List TL) (hc : CvOk w h (ts.take 17)) : DFun Try.prog 8 [shD w h ts] [] (.tup [cvD w h (dpR (ts.take 17)), shD w h (ts.take 17), .val (.bool true)]) [] := by
  refine zan (N := 34) 0 (by kernel_rfl) Try.func8 rfl rfl rfl (by simp only [fr0, Nat.zero_add, Nat.reduceAdd]; exact rfl) rfl fun s0 hs0 => ?_
  refine zaf ?_
  refine zai 2 (by simp only [holes, List.cons_append, List.nil_append]; exact rfl) ?_
  refine zad ?_
  refine zaj rfl rfl rfl (op_boxam 0 rfl (ev1 rfl) rfl) (by simp only [upd, zaa, za]; exact rfl) ?_
  refine zab rfl rfl rfl (zac (.inr rfl) (ev1 rfl)) ?_
  refine zaj rfl rfl rfl (op_alloc 1 rfl zr24 rfl) (by simp only [upd, zaa, za]; exact rfl) ?_
  refine zab rfl rfl rfl (zac (.inr rfl) (ev1 rfl)) ?_
  refine zae ?_
  refine zaf ?_
  refine zai 1 (by simp only [holes, List.cons_append, List.nil_append]; exact rfl) ?_
  refine dwp_draw [([], []), ([0], []), ([], []), ([0], []), ([], []), ([0], []), ([], []), ([0], []), ([], []), ([], []), ([], []), ([], []), ([], []), ([2], [2]), ([2], [2])] mixed (by kernel_rfl) ?_
  refine zag rfl rfl (op_fa rfl fo24_0 (ev1 rfl)) ?_
  refine zag rfl rfl (op_ldm rfl tb3 (ev1 rfl) rfl rfl) ?_
  refine zag rfl rfl (op_fa rfl fo24_1 (ev1 rfl)) ?_
  refine zag rfl rfl (op_ldm rfl tb3 (ev1 rfl) rfl rfl) ?_
  refine zag rfl rfl (op_fa rfl fo24_2 (ev1 rfl)) ?_
  refine zag rfl rfl (op_ldm rfl tb22 (ev1 rfl) rfl rfl) ?_
  refine zag rfl rfl (op_fa rfl fo24_2 (ev1 rfl)) ?_
  refine zag rfl rfl (op_ldm rfl tb22 (ev1 rfl) rfl rfl) ?_
  refine zag rfl rfl (op_len rfl sl22 (ev1 rfl)) ?_
  refine zag rfl rfl (op_min rfl (ev1 rfl) (ev1 rfl)) ?_
  refine zag rfl rfl (op_sltk (j := min ts.length 17) rfl sl22 (ev1 rfl) (bd_some (ev1 rfl)) (fun _ => by omega) (fun _ => by omega) tc_len) ?_
  refine zag rfl rfl ((zah [] [] [] rfl (ev1 rfl) (ec (ev1 rfl) en) rfl rfl (cloneT_f _ (by rw [List.length_take]; omega)) rfl rfl rfl rfl rfl rfl).cast (d' := .slf 256 (ts.take 17).length ((ts.take 17).flatMap tc)) (by rw [tkmin])) ?_
  refine zag rfl rfl (op_bldD (ps := [(0, .tmp 9), (1, .tmp 11), (2, .tmp 19)]) rfl fl24 zr24 (ec (ev1 rfl) (ec (ev1 rfl) (ec (ev1 rfl) en))) rfl rfl rfl) ?_
  refine lex_w rfl rfl (op_alloc 2 rfl zr24 rfl) rfl (by simp only [upd, zaa, za]; exact rfl) ?_
  refine lex_s rfl rfl (op_stam rfl tb24 (ev1 rfl) (ev1 rfl) rfl rfl rfl rfl) rfl (by simp only [upd, zaa, za]; exact rfl) ?_
  refine lex_nil ?_
  refine zaf ?_
  refine zad ?_
  refine zab rfl rfl rfl (op_ldmw rfl tb24 (ev1 rfl) rfl rfl) ?_
  refine zab rfl rfl rfl (zah [] [] [] rfl (ev1 rfl) (ec (ev1 rfl) en) rfl rfl (of_d w h (ts.take 17) hc) rfl rfl rfl rfl rfl rfl) ?_
  refine zab rfl rfl rfl (zac (.inl rfl) (ev1 rfl)) ?_
  refine zab rfl rfl rfl (op_ext rfl (ev1 rfl) rfl) ?_
  refine zab rfl rfl rfl (op_ext rfl (ev1 rfl) rfl) ?_
  refine zab rfl rfl rfl (zac (.inr rfl) (ev1 rfl)) ?_
  refine zab rfl rfl rfl (zac (.inr rfl) (ev1 rfl)) ?_
  refine zae ?_
  refine zaf ?_
  refine dwp_draw [([], []), ([2], []), ([], []), ([], []), ([], []), ([], []), ([], []), ([], []), ([], []), ([1], [1]), ([], [])] mixed (by kernel_rfl) ?_
  refine zag rfl rfl (zac (.inl rfl) (ev1 rfl)) ?_
  refine zag rfl rfl (op_ldmw rfl tb24 (ev1 rfl) rfl rfl) ?_
  refine zag rfl rfl (zac (.inl rfl) (ev1 rfl)) ?_
  refine zag rfl rfl ((op_eql rfl (ev1 rfl) (ev1 rfl)).cast (d' := .val (.bool true)) (by kernel_rfl)) ?_
  refine zag rfl rfl (zac (.inl rfl) (ev1 rfl)) ?_
  refine lex_k (gd_t (b := true) rfl rfl rfl) rfl rfl (zac (.inl rfl) (ev1 rfl)) rfl (by simp only [upd, zaa, za]; exact rfl) ?_
  refine lex_k (gd_t (b := true) rfl rfl rfl) rfl rfl (op_pnilmn rfl pt29 (ev2 rfl)) rfl (by simp only [upd, zaa, za]; exact rfl) ?_
  refine zag rfl rfl ((op_and rfl (ev1 rfl) (ev3 rfl (fun _ => rfl))).cast (d' := .val (.bool true)) (by rfl)) ?_
  refine zag rfl rfl (zac (.inr rfl) (ev1 rfl)) ?_
  refine lex_s rfl rfl (op_stam rfl tb24 (ev1 rfl) (ev1 rfl) rfl rfl rfl rfl) rfl (by simp only [upd, zaa, za]; exact rfl) ?_
  refine zag rfl rfl (zac (.inr rfl) (ev1 rfl)) ?_
  refine lex_nil ?_
  refine zao ?_
  refine kend0 (rs3 rfl (rv_t rfl) (rv_mw tb24 rfl rfl rfl) (rv_t rfl)) rfl ?_
  rfl
set_option maxRecDepth 4000 in
set_option maxHeartbeats 1000000 in
theorem lof_n (w h : Int) (ts : List TL) (hr : rightB w h (ts.take 17) = false) : DFun Try.prog 8 [shD w h ts] [] (.tup [.val (.pointer none), shD w h (ts.take 17), .val (.bool false)]) [] := by
  refine zan (N := 34) 0 (by kernel_rfl) Try.func8 rfl rfl rfl (by simp only [fr0, Nat.zero_add, Nat.reduceAdd]; exact rfl) rfl fun s0 hs0 => ?_
  refine zaf ?_
  refine zai 2 (by simp only [holes, List.cons_append, List.nil_append]; exact rfl) ?_
  refine zad ?_
  refine zaj rfl rfl rfl (op_boxam 0 rfl (ev1 rfl) rfl) (by simp only [upd, zaa, za]; exact rfl) ?_
  refine zab rfl rfl rfl (zac (.inr rfl) (ev1 rfl)) ?_
  refine zaj rfl rfl rfl (op_alloc 1 rfl zr24 rfl) (by simp only [upd, zaa, za]; exact rfl) ?_
  refine zab rfl rfl rfl (zac (.inr rfl) (ev1 rfl)) ?_
  refine zae ?_
  refine zaf ?_
  refine zai 1 (by simp only [holes, List.cons_append, List.nil_append]; exact rfl) ?_
  refine dwp_draw [([], []), ([0], []), ([], []), ([0], []), ([], []), ([0], []), ([], []), ([0], []), ([], []), ([], []), ([], []), ([], []), ([], []), ([2], [2]), ([2], [2])] mixed (by kernel_rfl) ?_
  refine zag rfl rfl (op_fa rfl fo24_0 (ev1 rfl)) ?_
  refine zag rfl rfl (op_ldm rfl tb3 (ev1 rfl) rfl rfl) ?_
  refine zag rfl rfl (op_fa rfl fo24_1 (ev1 rfl)) ?_
  refine zag rfl rfl (op_ldm rfl tb3 (ev1 rfl) rfl rfl) ?_
  refine zag rfl rfl (op_fa rfl fo24_2 (ev1 rfl)) ?_
  refine zag rfl rfl (op_ldm rfl tb22 (ev1 rfl) rfl rfl) ?_
  refine zag rfl rfl (op_fa rfl fo24_2 (ev1 rfl)) ?_
  refine zag rfl rfl (op_ldm rfl tb22 (ev1 rfl) rfl rfl) ?_
  refine zag rfl rfl (op_len rfl sl22 (ev1 rfl)) ?_
  refine zag rfl rfl (op_min rfl (ev1 rfl) (ev1 rfl)) ?_
  refine zag rfl rfl (op_sltk (j := min ts.length 17) rfl sl22 (ev1 rfl) (bd_some (ev1 rfl)) (fun _ => by omega) (fun _ => by omega) tc_len) ?_
  refine zag rfl rfl ((zah [] [] [] rfl (ev1 rfl) (ec (ev1 rfl) en) rfl rfl (cloneT_f _ (by rw [List.length_take]; omega)) rfl rfl rfl rfl rfl rfl).cast (d' := .slf 256 (ts.take 17).length ((ts.take 17).flatMap tc)) (by rw [tkmin])) ?_
  refine zag rfl rfl (op_bldD (ps := [(0, .tmp 9), (1, .tmp 11), (2, .tmp 19)]) rfl fl24 zr24 (ec (ev1 rfl) (ec (ev1 rfl) (ec (ev1 rfl) en))) rfl rfl rfl) ?_
  refine lex_w rfl rfl (op_alloc 2 rfl zr24 rfl) rfl (by simp only [upd, zaa, za]; exact rfl) ?_
  refine lex_s rfl rfl (op_stam rfl tb24 (ev1 rfl) (ev1 rfl) rfl rfl rfl rfl) rfl (by simp only [upd, zaa, za]; exact rfl) ?_
  refine lex_nil ?_
  refine zaf ?_
  refine zad ?_
  refine zab rfl rfl rfl (op_ldmw rfl tb24 (ev1 rfl) rfl rfl) ?_
  refine zab rfl rfl rfl (zah [] [] [] rfl (ev1 rfl) (ec (ev1 rfl) en) rfl rfl (of_0 w h (ts.take 17) hr) rfl rfl rfl rfl rfl rfl) ?_
  refine zab rfl rfl rfl (zac (.inl rfl) (ev1 rfl)) ?_
  refine zab rfl rfl rfl (op_ext rfl (ev1 rfl) rfl) ?_
  refine zab rfl rfl rfl (op_ext rfl (ev1 rfl) rfl) ?_
  refine zab rfl rfl rfl (zac (.inr rfl) (ev1 rfl)) ?_
  refine zab rfl rfl rfl (zac (.inr rfl) (ev1 rfl)) ?_
  refine zae ?_
  refine zaf ?_
  refine dwp_draw [([], []), ([2], []), ([], []), ([], []), ([], []), ([], []), ([], []), ([], []), ([], []), ([1], [1]), ([], [])] mixed (by kernel_rfl) ?_
  refine zag rfl rfl (zac (.inl rfl) (ev1 rfl)) ?_
  refine zag rfl rfl (op_ldmw rfl tb24 (ev1 rfl) rfl rfl) ?_
  refine zag rfl rfl (zac (.inl rfl) (ev1 rfl)) ?_
  refine zag rfl rfl ((op_eql rfl (ev1 rfl) (ev1 rfl)).cast (d' := .val (.bool false)) (by kernel_rfl)) ?_
  refine zag rfl rfl (zac (.inl rfl) (ev1 rfl)) ?_
  refine lex_gr (gd_t (b := false) rfl rfl rfl) rfl rfl (dop_never (d := .junk)) ?_
  refine lex_gr (gd_t (b := false) rfl rfl rfl) rfl rfl (dop_never (d := .val (.bool false))) ?_
  refine zag rfl rfl ((op_and rfl (ev1 rfl) (ev3 rfl id)).cast (d' := .val (.bool false)) (by rfl)) ?_
  refine zag rfl rfl (zac (.inr rfl) (ev1 rfl)) ?_
  refine lex_s rfl rfl (op_stam rfl tb24 (ev1 rfl) (ev1 rfl) rfl rfl rfl rfl) rfl (by simp only [upd, zaa, za]; exact rfl) ?_
  refine zag rfl rfl (zac (.inr rfl) (ev1 rfl)) ?_
  refine lex_nil ?_
  refine zao ?_
  refine kend0 (rs3 rfl (rv_t rfl) (rv_mw tb24 rfl rfl rfl) (rv_t rfl)) rfl ?_
  rfl
end Go.Proofs.Ytfnhckildfbikaa
namespace Go.Proofs.Ytfnhckildfbikaa
set_option maxRecDepth 4000
set_option linter.unusedVariables false
set_option linter.unusedSimpArgs false
open Go.RowKit
attribute [local irreducible] crT crU pcV rgF rgS gtP
theorem refE_t {w h : Int} {l : List Int} {ps : List P2} (hb : l.any badT = true) : refE w h l ps = 2 := if_pos hb
end Go.Proofs.Ytfnhckildfbikaa
namespace Go.Proofs.Ytfnhckildfbikaa
set_option maxRecDepth 4000
set_option linter.unusedVariables false
set_option linter.unusedSimpArgs false
open Go.RowKit
attribute [local irreducible] crT crU pcV rgF rgS gtP zFD fV
abbrev q3 (a : Int × Int × Int) : List Value := [.int .i64 a.1, .int .i64 a.2.1, .int .i64 a.2.2]
end Go.Proofs.Ytfnhckildfbikaa
namespace Go.Proofs.Ytfnhckildfbikaa
set_option maxRecDepth 4000
set_option linter.unusedVariables false
set_option linter.unusedSimpArgs false
open Go.RowKit
open Go.ChangeShapes Go.WideShapes Go.ChangeAt Go.Joins Go.Deep
theorem fits_prim_i64 {v : Value} (h : (Prim.int .i64).is v) : ∃ a : Int, (-9223372036854775808 ≤ a ∧ a ≤ 9223372036854775807) ∧ v = .int .i64 a := by
  obtain ⟨x, rfl, w⟩ := h
  exact ⟨x, by simpa [Lit.wf, IntKind.min, IntKind.max, IntKind.signed, IntKind.bits] using w, rfl⟩
theorem fitsP_append : ∀ (a b : List Prim) (cs : List Value), fitsP (a ++ b) cs → ∃ c d, cs = c ++ d ∧ fitsP a c ∧ fitsP b d
  | [], _, cs, h => ⟨[], cs, rfl, trivial, h⟩
  | _ :: _, _, [], h => by cases h
  | p :: a, b, v :: cs, h => by
    obtain ⟨h1, h2⟩ := h
    obtain ⟨c, d, rfl, h3, h4⟩ := fitsP_append a b cs h2
    exact ⟨v :: c, d, rfl, ⟨h1, h3⟩, h4⟩
theorem fitsP_cons {p : Prim} {ps : List Prim} {cs : List Value} (h : fitsP (p :: ps) cs) : ∃ v r, cs = v :: r ∧ p.is v ∧ fitsP ps r := by
  cases cs with
  | nil => cases h
  | cons v r => exact ⟨v, r, rfl, h.1, h.2⟩
theorem fitsP_nil {cs : List Value} (h : fitsP [] cs) : cs = [] := by
  cases cs with
  | nil => rfl
  | cons v r => cases h
theorem fits_i64 : ∀ cs, fitsP [.int .i64] cs → ∃ a : Int, (-9223372036854775808 ≤ a ∧ a ≤ 9223372036854775807) ∧ cs = [.int .i64 a]
  | [c0], h => by
    obtain ⟨h0, _⟩ := h
    obtain ⟨a, w, rfl⟩ := fits_prim_i64 h0
    exact ⟨a, w, rfl⟩
  | [], h => by cases h
  | _ :: _ :: _, h => by obtain ⟨_, h⟩ := h; cases h
theorem fits_u8 {v : Value} (h : (Prim.int .u8).is v) : ∃ a : Int, (0 ≤ a ∧ a ≤ 255) ∧ v = .int .u8 a := by
  obtain ⟨x, rfl, w⟩ := h
  exact ⟨x, by simpa [Lit.wf, IntKind.min, IntKind.max, IntKind.signed, IntKind.bits] using w, rfl⟩
theorem fits_c4 (cs : List Value) (h : fitsP [.int .u8, .int .u8, .int .u8, .int .u8] cs) : ∃ a : C4, a.rng ∧ cs = c4 a := by
  obtain ⟨x0, r, rfl, h0, h⟩ := fitsP_cons h
  obtain ⟨x1, r, rfl, h1, h⟩ := fitsP_cons h
  obtain ⟨x2, r, rfl, h2, h⟩ := fitsP_cons h
  obtain ⟨x3, r, rfl, h3, h⟩ := fitsP_cons h
  obtain rfl := fitsP_nil h
  obtain ⟨a0, w0, rfl⟩ := fits_u8 h0
  obtain ⟨a1, w1, rfl⟩ := fits_u8 h1
  obtain ⟨a2, w2, rfl⟩ := fits_u8 h2
  obtain ⟨a3, w3, rfl⟩ := fits_u8 h3
  exact ⟨⟨a0, a1, a2, a3⟩, ⟨w0, w1, w2, w3⟩, rfl⟩
def P2.rng (p : P2) : Prop := (-9223372036854775808 ≤ p.x ∧ p.x ≤ 9223372036854775807) ∧ (-9223372036854775808 ≤ p.y ∧ p.y ≤ 9223372036854775807)
theorem fits_cs : ∀ (n : Nat) (cs : List Value), fitsP (List.replicate n [.int .u8, .int .u8, .int .u8, .int .u8]).flatten cs → ∃ l : List C4, l.length = n ∧ (∀ c ∈ l, c.rng) ∧ cs = l.flatMap c4
  | 0, [], _ => ⟨[], rfl, (fun c h => by cases h), rfl⟩
  | 0, _ :: _, h => by cases h
  | n + 1, cs, h => by
    rw [List.replicate_succ, List.flatten_cons] at h
    obtain ⟨a, b, rfl, h1, h2⟩ := fitsP_append _ _ _ h
    obtain ⟨c, hc, rfl⟩ := fits_c4 _ h1
    obtain ⟨l, hl, hr, rfl⟩ := fits_cs n b h2
    exact ⟨c :: l, by rw [List.length_cons, hl], fun d hd => (List.mem_cons.1 hd).elim (fun e => e ▸ hc) (hr d), rfl⟩
theorem fits_tl (cs : List Value) (h : fitsP (List.replicate 64 [.int .u8, .int .u8, .int .u8, .int .u8]).flatten cs) : ∃ t : TL, (∀ c ∈ t.l, c.rng) ∧ cs = tc t := by
  obtain ⟨l, hl, hr, rfl⟩ := fits_cs 64 cs h
  exact ⟨⟨l, hl⟩, hr, rfl⟩
theorem opens_i64 {w : World} : Opens Try.prog w 3 (fun a : Int => [.val (.int .i64 a)]) (fun a => -9223372036854775808 ≤ a ∧ a ≤ 9223372036854775807) := opens_flat 1 (fun a : Int => [.int .i64 a]) _ fits_i64 (by kernel_rfl)
theorem opens_rowz {α : Type} {w : World} {t e : TypeId} {ps : List Prim} {sz : Nat} (f : Nat) (en : α → List Value) (ok : α → Prop) (hP : ∀ cs, fitsP ps cs → ∃ a, ok a ∧ cs = en a) (ht : Try.prog.underlying t = some (.slice e)) (hf : flatT Try.prog f e = some ps) (hz : ps.length = sz) (hc : Try.prog.cellsOf e = sz) (hpos : 0 < sz)
    (hen : ∀ a, (en a).length = sz) : Opens Try.prog w t (fun l : List α => [.slf sz l.length (l.flatMap en)]) (fun l => ∀ a ∈ l, ok a) := by
  subst hz
  exact opens_row f en ok hP ht hf hc hpos hen
abbrev kT : List Prim := (List.replicate 64 [.int .u8, .int .u8, .int .u8, .int .u8]).flatten
theorem kT_len : kT.length = 256 := by kernel_rfl
theorem opens_tls {w : World} : Opens Try.prog w 22 (fun l : List TL => [.slf 256 l.length (l.flatMap tc)]) (fun l => ∀ x ∈ l, ∀ c ∈ x.l, c.rng) :=
  opens_rowz 4 tc (fun t => ∀ c ∈ t.l, c.rng) fits_tl Try.underlying22 (show flatT Try.prog 4 81 = some kT by kernel_rfl) kT_len (by kernel_rfl) (by decide) tc_len
abbrev shL (a : Int × Int × List TL) : List D := [.val (.int .i64 a.1), .val (.int .i64 a.2.1), .slf 256 a.2.2.length (a.2.2.flatMap tc)]
theorem opens_cv {w : World} : Opens Try.prog w 24 shL (fun a => tsRng a.2.2) :=
  opens_map (fun a : Int × Int × List TL × Unit => (a.1, a.2.1, a.2.2.1)) (opens_struct Try.underlying24 (by kernel_rfl) (opensF_cons (k := 1) rfl (by kernel_rfl) opens_i64 (opensF_cons (k := 1) rfl (by kernel_rfl) opens_i64 (opensF_cons (k := 1) rfl (by kernel_rfl) opens_tls opensF_nil)))) (fun _ => rfl) (fun _ h => h.2.2.1)
def Sp.rng (s : Sp) : Prop := (-9223372036854775808 ≤ s.y ∧ s.y ≤ 9223372036854775807) ∧ (-9223372036854775808 ≤ s.f ∧ s.f ≤ 9223372036854775807) ∧ -9223372036854775808 ≤ s.t ∧ s.t ≤ 9223372036854775807
end Go.Proofs.Ytfnhckildfbikaa
namespace Go.Proofs.Ytfnhckildfbikaa
set_option maxRecDepth 4000
set_option linter.unusedVariables false
set_option linter.unusedSimpArgs false
open Go.RowKit
attribute [local irreducible] crT crU pcV rgF rgS gtP zFD fV
abbrev q5 (a : Int × Int × Int × Int × Int) : List Value := [.int .i64 a.1, .int .i64 a.2.1, .int .i64 a.2.2.1, .int .i64 a.2.2.2.1, .int .i64 a.2.2.2.2]
end Go.Proofs.Ytfnhckildfbikaa
