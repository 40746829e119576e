/- what befalls parcels, in all -/
import Derived.Test.YtgomklemldldiaaNi
import Derived.Test.YtgomklemldldiaaLsu
namespace Go.Proofs.Ytgomklemldldiaa
set_option linter.unusedVariables false
set_option linter.unusedSimpArgs false
open Go.RowKit

def StepN (P : List Par) (L : Nat) (kd : Int) (P' : List Par) (L' : Nat) (p' : Par) : Prop :=
  (kd = 1 ∧ ∃ j, ∃ h : j < P.length, P' = P.eraseIdx j ∧ L' = L ∧ p' = P[j]) ∨
  (kd = 2 ∧ ∃ j, j < P.length ∧ P' = P.eraseIdx j ∧ L' = L) ∨
  (kd = 3 ∧ ∃ j, ∃ h : j < P.length, (P.length < 64 ∧ P' = P ++ [P[j]] ∧ L' = L) ∨ (64 ≤ P.length ∧ P' = P ∧ L' = L + 1)) ∨
  (kd = 4 ∧ ∃ j, ∃ h : j < P.length, ∃ bit mask : Nat, P[j].sp = false ∧ bit < 8 * P[j].b.length ∧ mask < 2 ^ 32 ∧ (¬ ∀ k, k < P[j].b.length → ((mask <<< bit) >>> (8 * k)) % 256 = 0) ∧ P' = P.set j ⟨P[j].to, spl (mask <<< bit) P[j].b, true⟩ ∧ L' = L)
theorem do_cases (P : List Par) (L : Nat) (hN : netB P (L : Int) = true) (hl : ∀ p ∈ P, p.b.length ≤ 1000000 ∧ ∀ x ∈ p.b, x < 256) (hL : L < 4611686018427387904) (kd at_ bt : Int) (mk : Nat) (hbt : bt ≤ 9223372036854775807) (hmk : mk < 2 ^ 32) :
    (∃ P' L' p', DFun Try.prog 21 [nA P L, .val (.agg #[.int .i64 kd, .int .i64 at_, .int .i64 bt, .int .u32 (mk : Int)])] [] (.tup [nA P' L', .agg (pD p'), .val (.int .i64 0)]) [] ∧ StepN P L kd P' L' p') ∨
    ∃ e : Int, e ≠ 0 ∧ DFun Try.prog 21 [nA P L, .val (.agg #[.int .i64 kd, .int .i64 at_, .int .i64 bt, .int .u32 (mk : Int)])] [] (.tup [nA [] 0, .agg (pD zP), .val (.int .i64 e)]) [] := by
  have hP := (net_le hN).1
  have wz : ∀ {e : Int}, DFun Try.prog 21 [nA P L, .val (.agg #[.int .i64 kd, .int .i64 at_, .int .i64 bt, .int .u32 (mk : Int)])] [] (.tup [.val (.agg #[.slice none 0 0, .int .u64 0]), .val (.agg #[.int .i64 0, .slice none 0 0, .bool false]), .val (.int .i64 e)]) [] → DFun Try.prog 21 [nA P L, .val (.agg #[.int .i64 kd, .int .i64 at_, .int .i64 bt, .int .u32 (mk : Int)])] [] (.tup [nA [] 0, .agg (pD zP), .val (.int .i64 e)]) [] := fun h => wk_3 h (fun _ _ => rep_zn) (fun _ _ => rep_zp)
  by_cases hk : kd < 1 ∨ 4 < kd
  · exact .inr ⟨2, by decide, wz (Do_kind P L kd at_ bt mk hN hk)⟩
  by_cases ha : at_ < 0 ∨ (P.length : Int) ≤ at_
  · exact .inr ⟨4, by decide, wz (Do_at P L kd at_ bt mk hN (by omega) ha)⟩
  obtain ⟨j, rfl⟩ : ∃ j : Nat, at_ = (j : Int) := ⟨at_.toNat, by omega⟩
  have hj : j < P.length := by omega
  obtain ⟨hbl, hbn⟩ := hl _ (List.getElem_mem hj)
  have h4 : kd = 1 ∨ kd = 2 ∨ kd = 3 ∨ kd = 4 := by omega
  rcases h4 with rfl | rfl | rfl | rfl
  · exact .inl ⟨_, _, _, net_frz (Do_take P L bt mk j hj hN hP) rfl, .inl ⟨rfl, j, hj, rfl, rfl, rfl⟩⟩
  · exact .inl ⟨_, _, _, wk_3 (net_frz (Do_drop P L bt mk j hj hN hP) rfl) id_ (fun _ _ => rep_zp), .inr (.inl ⟨rfl, j, hj, rfl, rfl⟩)⟩
  · by_cases h64 : P.length < 64
    · exact .inl ⟨_, _, _, wk_3 (net_frz (Do_twice P L bt mk j hj hN h64 (fun p hp => by have := (hl p hp).1; omega)) rfl) id_ (fun _ _ => rep_zp), .inr (.inr (.inl ⟨rfl, j, hj, .inl ⟨h64, rfl, rfl⟩⟩))⟩
    · exact .inl ⟨_, _, _, wk_3 (net_frz (Do_full P L bt mk j hj hN (by omega) hL) rfl) id_ (fun _ _ => rep_zp), .inr (.inr (.inl ⟨rfl, j, hj, .inr ⟨by omega, rfl, rfl⟩⟩))⟩
  · by_cases hsp : P[j].sp = true
    · exact .inr ⟨5, by decide, wz (Do_there P L bt mk j hj hN hsp)⟩
    have hsp : P[j].sp = false := by simpa using hsp
    by_cases ho : bt < 0 ∨ 8 * (P[j].b.length : Int) ≤ bt
    · exact .inr ⟨2, by decide, wz (Do_out P L bt mk j hj hsp hbt ho hN)⟩
    obtain ⟨bit, rfl⟩ : ∃ bit : Nat, bt = (bit : Int) := ⟨bt.toNat, by omega⟩
    have hb : bit < 8 * P[j].b.length := by omega
    by_cases h0 : ∀ k, k < P[j].b.length → ((mk <<< bit) >>> (8 * k)) % 256 = 0
    · exact .inr ⟨2, by decide, wz (Do_no P L bit mk j hj hN hsp hmk hb hbl hbn h0)⟩
    · exact .inl ⟨_, _, _, wk_3 (net_frz (Do_spl P L bit mk j hj hN hsp hmk hb hbl hbn h0) rfl) id_ (fun _ _ => rep_zp), .inr (.inr (.inr ⟨rfl, j, hj, bit, mk, hsp, hb, hmk, h0, rfl, rfl⟩))⟩

structure BAct where
  s : Bool
  to : Int
  b : List Nat
  kd : Int
  at_ : Int
  bt : Int
  mq : Nat
def bD (a : BAct) : List D := [.val (.bool a.s), .val (.int .i64 a.to), .slf 1 a.b.length (a.b.flatMap un8), .val (.int .i64 a.kd), .val (.int .i64 a.at_), .val (.int .i64 a.bt), .val (.int .u32 (a.mq : Int))]
def okB (a : BAct) : Prop := (∀ x ∈ a.b, x < 256) ∧ a.bt ≤ 9223372036854775807 ∧ a.mq < 2 ^ 32
structure BSt where
  k : Nat
  P : List Par
  L : Nat
  R : List (List Nat)
  mo : Nat
  le : Nat
def goodP (R : List (List Nat)) (p : Par) : Prop := (0 ≤ p.to ∧ p.to ≤ 8) ∧ ∃ m, isN m ∧ m.length ≤ 40 ∧ ((p.sp = false ∧ p.b = sealC m ∧ p.b ∈ R) ∨
  (p.sp = true ∧ ∃ bit mask : Nat, bit < 8 * (sealC m).length ∧ mask < 2 ^ 32 ∧ (¬ ∀ k, k < (sealC m).length → ((mask <<< bit) >>> (8 * k)) % 256 = 0) ∧ p.b = spl (mask <<< bit) (sealC m)))
structure invB (s : BSt) : Prop where
  len : s.P.length ≤ 64
  lk : s.L ≤ s.k
  cnt : s.P.length + s.le + s.L = s.mo
  mok : s.mo ≤ s.k
  rk : s.R.length ≤ s.k
  k60 : s.k ≤ 60
  good : ∀ p ∈ s.P, goodP s.R p
theorem good_len {R : List (List Nat)} {p : Par} (h : goodP R p) : 4 ≤ p.b.length ∧ p.b.length ≤ 44 ∧ isN p.b := by
  obtain ⟨_, m, h1, h2, (⟨_, h3, _⟩ | ⟨_, bit, mask, _, _, _, h3⟩)⟩ := h
  · rw [h3]; exact ⟨by rw [sealC_len]; omega, by rw [sealC_len]; omega, seal_lt h1⟩
  · rw [h3]; exact ⟨by rw [spl_len, sealC_len]; omega, by rw [spl_len, sealC_len]; omega, spl_lt (seal_lt h1)⟩
theorem good_may {R : List (List Nat)} {p : Par} (h : goodP R p) : mayB p = true := by
  have h1 := good_len h
  unfold mayB
  rw [Bool.and_eq_true, Bool.and_eq_true]
  exact ⟨⟨decide_eq_true h.1.1, decide_eq_true h.1.2⟩, decide_eq_true (by omega)⟩
theorem good_mono {R : List (List Nat)} {p : Par} (x : List Nat) (h : goodP R p) : goodP (R ++ [x]) p := by
  obtain ⟨h0, m, h1, h2, (⟨h4, h3, h5⟩ | h3)⟩ := h
  · exact ⟨h0, m, h1, h2, .inl ⟨h4, h3, List.mem_append_left _ h5⟩⟩
  · exact ⟨h0, m, h1, h2, .inr h3⟩
theorem net_of {P : List Par} {L : Nat} {R : List (List Nat)} (h1 : P.length ≤ 64) (h2 : L ≤ 100) (h3 : ∀ p ∈ P, goodP R p) : netB P (L : Int) = true := by
  unfold netB
  rw [Bool.and_eq_true, Bool.and_eq_true]
  exact ⟨⟨decide_eq_true h1, decide_eq_true (by omega)⟩, List.all_eq_true.2 fun p hp => good_may (h3 p hp)⟩
theorem inv_net {s : BSt} (h : invB s) : netB s.P (s.L : Int) = true := net_of h.len (by have := h.lk; have := h.k60; omega) h.good
theorem snd1 (P : List Par) (q : Par) (L : Nat) (h : P.length ≤ 64) : (sndP P [q] 1 = P ++ [q] ∧ sndL P L 1 = L ∧ P.length < 64) ∨ (sndP P [q] 1 = P ∧ sndL P L 1 = L + 1 ∧ P.length = 64) := by
  have h0 := sndP_0 (P := P) [q] h
  have hL := sndL_0 (P := P) L h
  by_cases h64 : P.length < 64
  · refine .inl ⟨?_, ?_, h64⟩
    · have := sndP_room (P := P) (l := [q]) (k := 0) (by simp) (by rw [h0]; exact h64)
      rw [h0] at this; exact this
    · have := sndL_room (P := P) (l := [q]) (L := L) (k := 0) (by simp) (by rw [h0]; exact h64)
      rw [hL] at this; exact this
  · refine .inr ⟨?_, ?_, by omega⟩
    · have := sndP_full (P := P) (l := [q]) (k := 0) (by simp) (by rw [h0]; omega)
      rw [h0] at this; exact this
    · have := sndL_full (P := P) (l := [q]) (L := L) (k := 0) (by simp) (by rw [h0]; omega)
      rw [hL] at this; exact this
theorem inv_send {s : BSt} (h : invB s) (hk : s.k < 60) {m : List Nat} (hm : isN m) (hml : m.length ≤ 40) {to : Int} (ht : 0 ≤ to ∧ to ≤ 8) :
    invB ⟨s.k + 1, sndP s.P [⟨to, sealC m, false⟩] 1, sndL s.P s.L 1, s.R ++ [sealC m], s.mo + 1, s.le⟩ := by
  have h1 := h.len; have h2 := h.lk; have h3 := h.cnt; have h4 := h.mok; have h5 := h.rk
  rcases snd1 s.P ⟨to, sealC m, false⟩ s.L h1 with ⟨e1, e2, e3⟩ | ⟨e1, e2, e3⟩
  · rw [e1, e2]
    refine ⟨by simp; omega, by show s.L ≤ s.k + 1; omega, by simp; omega, by show s.mo + 1 ≤ s.k + 1; omega, by simp; omega, by show s.k + 1 ≤ 60; omega, fun p hp => ?_⟩
    rcases List.mem_append.1 hp with hp | hp
    · exact good_mono _ (h.good p hp)
    · obtain rfl := List.mem_singleton.1 hp
      exact ⟨ht, m, hm, hml, .inl ⟨rfl, rfl, by simp⟩⟩
  · rw [e1, e2]
    exact ⟨h1, by show s.L + 1 ≤ s.k + 1; omega, by show s.P.length + s.le + (s.L + 1) = s.mo + 1; omega, by show s.mo + 1 ≤ s.k + 1; omega, by simp; omega, by show s.k + 1 ≤ 60; omega, fun p hp => good_mono _ (h.good p hp)⟩
theorem erase_len {P : List Par} {j : Nat} (h : j < P.length) : (P.eraseIdx j).length + 1 = P.length := by rw [List.length_eraseIdx, if_pos h]; omega
theorem step_take {s : BSt} (h : invB s) (hk : s.k < 60) {P' : List Par} {L' : Nat} {p' : Par} (hs : StepN s.P s.L 1 P' L' p') : invB ⟨s.k + 1, P', L', s.R, s.mo, s.le + 1⟩ ∧ goodP s.R p' := by
  have h1 := h.len; have h2 := h.lk; have h3 := h.cnt; have h4 := h.mok; have h5 := h.rk
  rcases hs with ⟨_, j, hj, rfl, rfl, rfl⟩ | ⟨e, _⟩ | ⟨e, _⟩ | ⟨e, _⟩
  · have hl := erase_len hj
    exact ⟨⟨by show (s.P.eraseIdx j).length ≤ 64; omega, by show s.L ≤ s.k + 1; omega, by show (s.P.eraseIdx j).length + (s.le + 1) + s.L = s.mo; omega, by show s.mo ≤ s.k + 1; omega, by show s.R.length ≤ s.k + 1; omega, by show s.k + 1 ≤ 60; omega, fun p hp => h.good p (List.mem_of_mem_eraseIdx hp)⟩, h.good _ (List.getElem_mem hj)⟩
  · exact absurd e (by decide)
  · exact absurd e (by decide)
  · exact absurd e (by decide)
theorem step_drop {s : BSt} (h : invB s) (hk : s.k < 60) {P' : List Par} {L' : Nat} {p' : Par} (hs : StepN s.P s.L 2 P' L' p') : invB ⟨s.k + 1, P', L', s.R, s.mo, s.le + 1⟩ := by
  have h1 := h.len; have h2 := h.lk; have h3 := h.cnt; have h4 := h.mok; have h5 := h.rk
  rcases hs with ⟨e, _⟩ | ⟨_, j, hj, rfl, rfl⟩ | ⟨e, _⟩ | ⟨e, _⟩
  · exact absurd e (by decide)
  · have hl := erase_len hj
    exact ⟨by show (s.P.eraseIdx j).length ≤ 64; omega, by show s.L ≤ s.k + 1; omega, by show (s.P.eraseIdx j).length + (s.le + 1) + s.L = s.mo; omega, by show s.mo ≤ s.k + 1; omega, by show s.R.length ≤ s.k + 1; omega, by show s.k + 1 ≤ 60; omega, fun p hp => h.good p (List.mem_of_mem_eraseIdx hp)⟩
  · exact absurd e (by decide)
  · exact absurd e (by decide)
theorem step_twice {s : BSt} (h : invB s) (hk : s.k < 60) {P' : List Par} {L' : Nat} {p' : Par} (hs : StepN s.P s.L 3 P' L' p') : invB ⟨s.k + 1, P', L', s.R, s.mo + 1, s.le⟩ := by
  have h1 := h.len; have h2 := h.lk; have h3 := h.cnt; have h4 := h.mok; have h5 := h.rk
  rcases hs with ⟨e, _⟩ | ⟨e, _⟩ | ⟨_, j, hj, (⟨h6, rfl, rfl⟩ | ⟨h6, rfl, rfl⟩)⟩ | ⟨e, _⟩
  · exact absurd e (by decide)
  · exact absurd e (by decide)
  · refine ⟨by simp; omega, by show s.L ≤ s.k + 1; omega, by simp; omega, by show s.mo + 1 ≤ s.k + 1; omega, by show s.R.length ≤ s.k + 1; omega, by show s.k + 1 ≤ 60; omega, fun p hp => ?_⟩
    rcases List.mem_append.1 hp with hp | hp
    · exact h.good p hp
    · obtain rfl := List.mem_singleton.1 hp
      exact h.good _ (List.getElem_mem hj)
  · exact ⟨h1, by show s.L + 1 ≤ s.k + 1; omega, by show s.P.length + s.le + (s.L + 1) = s.mo + 1; omega, by show s.mo + 1 ≤ s.k + 1; omega, by show s.R.length ≤ s.k + 1; omega, by show s.k + 1 ≤ 60; omega, h.good⟩
  · exact absurd e (by decide)
theorem step_spoil {s : BSt} (h : invB s) (hk : s.k < 60) {kd : Int} (n1 : kd ≠ 1) (n2 : kd ≠ 2) (n3 : kd ≠ 3) {P' : List Par} {L' : Nat} {p' : Par} (hs : StepN s.P s.L kd P' L' p') : invB ⟨s.k + 1, P', L', s.R, s.mo, s.le⟩ := by
  have h1 := h.len; have h2 := h.lk; have h3 := h.cnt; have h4 := h.mok; have h5 := h.rk
  rcases hs with ⟨e, _⟩ | ⟨e, _⟩ | ⟨e, _⟩ | ⟨_, j, hj, bit, mask, h6, h7, h8, h9, rfl, rfl⟩
  · exact absurd e n1
  · exact absurd e n2
  · exact absurd e n3
  · refine ⟨by simp; omega, by show s.L ≤ s.k + 1; omega, by simp; omega, by show s.mo ≤ s.k + 1; omega, by show s.R.length ≤ s.k + 1; omega, by show s.k + 1 ≤ 60; omega, fun p hp => ?_⟩
    rcases List.mem_or_eq_of_mem_set hp with hp | rfl
    · exact h.good p hp
    · obtain ⟨g0, m, g1, g2, (⟨g3, g4, g5⟩ | ⟨g3, _⟩)⟩ := h.good _ (List.getElem_mem hj)
      · rw [g4] at h7 h9
        exact ⟨g0, m, g1, g2, .inr ⟨rfl, bit, mask, h7, h8, h9, by rw [g4]⟩⟩
      · rw [g3] at h6; cases h6
theorem step_err {s : BSt} (h : invB s) (hk : s.k < 60) : invB ⟨s.k + 1, s.P, s.L, s.R, s.mo, s.le⟩ := by
  have h2 := h.lk; have h4 := h.mok; have h5 := h.rk
  exact ⟨h.len, by show s.L ≤ s.k + 1; omega, h.cnt, by show s.mo ≤ s.k + 1; omega, by show s.R.length ≤ s.k + 1; omega, by show s.k + 1 ≤ 60; omega, h.good⟩
theorem step_net {s : BSt} (h : invB s) (hk : s.k < 60) {kd : Int} {P' : List Par} {L' : Nat} {p' : Par} (hs : StepN s.P s.L kd P' L' p') : netB P' (L' : Int) = true := by
  by_cases e1 : kd = 1
  · subst e1; exact inv_net (step_take h hk hs).1
  by_cases e2 : kd = 2
  · subst e2; exact inv_net (step_drop h hk hs)
  by_cases e3 : kd = 3
  · subst e3; exact inv_net (step_twice h hk hs)
  exact inv_net (step_spoil h hk e1 e2 e3 hs)
def DoOK (P : List Par) (L : Nat) (kd at_ bt : Int) (mk : Nat) : Prop := ∃ P' L' p', DFun Try.prog 21 [nA P L, .val (.agg #[.int .i64 kd, .int .i64 at_, .int .i64 bt, .int .u32 (mk : Int)])] [] (.tup [nA P' L', .agg (pD p'), .val (.int .i64 0)]) [] ∧ StepN P L kd P' L' p'
theorem do_err {s : BSt} (h : invB s) {kd at_ bt : Int} {mk : Nat} (hb : bt ≤ 9223372036854775807) (hm : mk < 2 ^ 32) (hn : ¬ DoOK s.P s.L kd at_ bt mk) : ∃ e : Int, e ≠ 0 ∧ DFun Try.prog 21 [nA s.P s.L, .val (.agg #[.int .i64 kd, .int .i64 at_, .int .i64 bt, .int .u32 (mk : Int)])] [] (.tup [nA [] 0, .agg (pD zP), .val (.int .i64 e)]) [] :=
  (do_cases s.P s.L (inv_net h) (fun p hp => by have := good_len (h.good p hp); exact ⟨by omega, this.2.2⟩) (by have := h.lk; have := h.k60; omega) kd at_ bt mk hb hm).resolve_left hn
theorem send_one {s : BSt} (h : invB s) {m : List Nat} (hm : isN m) (hml : m.length ≤ 40) {to : Int} (ht : 0 ≤ to ∧ to ≤ 8) : DFun Try.prog 16 [nA s.P s.L, .slm 3 1 (pD ⟨to, sealC m, false⟩)] [] (.tup [nA (sndP s.P [⟨to, sealC m, false⟩] 1) (sndL s.P s.L 1), .val (.int .i64 0)]) [] := by
  have hg : goodP [sealC m] ⟨to, sealC m, false⟩ := ⟨ht, m, hm, hml, .inl ⟨rfl, rfl, by simp⟩⟩
  have h1 := good_may hg
  exact net_frz2 (Send_o s.P [⟨to, sealC m, false⟩] s.L (inv_net h) (by simp) (by have := h.lk; have := h.k60; omega) (by simp [h1]))
theorem open_sp {R : List (List Nat)} {p : Par} (h : goodP R p) (hs : p.sp = true) : DFun Try.prog 29 [.slf 1 p.b.length (p.b.flatMap un8)] [] (.tup [.val (.slice none 0 0), .val (.int .i64 120)]) [] := by
  have hl := good_len h
  obtain ⟨_, m, h1, h2, (⟨e, _⟩ | ⟨_, bit, mask, g1, g2, g3, g4⟩)⟩ := h
  · rw [hs] at e; cases e
  · have := open_no p.b hl.2.2 (by omega) hl.1 (by rw [g4]; exact burst_no h1 g1 g2 g3)
    exact this
theorem open_ok {R : List (List Nat)} {p : Par} (h : goodP R p) (hs : p.sp = false) : DFun Try.prog 29 [.slf 1 p.b.length (p.b.flatMap un8)] [] (.tup [.slf 1 (p.b.take (p.b.length - 4)).length ((p.b.take (p.b.length - 4)).flatMap un8), .val (.int .i64 0)]) [] := by
  have hl := good_len h
  obtain ⟨_, m, h1, h2, (⟨_, g4, _⟩ | ⟨e, _⟩)⟩ := h
  · exact freeze (open_o p.b hl.2.2 (by omega) hl.1 (by rw [g4]; exact open_seal m)) rfl
  · rw [hs] at e; cases e
theorem any_ok {R : List (List Nat)} {p : Par} (h : goodP R p) (hs : p.sp = false) : (R.any fun b => decide (b = p.b)) = true := by
  obtain ⟨_, m, h1, h2, (⟨_, g4, g5⟩ | ⟨e, _⟩)⟩ := h
  · exact List.any_eq_true.2 ⟨_, g5, by simp⟩
  · rw [hs] at e; cases e

set_option maxRecDepth 4000 in
set_option maxHeartbeats 1000000 in
theorem br1_d (b : List Nat) (p : Par) : DFun Try.prog 31 [.slf 1 (b).length ((b).flatMap un8), .dpm (pD p)] [] (.val (.bool (decide (b = p.b)))) [] := by
  refine dcalls_go (N := 8) 0 (by kernel_rfl) Try.func31 rfl rfl rfl (by simp only [fr0, Nat.zero_add, Nat.reduceAdd]; exact rfl) rfl fun s0 hs0 => ?_
  refine dwp_len (t := 0) rfl fun hl0 hL0 => ?_
  refine dwp_seq ?_
  refine dwp_region ?_
  refine walk_r rfl rfl rfl (op_move (.inr rfl) (ev1 rfl)) ?_
  refine walk_nil ?_
  refine dwp_seq ?_
  refine dwp_region ?_
  refine walk_r rfl rfl rfl (op_move (.inl rfl) (ev1 rfl)) ?_
  refine walk_r rfl rfl rfl (op_fadm rfl fo38_1 (ev1 rfl)) ?_
  refine walk_r rfl rfl rfl (op_lddm rfl tb36 (ev1 rfl) rfl) ?_
  refine walk_r rfl rfl rfl (dop_call [] [] [] rfl (ev1 rfl) (ec (ev1 rfl) (ec (ev1 rfl) en)) rfl rfl (equalN b p.b) rfl rfl rfl rfl rfl rfl) ?_
  refine walk_r rfl rfl rfl (op_move (.inr rfl) (ev1 rfl)) ?_
  refine walk_nil ?_
  refine dwp_ret ?_
  refine kend0 (rs1 rfl (rv_t rfl)) rfl ?_
  rfl

set_option maxRecDepth 4000 in
set_option maxHeartbeats 1000000 in
theorem idxr_b (p : Par) (R : List (List Nat)) : DFun Try.prog 57 [.slm 1 (R).length ((R).flatMap fun p => [rN p]), .fn (.func 31) [] [.dpm (pD p)]] [] (.val (.int .i64 (fidx (fun b => decide (b = p.b)) R))) [] := by
  refine dcalls_go (N := 19) 0 (by kernel_rfl) Try.func57 rfl rfl rfl (by simp only [fr0, Nat.zero_add, Nat.reduceAdd]; exact rfl) rfl fun s0 hs0 => ?_
  refine dwp_lenm (t := 0) rfl fun hl0 hL0 => ?_
  refine dwp_seq ?_
  refine dwp_region ?_
  refine walk_r rfl rfl rfl (op_move (.inr rfl) (ev1 rfl)) ?_
  refine walk_nil ?_
  refine dwp_seq ?_
  refine dwp_seq ?_
  refine dwp_region ?_
  refine walk_r rfl rfl rfl (op_move (.inl rfl) (ev1 rfl)) ?_
  refine walk_r rfl rfl rfl (op_lenm rfl sl61 (ev1 rfl)) ?_
  refine walk_r rfl rfl rfl (op_move (.inl rfl) (ev1 rfl)) ?_
  refine walk_nil ?_
  refine dwp_block ?_
  refine dwp_loopS ⟨hs0, rfl⟩ (α := Nat) (fun k => [(8, .val (.int .i64 (k : Int)))]) [(0, _), (1, _), (7, _)] (fun k => []) [] (fun k => k ≤ R.length ∧ ∀ i, i < k → ∀ (hi : i < R.length), (fun b => decide (b = p.b)) R[i] = false) (fun k => R.length - k) 0 [] (⟨by omega, fun i hi => absurd hi (Nat.not_lt_zero i)⟩) rfl ⟨rfl, rfl, rfl, trivial⟩ ⟨rfl, trivial⟩ trivial ?_
  intro k hx
  simp only [upd, List.set_cons_zero, List.set_cons_succ, List.cons_append, List.nil_append]
  obtain ⟨hk, hall⟩ := hx
  refine dwp_seq ?_
  refine dwp_region ?_
  refine walk_r rfl rfl rfl (op_lss rfl (ev1 rfl) (ev1 rfl)) ?_
  refine walk_nil ?_
  refine dwp_seq ?_
  refine dwp_cond rfl (fun c1 => ?_) (fun c1 => ?_)
  · try simp only [decide_eq_true_eq, decide_eq_false_iff_not, beq_iff_eq, bne_iff_ne, beq_eq_false_iff_ne, bne_eq_false_iff_eq, Bool.not_eq_true', Bool.not_eq_false', Bool.and_eq_true, Bool.or_eq_true, Bool.or_eq_false_iff, ne_eq, Decidable.not_not, Int.not_lt, Int.not_le] at c1
    refine dwp_skip ?_
    refine dwp_seq ?_
    refine dwp_block ?_
    refine dwp_seq ?_
    refine dwp_region ?_
    refine walk_r rfl rfl rfl (op_move (.inl rfl) (ev1 rfl)) ?_
    refine walk_r rfl rfl rfl (op_move (.inr rfl) (ev1 rfl)) ?_
    refine walk_nil ?_
    refine dwp_seq ?_
    refine dwp_region ?_
    refine walk_r rfl rfl rfl (op_move (.inl rfl) (ev1 rfl)) ?_
    refine walk_r rfl rfl rfl (op_move (.inl rfl) (ev1 rfl)) ?_
    refine walk_r rfl rfl rfl (op_move (.inl rfl) (ev1 rfl)) ?_
    refine walk_r rfl rfl rfl (op_ixm (k) rfl sl61 (ev1 rfl) (ev1 rfl) (fun _ => rfl) (flat1_at (by omega))) ?_
    refine walk_r rfl rfl rfl (op_lddm rfl tb36 (ev1 rfl) rfl) ?_
    refine walk_r rfl rfl rfl (dop_call [] [] [] rfl (ev1 rfl) (ec (ev1 rfl) en) rfl rfl (br1_d R[k] p) rfl rfl rfl rfl rfl rfl) ?_
    refine walk_nil ?_
    refine dwp_cond rfl (fun c2_ => ?_) (fun c2_ => ?_)
    · have c2t := c2_
      refine dwp_seq ?_
      refine dwp_region ?_
      refine walk_r rfl rfl rfl (op_move (.inl rfl) (ev1 rfl)) ?_
      refine walk_r rfl rfl rfl (op_move (.inr rfl) (ev1 rfl)) ?_
      refine walk_nil ?_
      refine dwp_ret ?_
      refine kend0 (rs1 rfl (rv_t rfl)) rfl ?_
      rw [fidx_at (h := fun b => decide (b = p.b)) (by omega) hall c2_]
    · have c2f := c2_
      refine dwp_skip ?_
      refine dwp_region ?_
      refine walk_r rfl rfl rfl (op_add' rfl (ev1 rfl) (ev1 rfl) (fun _ => IntWalk.i64_in _ (by omega))) ?_
      refine walk_r rfl rfl rfl (op_move (.inl rfl) (ev1 rfl)) ?_
      refine walk_nil ?_
      refine ⟨k + 1, [], ⟨by omega, fun i hi hi2 => by
      by_cases e : i = k
      · subst e; exact c2f
      · exact hall i (by omega) hi2⟩, by simp only []; omega, rfl, ⟨rfl, rfl, rfl, rfl, trivial⟩, trivial⟩
  · try simp only [decide_eq_true_eq, decide_eq_false_iff_not, beq_iff_eq, bne_iff_ne, beq_eq_false_iff_ne, bne_eq_false_iff_eq, Bool.not_eq_true', Bool.not_eq_false', Bool.and_eq_true, Bool.or_eq_true, Bool.or_eq_false_iff, ne_eq, Decidable.not_not, Int.not_lt, Int.not_le] at c1
    refine dwp_exit ?_
    refine dwp_seq ?_
    refine dwp_region ?_
    refine walk_r rfl rfl rfl (op_move (.inr rfl) (ev1 rfl)) ?_
    refine walk_nil ?_
    refine dwp_ret ?_
    refine kend0 (rs1 rfl (rv_t rfl)) rfl ?_
    rw [fidx_no (h := fun b => decide (b = p.b)) fun i hi => hall i (by omega) hi]

set_option maxRecDepth 4000 in
set_option maxHeartbeats 1000000 in
theorem contr_b (p : Par) (R : List (List Nat)) : DFun Try.prog 30 [.slm 1 (R).length ((R).flatMap fun p => [rN p]), .fn (.func 31) [] [.dpm (pD p)]] [] (.val (.bool (R.any (fun b => decide (b = p.b))))) [] := by
  refine dcalls_go (N := 9) 0 (by kernel_rfl) Try.func30 rfl rfl rfl (by simp only [fr0, Nat.zero_add, Nat.reduceAdd]; exact rfl) rfl fun s0 hs0 => ?_
  refine dwp_lenm (t := 0) rfl fun hl0 hL0 => ?_
  refine dwp_seq ?_
  refine dwp_region ?_
  refine walk_r rfl rfl rfl (op_move (.inr rfl) (ev1 rfl)) ?_
  refine walk_nil ?_
  refine dwp_seq ?_
  refine dwp_region ?_
  refine walk_r rfl rfl rfl (op_move (.inl rfl) (ev1 rfl)) ?_
  refine walk_r rfl rfl rfl (op_move (.inl rfl) (ev1 rfl)) ?_
  refine walk_r rfl rfl rfl (dop_call [] [] [] rfl (ev1 rfl) (ec (ev1 rfl) (ec (ev1 rfl) en)) rfl rfl (idxr_b p R) rfl rfl rfl rfl rfl rfl) ?_
  refine walk_r rfl rfl rfl (op_geq rfl (ev1 rfl) (ev1 rfl)) ?_
  refine walk_r rfl rfl rfl (op_move (.inr rfl) (ev1 rfl)) ?_
  refine walk_nil ?_
  refine dwp_ret ?_
  refine kend0 (rs1 rfl (rv_t rfl)) rfl ?_
  exact congrArg (fun b => D.val (.bool b)) (fidx_ge _ _)

set_option maxRecDepth 4000 in
set_option maxHeartbeats 1000000 in
theorem brings_d (l : List BAct) (hl : ∀ a ∈ l, okB a) : DFun Try.prog 5 [.slm 7 l.length (l.flatMap bD)] [] (.val (.bool true)) [] := by
  refine dcalls_go (N := 131) 0 (by kernel_rfl) Try.func5 rfl rfl rfl (by simp only [fr0, Nat.zero_add, Nat.reduceAdd]; exact rfl) rfl fun s0 hs0 => ?_
  refine dwp_lenm (t := 0) rfl fun hl0 hL0 => ?_
  refine dwp_seq ?_
  refine dwp_region ?_
  refine walk_r rfl rfl rfl (op_move (.inr rfl) (ev1 rfl)) ?_
  refine walk_nil ?_
  refine dwp_seq ?_
  refine dwp_seq ?_
  refine dwp_region ?_
  refine walk_r rfl rfl rfl (dop_call [] [] [] rfl (ev1 rfl) en rfl rfl (wakes_d) rfl rfl rfl rfl rfl rfl) ?_
  refine walk_r rfl rfl rfl (op_not rfl (ev1 rfl)) ?_
  refine walk_nil ?_
  refine dwp_if_f rfl (rfl) ?_
  refine dwp_skip ?_
  refine dwp_seq ?_
  refine dwp_holes 1 (by simp only [holes, List.cons_append, List.nil_append]; exact rfl) ?_
  refine dwp_region ?_
  refine walk_r rfl rfl rfl (dop_call [] [] [] rfl (ev1 rfl) en rfl rfl (new_f) rfl rfl rfl rfl rfl rfl) ?_
  refine walk_w rfl rfl rfl (op_alloc 0 rfl zr25 rfl) (by simp only [upd, List.set_cons_zero, List.set_cons_succ]; exact rfl) ?_
  refine walk_s rfl rfl (op_stam rfl tb25 (ev1 rfl) (ev1 rfl) rfl rfl rfl rfl) (by simp only [upd, List.set_cons_zero, List.set_cons_succ]; exact rfl) ?_
  refine walk_nil ?_
  refine dwp_seq ?_
  refine dwp_region ?_
  refine walk_r rfl rfl rfl (op_move (.inr rfl) (ev1 rfl)) ?_
  refine walk_nil ?_
  refine dwp_seq ?_
  refine dwp_region ?_
  refine walk_r rfl rfl rfl (op_move (.inr rfl) (ev1 rfl)) ?_
  refine walk_r rfl rfl rfl (op_move (.inr rfl) (ev1 rfl)) ?_
  refine walk_nil ?_
  refine dwp_seq ?_
  refine dwp_seq ?_
  refine dwp_region ?_
  refine walk_r rfl rfl rfl (op_move (.inl rfl) (ev1 rfl)) ?_
  refine walk_r rfl rfl rfl (op_lenm rfl sl60 (ev1 rfl)) ?_
  refine walk_r rfl rfl rfl (op_move (.inl rfl) (ev1 rfl)) ?_
  refine walk_nil ?_
  refine dwp_block ?_
  refine dwp_adoptx 4 36 1 rfl rfl rfl ?_
  refine dwp_loopS ⟨hs0, rfl⟩ (α := BSt) (fun s => [(5, .val (.int .i64 (s.mo : Int))), (6, .val (.int .i64 (s.le : Int))), (23, .val (.int .i64 (s.k : Int)))]) [(3, _), (4, _), (21, _), (22, _)] (fun s => [(0, .mix 25 [.slm 3 s.P.length (s.P.flatMap pD), .val (.int .u64 (s.L : Int))]), (1, .arx 36 1 s.R.length (s.R.flatMap fun p => [rN p]))]) [.hole, .hole] (fun s => invB s ∧ s.k ≤ l.length) (fun s => l.length - s.k) ⟨0, [], 0, [], 0, 0⟩ [0, 1] (⟨⟨by simp, by simp, by simp, by simp, by simp, by simp, fun p hp => by simp at hp⟩, by simp⟩) rfl ⟨rfl, rfl, rfl, rfl, trivial⟩ ⟨rfl, rfl, rfl, trivial⟩ ⟨rfl, rfl, trivial⟩ ?_
  intro s hx
  simp only [upd, List.set_cons_zero, List.set_cons_succ, List.cons_append, List.nil_append]
  obtain ⟨hi, hkl⟩ := hx
  have i1 := hi.len
  have i2 := hi.lk
  have i3 := hi.cnt
  have i4 := hi.mok
  have i5 := hi.rk
  have i6 := hi.k60
  refine dwp_seq ?_
  refine dwp_region ?_
  refine walk_r rfl rfl rfl (op_lss rfl (ev1 rfl) (ev1 rfl)) ?_
  refine walk_nil ?_
  refine dwp_seq ?_
  refine dwp_cond rfl (fun c2 => ?_) (fun c2 => ?_)
  · try simp only [decide_eq_true_eq, decide_eq_false_iff_not, beq_iff_eq, bne_iff_ne, beq_eq_false_iff_ne, bne_eq_false_iff_eq, Bool.not_eq_true', Bool.not_eq_false', Bool.and_eq_true, Bool.or_eq_true, Bool.or_eq_false_iff, ne_eq, Decidable.not_not, Int.not_lt, Int.not_le] at c2
    refine dwp_skip ?_
    refine dwp_seq ?_
    refine dwp_block ?_
    refine dwp_seq ?_
    have hkk : s.k < l.length := by omega
    obtain ⟨ok1, ok2, ok3⟩ := hl _ (List.getElem_mem hkk)
    refine dwp_holes 1 (by simp only [holes, List.cons_append, List.nil_append]; exact rfl) ?_
    refine dwp_region ?_
    refine walk_r rfl rfl rfl (op_move (.inl rfl) (ev1 rfl)) ?_
    refine walk_r rfl rfl rfl (op_ixmr (s.k) (by decide) rfl sl60 (ev1 rfl) (ev1 rfl) (fun _ => rfl) (by omega) (fun _ => rfl)) ?_
    refine walk_r rfl rfl rfl (op_lddr rfl tb63 (ev1 rfl) rfl rfl) ?_
    refine walk_w rfl rfl rfl (op_alloc 2 rfl zr63 rfl) (by simp only [upd, List.set_cons_zero, List.set_cons_succ]; exact rfl) ?_
    refine walk_r rfl rfl rfl (op_move (.inr rfl) (ev1 rfl)) ?_
    refine walk_s rfl rfl (op_stam rfl tb63 (ev1 rfl) (ev1 rfl) rfl rfl rfl rfl) (by simp only [upd, List.set_cons_zero, List.set_cons_succ]; exact rfl) ?_
    refine walk_nil ?_
    refine dwp_seq ?_
    refine dwp_seq ?_
    refine dwp_region ?_
    refine walk_r rfl rfl rfl (op_move (.inl rfl) (ev1 rfl)) ?_
    refine walk_r rfl rfl rfl (op_eql rfl (ev1 rfl) (ev1 rfl)) ?_
    refine walk_nil ?_
    refine dwp_cond rfl (fun c3 => ?_) (fun c3 => ?_)
    · try simp only [decide_eq_true_eq, decide_eq_false_iff_not, beq_iff_eq, bne_iff_ne, beq_eq_false_iff_ne, bne_eq_false_iff_eq, Bool.not_eq_true', Bool.not_eq_false', Bool.and_eq_true, Bool.or_eq_true, Bool.or_eq_false_iff, ne_eq, Decidable.not_not, Int.not_lt, Int.not_le] at c3
      refine dwp_exit ?_
      refine dwp_seq ?_
      refine dwp_region ?_
      refine walk_r rfl rfl rfl (op_fa rfl fo25_0 (ev1 rfl)) ?_
      refine walk_r rfl rfl rfl (op_ldm rfl tb22 (ev1 rfl) rfl rfl) ?_
      refine walk_r rfl rfl rfl (op_lenm rfl sl22 (ev1 rfl)) ?_
      refine walk_r rfl rfl rfl (op_move (.inl rfl) (ev1 rfl)) ?_
      refine walk_r rfl rfl rfl (op_add' rfl (ev1 rfl) (ev1 rfl) (fun _ => IntWalk.i64_in _ (by omega))) ?_
      refine walk_r rfl rfl rfl (op_fa rfl fo25_1 (ev1 rfl)) ?_
      refine walk_r rfl rfl rfl (op_ldm rfl tb23 (ev1 rfl) rfl rfl) ?_
      refine walk_r rfl rfl rfl (op_conv' ty23 kn3 rfl (ev1 rfl) (fun _ => IntWalk.i64_in _ (by omega))) ?_
      refine walk_r rfl rfl rfl (op_add' rfl (ev1 rfl) (ev1 rfl) (fun _ => IntWalk.i64_in _ (by omega))) ?_
      refine walk_r rfl rfl rfl (op_move (.inl rfl) (ev1 rfl)) ?_
      refine walk_r rfl rfl rfl (op_eql rfl (ev1 rfl) (ev1 rfl)) ?_
      refine walk_r rfl rfl rfl (op_move (.inr rfl) (ev1 rfl)) ?_
      refine walk_nil ?_
      refine dwp_ret ?_
      refine kend0 (rs1 rfl (rv_t rfl)) rfl ?_
      first | rfl | (simp; omega)
    · try simp only [decide_eq_true_eq, decide_eq_false_iff_not, beq_iff_eq, bne_iff_ne, beq_eq_false_iff_ne, bne_eq_false_iff_eq, Bool.not_eq_true', Bool.not_eq_false', Bool.and_eq_true, Bool.or_eq_true, Bool.or_eq_false_iff, ne_eq, Decidable.not_not, Int.not_lt, Int.not_le] at c3
      have h60 : s.k < 60 := by omega
      refine dwp_skip ?_
      refine dwp_seq ?_
      refine dwp_seq ?_
      refine dwp_region ?_
      refine walk_r rfl rfl rfl (op_fa rfl fo63_0 (ev1 rfl)) ?_
      refine walk_r rfl rfl rfl (op_ldm rfl tb4 (ev1 rfl) rfl rfl) ?_
      refine walk_nil ?_
      refine dwp_cond rfl (fun c4 => ?_) (fun c4 => ?_)
      · try simp only [decide_eq_true_eq, decide_eq_false_iff_not, beq_iff_eq, bne_iff_ne, beq_eq_false_iff_ne, bne_eq_false_iff_eq, Bool.not_eq_true', Bool.not_eq_false', Bool.and_eq_true, Bool.or_eq_true, Bool.or_eq_false_iff, ne_eq, Decidable.not_not, Int.not_lt, Int.not_le] at c4
        refine dwp_seq ?_
        have hm1 : isN ((l[s.k]).b.take (min (l[s.k]).b.length 40)) := fun x hx => ok1 x (List.mem_of_mem_take hx)
        have hm2 : (((l[s.k]).b.take (min (l[s.k]).b.length 40))).length ≤ 40 := by rw [List.length_take]; omega
        have hseal := freeze (seal_o ((l[s.k]).b.take (min (l[s.k]).b.length 40)) hm1 (by omega)) rfl
        have hwr : 0 ≤ IntKind.u64.wrap (l[s.k]).to := by rw [IntKind.wrap_u64]; omega
        have hto : 0 ≤ IntKind.u64.wrap (l[s.k]).to % 9 ∧ IntKind.u64.wrap (l[s.k]).to % 9 ≤ 8 := by omega
        refine dwp_region ?_
        refine walk_r rfl rfl rfl (op_fa rfl fo63_2 (ev1 rfl)) ?_
        refine walk_r rfl rfl rfl (op_ldm rfl tb36 (ev1 rfl) rfl rfl) ?_
        refine walk_r rfl rfl rfl (op_fa rfl fo63_2 (ev1 rfl)) ?_
        refine walk_r rfl rfl rfl (op_ldm rfl tb36 (ev1 rfl) rfl rfl) ?_
        refine walk_r rfl rfl rfl (op_len rfl sl36 (ev1 rfl)) ?_
        refine walk_r rfl rfl rfl (op_min rfl (ev1 rfl) (ev1 rfl)) ?_
        refine walk_r rfl rfl rfl (op_sltk (j := min (l[s.k]).b.length 40) rfl sl36 (ev1 rfl) (bd_some (ev1 rfl)) (fun _ => by omega) (fun _ => by omega) (fun _ => rfl)) ?_
        refine walk_r rfl rfl rfl (dop_call [] [] [] rfl (ev1 rfl) (ec (ev1 rfl) en) rfl rfl (hseal) rfl rfl rfl rfl rfl rfl) ?_
        refine walk_r rfl rfl rfl (op_move (.inr rfl) (ev1 rfl)) ?_
        refine walk_nil ?_
        refine dwp_seq ?_
        have hsd := send_one hi hm1 hm2 hto
        refine dwp_holes 1 (by simp only [holes, List.cons_append, List.nil_append]; exact rfl) ?_
        refine dwp_region ?_
        refine walk_r rfl rfl rfl (op_ldmw rfl tb25 (ev1 rfl) rfl rfl) ?_
        refine walk_r rfl rfl rfl (op_fa rfl fo63_1 (ev1 rfl)) ?_
        refine walk_r rfl rfl rfl (op_ldm rfl tb3 (ev1 rfl) rfl rfl) ?_
        refine walk_r rfl rfl rfl (op_conv ty3 kn65 rfl (ev1 rfl)) ?_
        refine walk_r rfl rfl rfl (op_rem' rfl (ev1 rfl) (ev1 rfl) (fun _ => ⟨by omega, by omega⟩)) ?_
        refine walk_r rfl rfl rfl (op_conv' ty65 kn3 rfl (ev1 rfl) (fun _ => IntWalk.i64_in _ (by omega))) ?_
        refine walk_r rfl rfl rfl (op_move (.inl rfl) (ev1 rfl)) ?_
        refine walk_r rfl rfl rfl (op_bldD (ps := [(0, .tmp 46), (1, .tmp 47)]) rfl fl38 zr38 (ec (ev1 rfl) (ec (ev1 rfl) en)) rfl rfl rfl) ?_
        refine walk_r rfl rfl rfl (op_bsr (ps := [(0, .tmp 48)]) rfl sl22 zr38 rfl (ec (ev1 rfl) en) rfl rfl rfl (by rfl) rfl (by decide) (by decide)) ?_
        refine walk_r rfl rfl rfl (dop_call [] [] [] rfl (ev1 rfl) (ec (ev1 rfl) (ec (ev1 rfl) en)) rfl rfl (hsd) rfl rfl rfl rfl rfl rfl) ?_
        refine walk_r rfl rfl rfl (op_move (.inl rfl) (ev1 rfl)) ?_
        refine walk_r rfl rfl rfl (op_ext rfl (ev1 rfl) rfl) ?_
        refine walk_r rfl rfl rfl (op_ext rfl (ev1 rfl) rfl) ?_
        refine walk_w rfl rfl rfl (op_alloc 3 rfl zr25 rfl) (by simp only [upd, List.set_cons_zero, List.set_cons_succ]; exact rfl) ?_
        refine walk_s rfl rfl (op_stam rfl tb25 (ev1 rfl) (ev1 rfl) rfl rfl rfl rfl) (by simp only [upd, List.set_cons_zero, List.set_cons_succ]; exact rfl) ?_
        refine walk_r rfl rfl rfl (op_move (.inr rfl) (ev1 rfl)) ?_
        refine walk_nil ?_
        refine dwp_seq ?_
        refine dwp_seq ?_
        refine dwp_region ?_
        refine walk_r rfl rfl rfl (op_move (.inl rfl) (ev1 rfl)) ?_
        refine walk_r rfl rfl rfl (op_neq rfl (ev1 rfl) (ev1 rfl)) ?_
        refine walk_nil ?_
        refine dwp_if_f rfl (rfl) ?_
        refine dwp_skip ?_
        refine dwp_seq ?_
        refine dwp_holes 1 (by simp only [holes, List.cons_append, List.nil_append]; exact rfl) ?_
        refine dwp_draw [([3], []), ([], []), ([], []), ([], []), ([1, 4], [1, 4]), ([], []), ([], []), ([0], [0]), ([], []), ([], [])] mixed (by kernel_rfl) ?_
        refine lex_r rfl rfl (op_ldmw rfl tb25 (ev1 rfl) rfl rfl) ?_
        refine lex_r rfl rfl (op_move (.inl rfl) (ev1 rfl)) ?_
        refine lex_r rfl rfl (op_move (.inl rfl) (ev1 rfl)) ?_
        refine lex_r rfl rfl (op_bsm (ps := [(0, .tmp 57)]) rfl sl61 zr36 rfl (ec (ev1 rfl) en) rfl (by decide)) ?_
        refine lex_w rfl rfl (op_appx (j := 4) rfl sl61 zr36 rfl (ev1 rfl) (ev1 rfl) rfl rfl rfl (fun _ => ⟨by omega, by omega⟩)) rfl (by simp only [upd, List.set_cons_zero, List.set_cons_succ]; exact rfl) ?_
        refine lex_r rfl rfl (op_move (.inl rfl) (ev1 rfl)) ?_
        refine lex_r rfl rfl (op_add' rfl (ev1 rfl) (ev1 rfl) (fun _ => IntWalk.i64_in _ (by omega))) ?_
        refine lex_s rfl rfl (op_stmw rfl tb25 (ev1 rfl) (ev1 rfl) rfl rfl rfl rfl) rfl (by simp only [upd, List.set_cons_zero, List.set_cons_succ]; exact rfl) ?_
        refine lex_r rfl rfl (op_move (.inr rfl) (ev1 rfl)) ?_
        refine lex_r rfl rfl (op_move (.inr rfl) (ev1 rfl)) ?_
        refine lex_nil ?_
        refine dwp_exit ?_
        refine dwp_region ?_
        refine walk_r rfl rfl rfl (op_add' rfl (ev1 rfl) (ev1 rfl) (fun _ => IntWalk.i64_in _ (by omega))) ?_
        refine walk_r rfl rfl rfl (op_move (.inl rfl) (ev1 rfl)) ?_
        refine walk_nil ?_
        refine ⟨⟨s.k + 1, sndP s.P [⟨IntKind.u64.wrap (l[s.k]).to % 9, sealC ((l[s.k]).b.take (min (l[s.k]).b.length 40)), false⟩] 1, sndL s.P s.L 1, s.R ++ [sealC ((l[s.k]).b.take (min (l[s.k]).b.length 40))], s.mo + 1, s.le⟩, [0, 4], ⟨inv_send hi h60 hm1 hm2 hto, by simp only []; omega⟩, by simp only []; omega, rfl, ⟨rfl, rfl, rfl, rfl, rfl, rfl, rfl, trivial⟩, ⟨rfl, arx_fits (by simp) (by rw [List.flatMap_append]; rfl) (vwL_flat (fun _ => rfl) _), trivial⟩⟩
      · try simp only [decide_eq_true_eq, decide_eq_false_iff_not, beq_iff_eq, bne_iff_ne, beq_eq_false_iff_ne, bne_eq_false_iff_eq, Bool.not_eq_true', Bool.not_eq_false', Bool.and_eq_true, Bool.or_eq_true, Bool.or_eq_false_iff, ne_eq, Decidable.not_not, Int.not_lt, Int.not_le] at c4
        refine dwp_skip ?_
        refine dwp_seq ?_
        by_cases hok : DoOK s.P s.L (l[s.k]).kd (l[s.k]).at_ (l[s.k]).bt (l[s.k]).mq
        · obtain ⟨P2, L2, p2, hdo, hst⟩ := hok
          have hn2 := step_net hi h60 hst
          refine dwp_holes 2 (by simp only [holes, List.cons_append, List.nil_append]; exact rfl) ?_
          refine dwp_region ?_
          refine walk_r rfl rfl rfl (op_ldmw rfl tb25 (ev1 rfl) rfl rfl) ?_
          refine walk_r rfl rfl rfl (op_fa rfl fo63_3 (ev1 rfl)) ?_
          refine walk_r rfl rfl rfl (op_ldmv (R := [_, _, _, _]) rfl tb49 (ev1 rfl) rfl rfl rfl) ?_
          refine walk_r rfl rfl rfl (dop_call [] [] [] rfl (ev1 rfl) (ec (ev1 rfl) (ec (ev1 rfl) en)) rfl rfl (hdo) rfl rfl rfl rfl rfl rfl) ?_
          refine walk_r rfl rfl rfl (op_move (.inl rfl) (ev1 rfl)) ?_
          refine walk_r rfl rfl rfl (op_ext rfl (ev1 rfl) rfl) ?_
          refine walk_r rfl rfl rfl (op_ext rfl (ev1 rfl) rfl) ?_
          refine walk_r rfl rfl rfl (op_ext rfl (ev1 rfl) rfl) ?_
          refine walk_w rfl rfl rfl (op_alloc 3 rfl zr25 rfl) (by simp only [upd, List.set_cons_zero, List.set_cons_succ]; exact rfl) ?_
          refine walk_w rfl rfl rfl (op_alloc 4 rfl zr38 rfl) (by simp only [upd, List.set_cons_zero, List.set_cons_succ]; exact rfl) ?_
          refine walk_s rfl rfl (op_stam rfl tb25 (ev1 rfl) (ev1 rfl) rfl rfl rfl rfl) (by simp only [upd, List.set_cons_zero, List.set_cons_succ]; exact rfl) ?_
          refine walk_s rfl rfl (op_stam rfl tb38 (ev1 rfl) (ev1 rfl) rfl rfl rfl rfl) (by simp only [upd, List.set_cons_zero, List.set_cons_succ]; exact rfl) ?_
          refine walk_r rfl rfl rfl (op_move (.inr rfl) (ev1 rfl)) ?_
          refine walk_nil ?_
          refine dwp_seq ?_
          refine dwp_seq ?_
          refine dwp_region ?_
          refine walk_r rfl rfl rfl (op_move (.inl rfl) (ev1 rfl)) ?_
          refine walk_r rfl rfl rfl (op_neq rfl (ev1 rfl) (ev1 rfl)) ?_
          refine walk_nil ?_
          refine dwp_if_f rfl (rfl) ?_
          refine dwp_skip ?_
          refine dwp_seq ?_
          refine dwp_region ?_
          refine walk_r rfl rfl rfl (op_ldmw rfl tb25 (ev1 rfl) rfl rfl) ?_
          refine walk_s rfl rfl (op_stmw rfl tb25 (ev1 rfl) (ev1 rfl) rfl rfl rfl rfl) (by simp only [upd, List.set_cons_zero, List.set_cons_succ]; exact rfl) ?_
          refine walk_nil ?_
          refine dwp_seq ?_
          refine dwp_seq ?_
          refine dwp_region ?_
          refine walk_r rfl rfl rfl (op_fa rfl fo63_3 (ev1 rfl)) ?_
          refine walk_r rfl rfl rfl (op_fa rfl fo49_0 (ev1 rfl)) ?_
          refine walk_r rfl rfl rfl (op_ldm rfl tb3 (ev1 rfl) rfl rfl) ?_
          refine walk_nil ?_
          refine dwp_block ?_
          refine dwp_seq ?_
          refine dwp_region ?_
          refine walk_r rfl rfl rfl (op_eql rfl (ev1 rfl) (ev1 rfl)) ?_
          refine walk_r rfl rfl rfl (op_move (.inr rfl) (ev1 rfl)) ?_
          refine walk_nil ?_
          refine dwp_cond rfl (fun n1 => ?_) (fun n1 => ?_)
          · try simp only [decide_eq_true_eq, decide_eq_false_iff_not, beq_iff_eq, bne_iff_ne, beq_eq_false_iff_ne, bne_eq_false_iff_eq, Bool.not_eq_true', Bool.not_eq_false', Bool.and_eq_true, Bool.or_eq_true, Bool.or_eq_false_iff, ne_eq, Decidable.not_not, Int.not_lt, Int.not_le] at n1
            refine dwp_seq ?_
            rw [n1] at hst
            obtain ⟨hi3, hg⟩ := step_take hi h60 hst
            refine dwp_region ?_
            refine walk_r rfl rfl rfl (op_move (.inl rfl) (ev1 rfl)) ?_
            refine walk_r rfl rfl rfl (op_add' rfl (ev1 rfl) (ev1 rfl) (fun _ => IntWalk.i64_in _ (by omega))) ?_
            refine walk_r rfl rfl rfl (op_move (.inr rfl) (ev1 rfl)) ?_
            refine walk_nil ?_
            refine dwp_seq ?_
            by_cases hsp : p2.sp = true
            · refine dwp_region ?_
              refine walk_r rfl rfl rfl (op_fa rfl fo38_1 (ev1 rfl)) ?_
              refine walk_r rfl rfl rfl (op_ldm rfl tb36 (ev1 rfl) rfl rfl) ?_
              refine walk_r rfl rfl rfl (dop_call [] [] [] rfl (ev1 rfl) (ec (ev1 rfl) en) rfl rfl (open_sp hg hsp) rfl rfl rfl rfl rfl rfl) ?_
              refine walk_r rfl rfl rfl (op_move (.inl rfl) (ev1 rfl)) ?_
              refine walk_r rfl rfl rfl (op_ext rfl (ev1 rfl) rfl) ?_
              refine walk_r rfl rfl rfl (op_ext rfl (ev1 rfl) rfl) ?_
              refine walk_r rfl rfl rfl (op_move (.inr rfl) (ev1 rfl)) ?_
              refine walk_r rfl rfl rfl (op_move (.inr rfl) (ev1 rfl)) ?_
              refine walk_nil ?_
              refine dwp_seq ?_
              refine dwp_region ?_
              refine walk_r rfl rfl rfl (op_move (.inl rfl) (ev1 rfl)) ?_
              refine walk_r rfl rfl rfl (op_mkf rfl en (ec (ev1 rfl) en)) ?_
              refine walk_r rfl rfl rfl (dop_call [] [1, 4] [] rfl (ev1 rfl) (ec (ev1 rfl) (ec (ev1 rfl) en)) (vwL_cons' (vw_arrV rfl rfl rfl (by first | exact nlL_flat1 (fun _ => rfl) _ | exact nlL_flatR (fun _ => rfl) _)) (vwL_cons' rfl rfl)) rfl (contr_b p2 s.R) rfl rfl rfl rfl rfl rfl) ?_
              refine walk_r rfl rfl rfl (op_move (.inr rfl) (ev1 rfl)) ?_
              refine walk_nil ?_
              refine dwp_seq ?_
              refine dwp_region ?_
              refine walk_r rfl rfl rfl (op_fa rfl fo38_2 (ev1 rfl)) ?_
              refine walk_r rfl rfl rfl (op_ldm rfl tb4 (ev1 rfl) rfl rfl) ?_
              refine walk_r rfl rfl rfl (op_not rfl (ev1 rfl)) ?_
              refine walk_r rfl rfl rfl (op_move (.inl rfl) (ev1 rfl)) ?_
              refine walk_gr (gd_t rfl rfl rfl) rfl rfl rfl (op_move (.inl rfl) (ev1 rfl)) ?_
              refine walk_gr (gd_t rfl rfl rfl) rfl rfl rfl (op_not rfl (ev2 rfl)) ?_
              refine walk_gr (gd_t rfl rfl rfl) rfl rfl rfl (op_move (.inl rfl) (ev2 rfl)) ?_
              refine walk_gr (gd_ff rfl rfl rfl) rfl rfl rfl (op_move (.inl rfl) (ev1 rfl)) ?_
              refine walk_gr (gd_ff rfl rfl rfl) rfl rfl rfl (op_neq rfl (ev2 rfl) (ev1 rfl)) ?_
              refine walk_gr (gd_t rfl rfl rfl) rfl rfl rfl (op_or rfl (ev2 rfl) (ev2 rfl)) ?_
              refine walk_r rfl rfl rfl (op_and rfl (ev1 rfl) (ev3 rfl id)) ?_
              refine walk_r rfl rfl rfl (op_move (.inl rfl) (ev1 rfl)) ?_
              refine walk_gr (gd_f rfl rfl rfl) rfl rfl rfl (op_fa rfl fo38_2 (ev1 rfl)) ?_
              refine walk_gr (gd_f rfl rfl rfl) rfl rfl rfl (op_ldm rfl tb4 (ev2 rfl) rfl rfl) ?_
              refine walk_gr (gd_f rfl rfl rfl) rfl rfl rfl (op_move (.inl rfl) (ev2 rfl)) ?_
              refine walk_gr (gd_tt rfl rfl rfl) rfl rfl rfl (op_move (.inl rfl) (ev1 rfl)) ?_
              refine walk_gr (gd_tt rfl rfl rfl) rfl rfl rfl (op_neq rfl (ev2 rfl) (ev1 rfl)) ?_
              refine walk_gr (gd_f rfl rfl rfl) rfl rfl rfl (op_and rfl (ev2 rfl) (ev2 rfl)) ?_
              refine walk_r rfl rfl rfl (op_or rfl (ev1 rfl) (ev3 rfl id)) ?_
              refine walk_nil ?_
              refine dwp_if_f rfl (by simp [hsp]) ?_
              refine dwp_skip ?_
              refine dwp_seq ?_
              refine dwp_region ?_
              refine walk_r rfl rfl rfl (op_ldmw rfl tb25 (ev1 rfl) rfl rfl) ?_
              refine walk_r rfl rfl rfl (dop_call [] [] [] rfl (ev1 rfl) (ec (ev1 rfl) en) rfl rfl (check_ok P2 _ hn2) rfl rfl rfl rfl rfl rfl) ?_
              refine walk_r rfl rfl rfl (op_neq rfl (ev1 rfl) (ev1 rfl)) ?_
              refine walk_nil ?_
              refine dwp_if_f rfl (rfl) ?_
              refine dwp_skip ?_
              refine dwp_region ?_
              refine walk_r rfl rfl rfl (op_add' rfl (ev1 rfl) (ev1 rfl) (fun _ => IntWalk.i64_in _ (by omega))) ?_
              refine walk_r rfl rfl rfl (op_move (.inl rfl) (ev1 rfl)) ?_
              refine walk_nil ?_
              refine ⟨⟨s.k + 1, P2, L2, s.R, s.mo, s.le + 1⟩, [0, 1], ⟨hi3, by simp only []; omega⟩, by simp only []; omega, rfl, ⟨rfl, rfl, rfl, rfl, rfl, rfl, rfl, trivial⟩, ⟨rfl, arx_fits rfl rfl (vwL_flat (fun _ => rfl) _), trivial⟩⟩
            · have hsp : p2.sp = false := by simpa using hsp
              have hany := any_ok hg hsp
              refine dwp_region ?_
              refine walk_r rfl rfl rfl (op_fa rfl fo38_1 (ev1 rfl)) ?_
              refine walk_r rfl rfl rfl (op_ldm rfl tb36 (ev1 rfl) rfl rfl) ?_
              refine walk_r rfl rfl rfl (dop_call [] [] [] rfl (ev1 rfl) (ec (ev1 rfl) en) rfl rfl (open_ok hg hsp) rfl rfl rfl rfl rfl rfl) ?_
              refine walk_r rfl rfl rfl (op_move (.inl rfl) (ev1 rfl)) ?_
              refine walk_r rfl rfl rfl (op_ext rfl (ev1 rfl) rfl) ?_
              refine walk_r rfl rfl rfl (op_ext rfl (ev1 rfl) rfl) ?_
              refine walk_r rfl rfl rfl (op_move (.inr rfl) (ev1 rfl)) ?_
              refine walk_r rfl rfl rfl (op_move (.inr rfl) (ev1 rfl)) ?_
              refine walk_nil ?_
              refine dwp_seq ?_
              refine dwp_region ?_
              refine walk_r rfl rfl rfl (op_move (.inl rfl) (ev1 rfl)) ?_
              refine walk_r rfl rfl rfl (op_mkf rfl en (ec (ev1 rfl) en)) ?_
              refine walk_r rfl rfl rfl (dop_call [] [1, 4] [] rfl (ev1 rfl) (ec (ev1 rfl) (ec (ev1 rfl) en)) (vwL_cons' (vw_arrV rfl rfl rfl (by first | exact nlL_flat1 (fun _ => rfl) _ | exact nlL_flatR (fun _ => rfl) _)) (vwL_cons' rfl rfl)) rfl (contr_b p2 s.R) rfl rfl rfl rfl rfl rfl) ?_
              refine walk_r rfl rfl rfl (op_move (.inr rfl) (ev1 rfl)) ?_
              refine walk_nil ?_
              refine dwp_seq ?_
              refine dwp_region ?_
              refine walk_r rfl rfl rfl (op_fa rfl fo38_2 (ev1 rfl)) ?_
              refine walk_r rfl rfl rfl (op_ldm rfl tb4 (ev1 rfl) rfl rfl) ?_
              refine walk_r rfl rfl rfl (op_not rfl (ev1 rfl)) ?_
              refine walk_r rfl rfl rfl (op_move (.inl rfl) (ev1 rfl)) ?_
              refine walk_gr (gd_t rfl rfl rfl) rfl rfl rfl (op_move (.inl rfl) (ev1 rfl)) ?_
              refine walk_gr (gd_t rfl rfl rfl) rfl rfl rfl (op_not rfl (ev2 rfl)) ?_
              refine walk_gr (gd_t rfl rfl rfl) rfl rfl rfl (op_move (.inl rfl) (ev2 rfl)) ?_
              refine walk_gr (gd_ff rfl rfl rfl) rfl rfl rfl (op_move (.inl rfl) (ev1 rfl)) ?_
              refine walk_gr (gd_ff rfl rfl rfl) rfl rfl rfl (op_neq rfl (ev2 rfl) (ev1 rfl)) ?_
              refine walk_gr (gd_t rfl rfl rfl) rfl rfl rfl (op_or rfl (ev2 rfl) (ev2 rfl)) ?_
              refine walk_r rfl rfl rfl (op_and rfl (ev1 rfl) (ev3 rfl id)) ?_
              refine walk_r rfl rfl rfl (op_move (.inl rfl) (ev1 rfl)) ?_
              refine walk_gr (gd_f rfl rfl rfl) rfl rfl rfl (op_fa rfl fo38_2 (ev1 rfl)) ?_
              refine walk_gr (gd_f rfl rfl rfl) rfl rfl rfl (op_ldm rfl tb4 (ev2 rfl) rfl rfl) ?_
              refine walk_gr (gd_f rfl rfl rfl) rfl rfl rfl (op_move (.inl rfl) (ev2 rfl)) ?_
              refine walk_gr (gd_tt rfl rfl rfl) rfl rfl rfl (op_move (.inl rfl) (ev1 rfl)) ?_
              refine walk_gr (gd_tt rfl rfl rfl) rfl rfl rfl (op_neq rfl (ev2 rfl) (ev1 rfl)) ?_
              refine walk_gr (gd_f rfl rfl rfl) rfl rfl rfl (op_and rfl (ev2 rfl) (ev2 rfl)) ?_
              refine walk_r rfl rfl rfl (op_or rfl (ev1 rfl) (ev3 rfl id)) ?_
              refine walk_nil ?_
              refine dwp_if_f rfl (by rw [hany, hsp]; rfl) ?_
              refine dwp_skip ?_
              refine dwp_seq ?_
              refine dwp_region ?_
              refine walk_r rfl rfl rfl (op_ldmw rfl tb25 (ev1 rfl) rfl rfl) ?_
              refine walk_r rfl rfl rfl (dop_call [] [] [] rfl (ev1 rfl) (ec (ev1 rfl) en) rfl rfl (check_ok P2 _ hn2) rfl rfl rfl rfl rfl rfl) ?_
              refine walk_r rfl rfl rfl (op_neq rfl (ev1 rfl) (ev1 rfl)) ?_
              refine walk_nil ?_
              refine dwp_if_f rfl (rfl) ?_
              refine dwp_skip ?_
              refine dwp_region ?_
              refine walk_r rfl rfl rfl (op_add' rfl (ev1 rfl) (ev1 rfl) (fun _ => IntWalk.i64_in _ (by omega))) ?_
              refine walk_r rfl rfl rfl (op_move (.inl rfl) (ev1 rfl)) ?_
              refine walk_nil ?_
              refine ⟨⟨s.k + 1, P2, L2, s.R, s.mo, s.le + 1⟩, [0, 1], ⟨hi3, by simp only []; omega⟩, by simp only []; omega, rfl, ⟨rfl, rfl, rfl, rfl, rfl, rfl, rfl, trivial⟩, ⟨rfl, arx_fits rfl rfl (vwL_flat (fun _ => rfl) _), trivial⟩⟩
          · try simp only [decide_eq_true_eq, decide_eq_false_iff_not, beq_iff_eq, bne_iff_ne, beq_eq_false_iff_ne, bne_eq_false_iff_eq, Bool.not_eq_true', Bool.not_eq_false', Bool.and_eq_true, Bool.or_eq_true, Bool.or_eq_false_iff, ne_eq, Decidable.not_not, Int.not_lt, Int.not_le] at n1
            refine dwp_seq ?_
            refine dwp_region ?_
            refine walk_r rfl rfl rfl (op_eql rfl (ev1 rfl) (ev1 rfl)) ?_
            refine walk_r rfl rfl rfl (op_move (.inr rfl) (ev1 rfl)) ?_
            refine walk_nil ?_
            refine dwp_cond rfl (fun n2 => ?_) (fun n2 => ?_)
            · try simp only [decide_eq_true_eq, decide_eq_false_iff_not, beq_iff_eq, bne_iff_ne, beq_eq_false_iff_ne, bne_eq_false_iff_eq, Bool.not_eq_true', Bool.not_eq_false', Bool.and_eq_true, Bool.or_eq_true, Bool.or_eq_false_iff, ne_eq, Decidable.not_not, Int.not_lt, Int.not_le] at n2
              rw [n2] at hst
              refine dwp_region ?_
              refine walk_r rfl rfl rfl (op_move (.inl rfl) (ev1 rfl)) ?_
              refine walk_r rfl rfl rfl (op_add' rfl (ev1 rfl) (ev1 rfl) (fun _ => IntWalk.i64_in _ (by omega))) ?_
              refine walk_r rfl rfl rfl (op_move (.inr rfl) (ev1 rfl)) ?_
              refine walk_nil ?_
              refine dwp_seq ?_
              refine dwp_region ?_
              refine walk_r rfl rfl rfl (op_ldmw rfl tb25 (ev1 rfl) rfl rfl) ?_
              refine walk_r rfl rfl rfl (dop_call [] [] [] rfl (ev1 rfl) (ec (ev1 rfl) en) rfl rfl (check_ok P2 _ hn2) rfl rfl rfl rfl rfl rfl) ?_
              refine walk_r rfl rfl rfl (op_neq rfl (ev1 rfl) (ev1 rfl)) ?_
              refine walk_nil ?_
              refine dwp_if_f rfl (rfl) ?_
              refine dwp_skip ?_
              refine dwp_region ?_
              refine walk_r rfl rfl rfl (op_add' rfl (ev1 rfl) (ev1 rfl) (fun _ => IntWalk.i64_in _ (by omega))) ?_
              refine walk_r rfl rfl rfl (op_move (.inl rfl) (ev1 rfl)) ?_
              refine walk_nil ?_
              refine ⟨⟨s.k + 1, P2, L2, s.R, s.mo, s.le + 1⟩, [0, 1], ⟨step_drop hi h60 hst, by simp only []; omega⟩, by simp only []; omega, rfl, ⟨rfl, rfl, rfl, rfl, rfl, rfl, rfl, trivial⟩, ⟨rfl, arx_fits rfl rfl (vwL_flat (fun _ => rfl) _), trivial⟩⟩
            · try simp only [decide_eq_true_eq, decide_eq_false_iff_not, beq_iff_eq, bne_iff_ne, beq_eq_false_iff_ne, bne_eq_false_iff_eq, Bool.not_eq_true', Bool.not_eq_false', Bool.and_eq_true, Bool.or_eq_true, Bool.or_eq_false_iff, ne_eq, Decidable.not_not, Int.not_lt, Int.not_le] at n2
              refine dwp_seq ?_
              refine dwp_region ?_
              refine walk_r rfl rfl rfl (op_eql rfl (ev1 rfl) (ev1 rfl)) ?_
              refine walk_r rfl rfl rfl (op_move (.inr rfl) (ev1 rfl)) ?_
              refine walk_nil ?_
              refine dwp_cond rfl (fun n3 => ?_) (fun n3 => ?_)
              · try simp only [decide_eq_true_eq, decide_eq_false_iff_not, beq_iff_eq, bne_iff_ne, beq_eq_false_iff_ne, bne_eq_false_iff_eq, Bool.not_eq_true', Bool.not_eq_false', Bool.and_eq_true, Bool.or_eq_true, Bool.or_eq_false_iff, ne_eq, Decidable.not_not, Int.not_lt, Int.not_le] at n3
                rw [n3] at hst
                refine dwp_region ?_
                refine walk_r rfl rfl rfl (op_move (.inl rfl) (ev1 rfl)) ?_
                refine walk_r rfl rfl rfl (op_add' rfl (ev1 rfl) (ev1 rfl) (fun _ => IntWalk.i64_in _ (by omega))) ?_
                refine walk_r rfl rfl rfl (op_move (.inr rfl) (ev1 rfl)) ?_
                refine walk_nil ?_
                refine dwp_seq ?_
                refine dwp_region ?_
                refine walk_r rfl rfl rfl (op_ldmw rfl tb25 (ev1 rfl) rfl rfl) ?_
                refine walk_r rfl rfl rfl (dop_call [] [] [] rfl (ev1 rfl) (ec (ev1 rfl) en) rfl rfl (check_ok P2 _ hn2) rfl rfl rfl rfl rfl rfl) ?_
                refine walk_r rfl rfl rfl (op_neq rfl (ev1 rfl) (ev1 rfl)) ?_
                refine walk_nil ?_
                refine dwp_if_f rfl (rfl) ?_
                refine dwp_skip ?_
                refine dwp_region ?_
                refine walk_r rfl rfl rfl (op_add' rfl (ev1 rfl) (ev1 rfl) (fun _ => IntWalk.i64_in _ (by omega))) ?_
                refine walk_r rfl rfl rfl (op_move (.inl rfl) (ev1 rfl)) ?_
                refine walk_nil ?_
                refine ⟨⟨s.k + 1, P2, L2, s.R, s.mo + 1, s.le⟩, [0, 1], ⟨step_twice hi h60 hst, by simp only []; omega⟩, by simp only []; omega, rfl, ⟨rfl, rfl, rfl, rfl, rfl, rfl, rfl, trivial⟩, ⟨rfl, arx_fits rfl rfl (vwL_flat (fun _ => rfl) _), trivial⟩⟩
              · try simp only [decide_eq_true_eq, decide_eq_false_iff_not, beq_iff_eq, bne_iff_ne, beq_eq_false_iff_ne, bne_eq_false_iff_eq, Bool.not_eq_true', Bool.not_eq_false', Bool.and_eq_true, Bool.or_eq_true, Bool.or_eq_false_iff, ne_eq, Decidable.not_not, Int.not_lt, Int.not_le] at n3
                refine dwp_skip ?_
                refine dwp_seq ?_
                refine dwp_region ?_
                refine walk_r rfl rfl rfl (op_ldmw rfl tb25 (ev1 rfl) rfl rfl) ?_
                refine walk_r rfl rfl rfl (dop_call [] [] [] rfl (ev1 rfl) (ec (ev1 rfl) en) rfl rfl (check_ok P2 _ hn2) rfl rfl rfl rfl rfl rfl) ?_
                refine walk_r rfl rfl rfl (op_neq rfl (ev1 rfl) (ev1 rfl)) ?_
                refine walk_nil ?_
                refine dwp_if_f rfl (rfl) ?_
                refine dwp_skip ?_
                refine dwp_region ?_
                refine walk_r rfl rfl rfl (op_add' rfl (ev1 rfl) (ev1 rfl) (fun _ => IntWalk.i64_in _ (by omega))) ?_
                refine walk_r rfl rfl rfl (op_move (.inl rfl) (ev1 rfl)) ?_
                refine walk_nil ?_
                refine ⟨⟨s.k + 1, P2, L2, s.R, s.mo, s.le⟩, [0, 1], ⟨step_spoil hi h60 n1 n2 n3 hst, by simp only []; omega⟩, by simp only []; omega, rfl, ⟨rfl, rfl, rfl, rfl, rfl, rfl, rfl, trivial⟩, ⟨rfl, arx_fits rfl rfl (vwL_flat (fun _ => rfl) _), trivial⟩⟩
        · obtain ⟨e, he, hdo⟩ := do_err hi ok2 ok3 hok
          refine dwp_holes 2 (by simp only [holes, List.cons_append, List.nil_append]; exact rfl) ?_
          refine dwp_region ?_
          refine walk_r rfl rfl rfl (op_ldmw rfl tb25 (ev1 rfl) rfl rfl) ?_
          refine walk_r rfl rfl rfl (op_fa rfl fo63_3 (ev1 rfl)) ?_
          refine walk_r rfl rfl rfl (op_ldmv (R := [_, _, _, _]) rfl tb49 (ev1 rfl) rfl rfl rfl) ?_
          refine walk_r rfl rfl rfl (dop_call [] [] [] rfl (ev1 rfl) (ec (ev1 rfl) (ec (ev1 rfl) en)) rfl rfl (hdo) rfl rfl rfl rfl rfl rfl) ?_
          refine walk_r rfl rfl rfl (op_move (.inl rfl) (ev1 rfl)) ?_
          refine walk_r rfl rfl rfl (op_ext rfl (ev1 rfl) rfl) ?_
          refine walk_r rfl rfl rfl (op_ext rfl (ev1 rfl) rfl) ?_
          refine walk_r rfl rfl rfl (op_ext rfl (ev1 rfl) rfl) ?_
          refine walk_w rfl rfl rfl (op_alloc 3 rfl zr25 rfl) (by simp only [upd, List.set_cons_zero, List.set_cons_succ]; exact rfl) ?_
          refine walk_w rfl rfl rfl (op_alloc 4 rfl zr38 rfl) (by simp only [upd, List.set_cons_zero, List.set_cons_succ]; exact rfl) ?_
          refine walk_s rfl rfl (op_stam rfl tb25 (ev1 rfl) (ev1 rfl) rfl rfl rfl rfl) (by simp only [upd, List.set_cons_zero, List.set_cons_succ]; exact rfl) ?_
          refine walk_s rfl rfl (op_stam rfl tb38 (ev1 rfl) (ev1 rfl) rfl rfl rfl rfl) (by simp only [upd, List.set_cons_zero, List.set_cons_succ]; exact rfl) ?_
          refine walk_r rfl rfl rfl (op_move (.inr rfl) (ev1 rfl)) ?_
          refine walk_nil ?_
          refine dwp_seq ?_
          refine dwp_seq ?_
          refine dwp_region ?_
          refine walk_r rfl rfl rfl (op_move (.inl rfl) (ev1 rfl)) ?_
          refine walk_r rfl rfl rfl (op_neq rfl (ev1 rfl) (ev1 rfl)) ?_
          refine walk_nil ?_
          refine dwp_if_t rfl (by simp [he]) ?_
          refine dwp_exit ?_
          refine dwp_region ?_
          refine walk_r rfl rfl rfl (op_add' rfl (ev1 rfl) (ev1 rfl) (fun _ => IntWalk.i64_in _ (by omega))) ?_
          refine walk_r rfl rfl rfl (op_move (.inl rfl) (ev1 rfl)) ?_
          refine walk_nil ?_
          refine ⟨⟨s.k + 1, s.P, s.L, s.R, s.mo, s.le⟩, [0, 1], ⟨step_err hi h60, by simp only []; omega⟩, by simp only []; omega, rfl, ⟨rfl, rfl, rfl, rfl, rfl, rfl, rfl, trivial⟩, ⟨rfl, arx_fits rfl rfl (vwL_flat (fun _ => rfl) _), trivial⟩⟩
  · try simp only [decide_eq_true_eq, decide_eq_false_iff_not, beq_iff_eq, bne_iff_ne, beq_eq_false_iff_ne, bne_eq_false_iff_eq, Bool.not_eq_true', Bool.not_eq_false', Bool.and_eq_true, Bool.or_eq_true, Bool.or_eq_false_iff, ne_eq, Decidable.not_not, Int.not_lt, Int.not_le] at c2
    refine dwp_exit ?_
    refine dwp_seq ?_
    refine dwp_region ?_
    refine walk_r rfl rfl rfl (op_fa rfl fo25_0 (ev1 rfl)) ?_
    refine walk_r rfl rfl rfl (op_ldm rfl tb22 (ev1 rfl) rfl rfl) ?_
    refine walk_r rfl rfl rfl (op_lenm rfl sl22 (ev1 rfl)) ?_
    refine walk_r rfl rfl rfl (op_move (.inl rfl) (ev1 rfl)) ?_
    refine walk_r rfl rfl rfl (op_add' rfl (ev1 rfl) (ev1 rfl) (fun _ => IntWalk.i64_in _ (by omega))) ?_
    refine walk_r rfl rfl rfl (op_fa rfl fo25_1 (ev1 rfl)) ?_
    refine walk_r rfl rfl rfl (op_ldm rfl tb23 (ev1 rfl) rfl rfl) ?_
    refine walk_r rfl rfl rfl (op_conv' ty23 kn3 rfl (ev1 rfl) (fun _ => IntWalk.i64_in _ (by omega))) ?_
    refine walk_r rfl rfl rfl (op_add' rfl (ev1 rfl) (ev1 rfl) (fun _ => IntWalk.i64_in _ (by omega))) ?_
    refine walk_r rfl rfl rfl (op_move (.inl rfl) (ev1 rfl)) ?_
    refine walk_r rfl rfl rfl (op_eql rfl (ev1 rfl) (ev1 rfl)) ?_
    refine walk_r rfl rfl rfl (op_move (.inr rfl) (ev1 rfl)) ?_
    refine walk_nil ?_
    refine dwp_ret ?_
    refine kend0 (rs1 rfl (rv_t rfl)) rfl ?_
    first | rfl | (simp; omega)

end Go.Proofs.Ytgomklemldldiaa
