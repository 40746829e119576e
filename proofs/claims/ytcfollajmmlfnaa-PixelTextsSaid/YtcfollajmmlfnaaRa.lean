/- The document's Read, walked -/
import Derived.Test.YtcfollajmmlfnaaR9
import Derived.Test.YtcfollajmmlfnaaR7
namespace Go.Proofs.Ytcfollajmmlfnaa
open Go.RowKit

/-- what the document's Read answers -/
def rreadsAs (s : ByteArray) (e : Ending) : Prop :=
  match (if s.size = 8 then wordUp s 8 else none) with
  | some x => e = .returned (.tuple #[(unword x).val, .bool true])
  | none => e = .returned (.tuple #[col 0 0 0 0, .bool false])
theorem rreads_no {s : ByteArray} (h : s.size = 8) (hx : wordUp s 8 = none) : rreadsAs s (.returned (.tuple #[col 0 0 0 0, .bool false])) := by
  unfold rreadsAs; rw [if_pos h, hx]
theorem rreads_len {s : ByteArray} (h : ¬ s.size = 8) : rreadsAs s (.returned (.tuple #[col 0 0 0 0, .bool false])) := by
  unfold rreadsAs; rw [if_neg h]
theorem rreads_ok {s : ByteArray} (h : s.size = 8) {x : Int} (hx : wordUp s 8 = some x) : rreadsAs s (.returned (.tuple #[(unword x).val, .bool true])) := by
  unfold rreadsAs; rw [if_pos h, hx]

theorem found_yes' {s : ByteArray} {i m : Nat} (h : pairVal s i = some (m : Int)) : foundTo s i ((m + 1 : Nat) : Int) = true := by
  rw [Int.natCast_add]; exact found_yes h
theorem found_no' {s : ByteArray} {i m : Nat} (h : ¬ pairVal s i = some (m : Int)) : foundTo s i ((m + 1 : Nat) : Int) = foundTo s i m := by
  rw [Int.natCast_add]; exact found_no h
theorem pl_yes' {s : ByteArray} {i m : Nat} (hi : i < 4) (h : pairVal s i = some (m : Int)) : plOf s i ((m + 1 : Nat) : Int) = (plOf s i m).set i (.int .i64 m) := by
  rw [Int.natCast_add]; exact pl_yes hi h
theorem pl_no' {s : ByteArray} {i m : Nat} (h : ¬ pairVal s i = some (m : Int)) : plOf s i ((m + 1 : Nat) : Int) = plOf s i m := by
  rw [Int.natCast_add]; exact pl_no h

set_option maxRecDepth 20000 in
set_option maxHeartbeats 1000000 in
theorem rread_eight (s : ByteArray) (h8 : s.size = 8) (w : World) :
    Calls Try.prog 27 #[.string s] w fun e w' => rreadsAs s e ∧ Below w.heap.size w w' := by
  have H8 := Lib.hid h8
  have hl : ((s.size : Int) != 8) = false := by rw [h8]; rfl
  have hts := twoHex_size
  go_enter Try.func27, Try.ntmps27
  go_wp2_with fail
  clear hl h8
  have hnew := holds_new (w.alloc (.cells #[.int .u8 0, .int .u8 0, .int .u8 0, .int .u8 0] 26)) #[i64 0, i64 0, i64 0, i64 0] 58
  have hnew' : holds ((w.alloc (.cells #[.int .u8 0, .int .u8 0, .int .u8 0, .int .u8 0] 26)).alloc (.cells #[i64 0, i64 0, i64 0, i64 0] 58)) (w.heap.size + 1) (plOf s 0 0) := by
    have e : plOf s 0 0 = [i64 0, i64 0, i64 0, i64 0] := by
      have := found_start s 0
      simp [plOf, cellV, this]
    rw [e]
    simpa using hnew
  clear hnew
  go_loopw [5, 6, 7, 12, 15] (fun _ _ _ i _ wr => ∃ k : Nat, k ≤ 4 ∧ i = .int .i64 k ∧ (∀ j, j < k → (pairVal s j).isSome = true) ∧ holds wr (w.heap.size + 1) (plOf s k 0) ∧ Below (w.heap.size + 1) ((w.alloc (.cells #[.int .u8 0, .int .u8 0, .int .u8 0, .int .u8 0] 26)).alloc (.cells #[i64 0, i64 0, i64 0, i64 0] 58)) wr)
    (fun _ _ _ i _ _ => 4 - (intOf i).toNat)
  case atStart => exact ⟨0, by omega, rfl, fun j hj => by omega, hnew', Below.refl _ _⟩
  case round =>
    clear hnew'
    obtain ⟨k, hk, rfl, hall, hH, hB⟩ := hrel
    obtain ⟨wo, hwo⟩ : ∃ wo : World, wo = wr := ⟨_, rfl⟩
    subst hwo
    by_cases hlt : k < 4
    · have hdk : decide ((k : Int) < 4) = true := by simp; omega
      go_wp2_with fail
      clear hdk
      go_loopw [6, 7, 15] (fun f _ n wr => ∃ m : Nat, m ≤ 256 ∧ n = .int .i64 m ∧ f = .bool (foundTo s k m) ∧ holds wr (w.heap.size + 1) (plOf s k m) ∧ Below (w.heap.size + 1) wo wr)
        (fun _ _ n _ => 256 - (intOf n).toNat)
      case atStart => exact ⟨0, by omega, rfl, by rw [show ((0 : Nat) : Int) = 0 from rfl, found_start], hH, Below.refl _ _⟩
      case round =>
        obtain ⟨m, hm, rfl, rfl, hH2, hB2⟩ := hrel
        by_cases hlt2 : m < 256
        · have hs8 : (s.size : Int) = 8 := by rw [H8.out]; rfl
          have q1 : IntKind.i64.wrap (2 * (k : Int)) = 2 * (k : Int) := IntWalk.i64_in _ (by omega)
          have q2 : IntKind.i64.wrap (2 * (k : Int) + 2) = 2 * (k : Int) + 2 := IntWalk.i64_in _ (by omega)
          have q3 : (2 * (k : Int)).toNat = 2 * k := by omega
          have q4 : (2 * (k : Int) + 2).toNat = 2 * k + 2 := by omega
          have q5 : 0 ≤ 2 * (k : Int) := by omega
          have q6 : 2 * (k : Int) + 2 ≤ 8 := by omega
          have q7 : 0 ≤ 2 * (k : Int) + 2 := by omega
          have q8 : 2 * (k : Int) ≤ 2 * (k : Int) + 2 := by omega
          go_wp2_with fail
          refine wp_region_dep wr.heap.size 10 (by kernel_rfl) (by kernel_rfl) (by rfl) (Nat.le_refl _) ?_
          simp only [List.take_succ_cons, List.take_zero, List.drop_succ_cons, List.drop_zero]
          refine wpDep_plain (by rfl) (fun K hK => ?_); go_simp; (refine hK _ ?_; clear hK K)
          refine wpDep_plain (by rfl) (fun K hK => ?_); go_simp; refine ⟨_, fun n => callsTo_of (hex_any m (by omega) (by omega) _), ?_⟩; (refine hK _ ?_; clear hK K)
          iterate 6 (refine wpDep_plain (by rfl) (fun K hK => ?_); go_simp; (refine hK _ ?_; clear hK K))
          refine wpDep_plain (by rfl) (fun K hK => ?_); go_simp; (refine hK _ ?_; clear hK K)
          have hpb := pair_beq s H8.out k hlt m (by omega) (by omega)
          by_cases hp : pairVal s k = some (m : Int)
          · rw [decide_eq_true hp] at hpb
            refine wpDep_plain (by rfl) (fun K hK => ?_); go_simp; (refine hK _ ?_; clear hK K)
            refine wpDep_nil ?_
            intro f n _
            simp only [fillV]
            have hH3 := holds_below hH2 n.h (by have := hH2.lt; omega)
            have o := hH3.cell k (by simp [plOf]; omega)
            have oz := hH3.free k (by simp [plOf]; omega)
            have lpb := hH3.lt
            have HP := Lib.hid hp
            have hB3 := hB2.trans (n.h.mono (by have := hH2.lt; omega))
            have kk : (k : Int) < 4 := by omega
            have HH := Lib.hid hH3
            clear hp hpb hH2 hH3 hH q1 q2 q3 q4 q5 q6 q7 q8 hs8 hts
            go_wp2
            go_roundw
            case rel => exact ⟨m + 1, by omega, by go_num, by rw [found_yes' HP.out], by rw [pl_yes' hlt HP.out]; exact holds_set HH.out k (by simp [plOf]; omega) _, hB3.setCell (Nat.le_refl _) _⟩
            case measure => simp [intOf]; omega
          · rw [decide_eq_false hp] at hpb
            refine wpDep_plain (by rfl) (fun K hK => ?_); go_simp; (refine hK _ ?_; clear hK K)
            refine wpDep_nil ?_
            intro f n _
            simp only [fillV]
            have hH3 := holds_below hH2 n.h (by have := hH2.lt; omega)
            have hB3 := hB2.trans (n.h.mono (by have := hH2.lt; omega))
            have HP := Lib.hid hp
            clear hp hpb hH2 hH q1 q2 q3 q4 q5 q6 q7 q8 hs8 hts
            go_wp2
            go_roundw
            case rel => exact ⟨m + 1, by omega, by go_num, by rw [found_no' HP.out], by rw [pl_no' HP.out]; exact hH3, hB3⟩
            case measure => simp [intOf]; omega
        · obtain rfl : m = 256 := by omega
          have hfe : foundTo s k ((256 : Nat) : Int) = (pairVal s k).isSome := found_end s k
          rw [hfe]
          clear hfe
          have hB4 := hB.trans (hB2.mono (by omega))
          cases hps : (pairVal s k).isSome with
          | true =>
            have HP := Lib.hid hps
            clear hps
            go_wp2
            go_roundw
            case rel => exact ⟨k + 1, by omega, by go_num, fun j hj => by
              by_cases e : j = k
              · subst e; exact HP.out
              · exact hall j (by omega), by have := pl_next HP.out; rw [← this]; exact hH2, hB4⟩
            case measure => simp [intOf]; omega
          | false =>
            have hpn : pairVal s k = none := by simpa using hps
            have HN := Lib.hid (word_nopair hlt hpn)
            clear hps hpn
            have r0 := hB4.cell (p := ⟨w.heap.size, 0, none⟩) (by simp)
            have r1 := hB4.cell (p := ⟨w.heap.size, 1, none⟩) (by simp)
            have r2 := hB4.cell (p := ⟨w.heap.size, 2, none⟩) (by simp)
            have r3 := hB4.cell (p := ⟨w.heap.size, 3, none⟩) (by simp)
            have f0 := hB4.frozen (p := ⟨w.heap.size, 0, none⟩) (by simp)
            have f1 := hB4.frozen (p := ⟨w.heap.size, 1, none⟩) (by simp)
            have f2 := hB4.frozen (p := ⟨w.heap.size, 2, none⟩) (by simp)
            have f3 := hB4.frozen (p := ⟨w.heap.size, 3, none⟩) (by simp)
            simp [go_sem] at r0 r1 r2 r3 f0 f1 f2 f3
            have lw : w.heap.size < wr.heap.size := by have := hB4.size; simp at this; omega
            go_wp2
            refine bodyPost_ret (v := .tuple #[col 0 0 0 0, .bool false]) ?_ rfl ⟨rreads_no H8.out HN.out, ?_⟩
            · simp [results, Try.results27, go_sem, r0, r1, r2, r3]
            · refine Below.setCell (Below.setCell (Below.setCell (Below.setCell ?_ (by dsimp only; omega) _) (by dsimp only; omega) _) (by dsimp only; omega) _) (by dsimp only; omega) _
              exact (((Below.refl _ _).alloc (Nat.le_refl _) _).alloc (by simp) _).trans (hB4.mono (by omega))
    · obtain rfl : k = 4 := by omega
      have hv : ∀ j, j < 4 → ∃ v, pairVal s j = some v := fun j hj => Option.isSome_iff_exists.1 (hall j hj)
      obtain ⟨v0, e0⟩ := hv 0 (by omega)
      obtain ⟨v1, e1⟩ := hv 1 (by omega)
      obtain ⟨v2, e2⟩ := hv 2 (by omega)
      obtain ⟨v3, e3⟩ := hv 3 (by omega)
      obtain ⟨x, hx, hux⟩ := word_pairs v0 v1 v2 v3 e0 e1 e2 e3
      have hpl : plOf s 4 0 = [i64 v0, i64 v1, i64 v2, i64 v3] := by simp [plOf, cellV, e0, e1, e2, e3]
      rw [hpl] at hH
      clear hpl e0 e1 e2 e3 hv hall
      have o0 : wo.cell? ⟨w.heap.size + 1, 0, none⟩ = some (i64 v0) := hH.cell 0 (by simp)
      have o1 : wo.cell? ⟨w.heap.size + 1, 1, none⟩ = some (i64 v1) := hH.cell 1 (by simp)
      have o2 : wo.cell? ⟨w.heap.size + 1, 2, none⟩ = some (i64 v2) := hH.cell 2 (by simp)
      have o3 : wo.cell? ⟨w.heap.size + 1, 3, none⟩ = some (i64 v3) := hH.cell 3 (by simp)
      have hsz := hH.lt
      have HX := Lib.hid hux
      clear hux hH hts
      go_wp2_with fail
      refine (of_any _ _ _ _ _).mono ?_
      rintro e w3 ⟨rfl, hB3⟩
      have hB4 := hB.trans (hB3.mono (by omega))
      clear o0 o1 o2 o3
      have r0 := hB4.cell (p := ⟨w.heap.size, 0, none⟩) (by simp)
      have r1 := hB4.cell (p := ⟨w.heap.size, 1, none⟩) (by simp)
      have r2 := hB4.cell (p := ⟨w.heap.size, 2, none⟩) (by simp)
      have r3 := hB4.cell (p := ⟨w.heap.size, 3, none⟩) (by simp)
      have f0 := hB4.frozen (p := ⟨w.heap.size, 0, none⟩) (by simp)
      have f1 := hB4.frozen (p := ⟨w.heap.size, 1, none⟩) (by simp)
      have f2 := hB4.frozen (p := ⟨w.heap.size, 2, none⟩) (by simp)
      have f3 := hB4.frozen (p := ⟨w.heap.size, 3, none⟩) (by simp)
      simp [go_sem] at r0 r1 r2 r3 f0 f1 f2 f3
      have lw : w.heap.size < w3.heap.size := by have := hB4.size; simp at this; omega
      go_wp2
      refine bodyPost_ret (v := .tuple #[(unword x).val, .bool true]) ?_ rfl ⟨rreads_ok H8.out hx, ?_⟩
      · rw [HX.out]
        simp [results, Try.results27, go_sem, r0, r1, r2, r3]
      · refine Below.setCell (Below.setCell (Below.setCell (Below.setCell ?_ (by dsimp only; omega) _) (by dsimp only; omega) _) (by dsimp only; omega) _) (by dsimp only; omega) _
        exact (((Below.refl _ _).alloc (Nat.le_refl _) _).alloc (by simp) _).trans (hB4.mono (by omega))

theorem rread_any (s : ByteArray) (w : World) :
    Calls Try.prog 27 #[.string s] w fun e w' => rreadsAs s e ∧ Below w.heap.size w w' := by
  by_cases h8 : s.size = 8
  · exact rread_eight s h8 w
  · have hl : ((s.size : Int) != 8) = true := by rw [bne_iff_ne]; omega
    have H8 := Lib.hid h8
    clear h8
    go_enter Try.func27, Try.ntmps27
    go_wp2
    refine bodyPost_ret (v := .tuple #[col 0 0 0 0, .bool false]) ?_ rfl ⟨rreads_len H8.out, ?_⟩
    · simp [results, Try.results27, go_sem]
    · exact (Below.refl _ _).alloc (Nat.le_refl _) _
end Go.Proofs.Ytcfollajmmlfnaa
