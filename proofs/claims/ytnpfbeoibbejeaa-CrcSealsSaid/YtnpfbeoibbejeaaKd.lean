/- a register goes on -/
import Derived.Test.YtnpfbeoibbejeaaKc
namespace Go.Proofs.Ytnpfbeoibbejeaa
set_option linter.unusedVariables false
set_option linter.unusedSimpArgs false
open Go.RowKit

set_option maxRecDepth 4000 in
set_option maxHeartbeats 1000000 in
theorem feed_first (T : TypeId) (bits b : Nat) (hbits : bits < 2 ^ 32) (hb : b < 256) : DFun Try.prog 41 [.loc 0 0, .val (.int .u8 (b : Int))] [.flat T (regL 0 (List.replicate 256 0) bits)] (.tup []) [.flat T (regL 1 tabW (Zs 8 (bits ^^^ b)))] := by
  refine dcalls_go (N := 27) 1 (by kernel_rfl) Try.func41 rfl rfl rfl (by simp only [fr0, Nat.zero_add, Nat.reduceAdd]; exact rfl) rfl fun s0 hs0 => ?_
  have hxl : (bits % 256) ^^^ b < 256 := Nat.xor_lt_two_pow (n := 8) (by omega) (by omega)
  have hu8 : IntKind.u8.wrap (bits : Int) = ((bits % 256 : Nat) : Int) := by rw [IntKind.wrap_u8]; omega
  have hix : xorZ .u8 (IntKind.u8.wrap (bits : Int)) (b : Int) = (((bits % 256) ^^^ b : Nat) : Int) := by rw [hu8]; exact xor_b (by omega) hb
  have hfeed : xorZ .u32 ((bits : Int) / 2 ^ 8) ((tabW.getD ((bits % 256) ^^^ b) 0 : Nat) : Int) = (Zs 8 (bits ^^^ b) : Nat) := by rw [shr_n, xor_n (by rw [Nat.shiftRight_eq_div_pow]; omega) (getD_lt tabW_lt _), feed_eq hbits hb]
  refine dwp_draw3 [4, 13] 9 [0] [.flat T (regL 1 tabW bits)] [([], []), ([], []), ([], []), ([], []), ([0], []), ([], []), ([], []), ([], []), ([], []), ([0], [0]), ([], []), ([], []), ([], []), ([0], []), ([], []), ([], []), ([], []), ([], []), ([], []), ([0], []), ([], []), ([], []), ([], []), ([0], [0])] rfl mixed (by kernel_rfl) ?_
  refine lex3_r rfl rfl rfl (op_move (.inl rfl) (ev1 rfl)) ?_
  refine lex3_r rfl rfl rfl (op_move (.inl rfl) (ev1 rfl)) ?_
  refine lex3_r rfl rfl rfl (op_nc rfl (ev1 rfl) (fun s v h => by cases h; exact ⟨_, rfl⟩)) ?_
  refine lex3_r rfl rfl rfl (op_fa rfl fo80_1 (ev1 rfl)) ?_
  refine lex3_i rfl rfl rfl rfl ((by first | exact op_bits (by rw [List.length_replicate]) rfl tb27 (ev1 rfl) rfl | exact op_bits tabW_len rfl tb27 (ev1 rfl) rfl)) ((by first | exact op_bits (by rw [List.length_replicate]) rfl tb27 (ev1 rfl) rfl | exact op_bits tabW_len rfl tb27 (ev1 rfl) rfl)) ((by first | exact op_bits (by rw [List.length_replicate]) rfl tb27 (ev1 rfl) rfl | exact op_bits tabW_len rfl tb27 (ev1 rfl) rfl)) ?_
  refine lex3_r rfl rfl rfl (op_shr (8) rfl (ev1 rfl) (ev1 rfl) (fun hp => by first | exact ⟨by omega, by decide⟩ | (simp [IntKind.bits]; omega))) ?_
  refine lex3_r rfl rfl rfl (op_move (.inl rfl) (ev1 rfl)) ?_
  refine lex3_r rfl rfl rfl (op_nc rfl (ev1 rfl) (fun s v h => by cases h; exact ⟨_, rfl⟩)) ?_
  refine lex3_r rfl rfl rfl (op_fa rfl fo80_0 (ev1 rfl)) ?_
  refine lex3_j rfl rfl rfl (dop_call [0] [] [] rfl (ev1 rfl) (ec (ev1 rfl) en) rfl rfl (made_first _ _ _) rfl rfl rfl rfl rfl rfl) rfl (by simp only [upd, List.set_cons_zero, List.set_cons_succ]; exact rfl) (by simp only [List.mem_cons, List.not_mem_nil, or_false]; rintro x rfl; rfl) ?_
  refine lex3_r rfl rfl rfl (op_move (.inl rfl) (ev1 rfl)) ?_
  refine lex3_r rfl rfl rfl (op_nc rfl (ev1 rfl) (fun s v h => by cases h; exact ⟨_, rfl⟩)) ?_
  refine lex3_r rfl rfl rfl (op_fa rfl fo80_1 (ev1 rfl)) ?_
  refine lex3_i rfl rfl rfl rfl ((by first | exact op_bits (by rw [List.length_replicate]) rfl tb27 (ev1 rfl) rfl | exact op_bits tabW_len rfl tb27 (ev1 rfl) rfl)) ((by first | exact op_bits (by rw [List.length_replicate]) rfl tb27 (ev1 rfl) rfl | exact op_bits tabW_len rfl tb27 (ev1 rfl) rfl)) ((by first | exact op_bits (by rw [List.length_replicate]) rfl tb27 (ev1 rfl) rfl | exact op_bits tabW_len rfl tb27 (ev1 rfl) rfl)) ?_
  refine lex3_r rfl rfl rfl (op_conv ty27 kn5 rfl (ev1 rfl)) ?_
  refine lex3_r rfl rfl rfl (op_move (.inl rfl) (ev1 rfl)) ?_
  refine lex3_r rfl rfl rfl (op_ixor rfl (ev1 rfl) (ev1 rfl)) ?_
  refine lex3_r rfl rfl rfl (op_nc rfl (ev1 rfl) (fun s v h => by cases h; exact ⟨_, rfl⟩)) ?_
  refine lex3_r rfl rfl rfl (op_wix ((bits % 256) ^^^ b) rfl ar32 (ev1 rfl) (ev1 rfl) (fun _ => hix) (fun _ => hxl)) ?_
  refine lex3_r rfl rfl rfl (op_wld rfl tb27 (ev1 rfl) rfl (fun _ => by rw [tabW_len]; exact hxl)) ?_
  refine lex3_r rfl rfl rfl (op_ixor rfl (ev1 rfl) (ev1 rfl)) ?_
  refine lex3_r rfl rfl rfl (op_nc rfl (ev1 rfl) (fun s v h => by cases h; exact ⟨_, rfl⟩)) ?_
  refine lex3_r rfl rfl rfl (op_fa rfl fo80_1 (ev1 rfl)) ?_
  refine lex3_s rfl rfl rfl (op_bst (n := (Zs 8 (bits ^^^ b) : Nat)) tabW_len rfl tb27 (ev1 rfl) ⟨_, rfl, fun s v _ hr => by rw [← hfeed]; exact hr⟩ rfl) rfl (by simp only [upd, List.set_cons_zero, List.set_cons_succ]; exact rfl) ?_
  refine lex3_nil ?_
  refine kend [0] (res_none rfl) rfl rfl ?_ ⟨rfl, trivial⟩
  rfl

set_option maxRecDepth 4000 in
set_option maxHeartbeats 1000000 in
theorem feed_done (T : TypeId) (bits b : Nat) (hbits : bits < 2 ^ 32) (hb : b < 256) : DFun Try.prog 41 [.loc 0 0, .val (.int .u8 (b : Int))] [.flat T (regL 1 (tabW) bits)] (.tup []) [.flat T (regL 1 tabW (Zs 8 (bits ^^^ b)))] := by
  refine dcalls_go (N := 27) 1 (by kernel_rfl) Try.func41 rfl rfl rfl (by simp only [fr0, Nat.zero_add, Nat.reduceAdd]; exact rfl) rfl fun s0 hs0 => ?_
  have hxl : (bits % 256) ^^^ b < 256 := Nat.xor_lt_two_pow (n := 8) (by omega) (by omega)
  have hu8 : IntKind.u8.wrap (bits : Int) = ((bits % 256 : Nat) : Int) := by rw [IntKind.wrap_u8]; omega
  have hix : xorZ .u8 (IntKind.u8.wrap (bits : Int)) (b : Int) = (((bits % 256) ^^^ b : Nat) : Int) := by rw [hu8]; exact xor_b (by omega) hb
  have hfeed : xorZ .u32 ((bits : Int) / 2 ^ 8) ((tabW.getD ((bits % 256) ^^^ b) 0 : Nat) : Int) = (Zs 8 (bits ^^^ b) : Nat) := by rw [shr_n, xor_n (by rw [Nat.shiftRight_eq_div_pow]; omega) (getD_lt tabW_lt _), feed_eq hbits hb]
  refine dwp_draw3 [4, 13] 9 [0] [.flat T (regL 1 tabW bits)] [([], []), ([], []), ([], []), ([], []), ([0], []), ([], []), ([], []), ([], []), ([], []), ([0], [0]), ([], []), ([], []), ([], []), ([0], []), ([], []), ([], []), ([], []), ([], []), ([], []), ([0], []), ([], []), ([], []), ([], []), ([0], [0])] rfl mixed (by kernel_rfl) ?_
  refine lex3_r rfl rfl rfl (op_move (.inl rfl) (ev1 rfl)) ?_
  refine lex3_r rfl rfl rfl (op_move (.inl rfl) (ev1 rfl)) ?_
  refine lex3_r rfl rfl rfl (op_nc rfl (ev1 rfl) (fun s v h => by cases h; exact ⟨_, rfl⟩)) ?_
  refine lex3_r rfl rfl rfl (op_fa rfl fo80_1 (ev1 rfl)) ?_
  refine lex3_i rfl rfl rfl rfl ((by first | exact op_bits (by rw [List.length_replicate]) rfl tb27 (ev1 rfl) rfl | exact op_bits tabW_len rfl tb27 (ev1 rfl) rfl)) ((by first | exact op_bits (by rw [List.length_replicate]) rfl tb27 (ev1 rfl) rfl | exact op_bits tabW_len rfl tb27 (ev1 rfl) rfl)) ((by first | exact op_bits (by rw [List.length_replicate]) rfl tb27 (ev1 rfl) rfl | exact op_bits tabW_len rfl tb27 (ev1 rfl) rfl)) ?_
  refine lex3_r rfl rfl rfl (op_shr (8) rfl (ev1 rfl) (ev1 rfl) (fun hp => by first | exact ⟨by omega, by decide⟩ | (simp [IntKind.bits]; omega))) ?_
  refine lex3_r rfl rfl rfl (op_move (.inl rfl) (ev1 rfl)) ?_
  refine lex3_r rfl rfl rfl (op_nc rfl (ev1 rfl) (fun s v h => by cases h; exact ⟨_, rfl⟩)) ?_
  refine lex3_r rfl rfl rfl (op_fa rfl fo80_0 (ev1 rfl)) ?_
  refine lex3_j rfl rfl rfl (dop_call [0] [] [] rfl (ev1 rfl) (ec (ev1 rfl) en) rfl rfl (made_done _ _ _) rfl rfl rfl rfl rfl rfl) rfl (by simp only [upd, List.set_cons_zero, List.set_cons_succ]; exact rfl) (by simp only [List.mem_cons, List.not_mem_nil, or_false]; rintro x rfl; rfl) ?_
  refine lex3_r rfl rfl rfl (op_move (.inl rfl) (ev1 rfl)) ?_
  refine lex3_r rfl rfl rfl (op_nc rfl (ev1 rfl) (fun s v h => by cases h; exact ⟨_, rfl⟩)) ?_
  refine lex3_r rfl rfl rfl (op_fa rfl fo80_1 (ev1 rfl)) ?_
  refine lex3_i rfl rfl rfl rfl ((by first | exact op_bits (by rw [List.length_replicate]) rfl tb27 (ev1 rfl) rfl | exact op_bits tabW_len rfl tb27 (ev1 rfl) rfl)) ((by first | exact op_bits (by rw [List.length_replicate]) rfl tb27 (ev1 rfl) rfl | exact op_bits tabW_len rfl tb27 (ev1 rfl) rfl)) ((by first | exact op_bits (by rw [List.length_replicate]) rfl tb27 (ev1 rfl) rfl | exact op_bits tabW_len rfl tb27 (ev1 rfl) rfl)) ?_
  refine lex3_r rfl rfl rfl (op_conv ty27 kn5 rfl (ev1 rfl)) ?_
  refine lex3_r rfl rfl rfl (op_move (.inl rfl) (ev1 rfl)) ?_
  refine lex3_r rfl rfl rfl (op_ixor rfl (ev1 rfl) (ev1 rfl)) ?_
  refine lex3_r rfl rfl rfl (op_nc rfl (ev1 rfl) (fun s v h => by cases h; exact ⟨_, rfl⟩)) ?_
  refine lex3_r rfl rfl rfl (op_wix ((bits % 256) ^^^ b) rfl ar32 (ev1 rfl) (ev1 rfl) (fun _ => hix) (fun _ => hxl)) ?_
  refine lex3_r rfl rfl rfl (op_wld rfl tb27 (ev1 rfl) rfl (fun _ => by rw [tabW_len]; exact hxl)) ?_
  refine lex3_r rfl rfl rfl (op_ixor rfl (ev1 rfl) (ev1 rfl)) ?_
  refine lex3_r rfl rfl rfl (op_nc rfl (ev1 rfl) (fun s v h => by cases h; exact ⟨_, rfl⟩)) ?_
  refine lex3_r rfl rfl rfl (op_fa rfl fo80_1 (ev1 rfl)) ?_
  refine lex3_s rfl rfl rfl (op_bst (n := (Zs 8 (bits ^^^ b) : Nat)) tabW_len rfl tb27 (ev1 rfl) ⟨_, rfl, fun s v _ hr => by rw [← hfeed]; exact hr⟩ rfl) rfl (by simp only [upd, List.set_cons_zero, List.set_cons_succ]; exact rfl) ?_
  refine lex3_nil ?_
  refine kend [0] (res_none rfl) rfl rfl ?_ ⟨rfl, trivial⟩
  rfl

theorem feed_d (T : TypeId) (n bits b : Nat) (hbits : bits < 2 ^ 32) (hb : b < 256) : DFun Try.prog 41 [.loc 0 0, .val (.int .u8 (b : Int))] [.flat T (regB n bits)] (.tup []) [.flat T (regB (n + 1) (Zs 8 (bits ^^^ b)))] := by
  cases n with
  | zero => exact feed_first T bits b hbits hb
  | succ n => exact feed_done T bits b hbits hb

end Go.Proofs.Ytnpfbeoibbejeaa
