/- a disk behind one operation, looked at; the layer does something; fronts of what waits; what Run tells; fuses; what is left of a fall is what a front would be; what is kept; what is told of disks; Memory that nobody asks for any more; a row of data that is given up by the operation that makes it; what types are, the rest; disks written over; what the document says is done; what the document says is run, and falls; disks in memory, looked at; disks that can be gone through, behind operations; disks that can be gone through, in memory of their own; the law of what is done; falling, rising, arming, in memory; pairs of numbers that are opened. No condition. -/
import Derived.Test.YtjecmkaggobcjaaQ5
namespace Go.Proofs.Ytjecmkaggobcjaa
set_option linter.unusedVariables false
set_option linter.unusedSimpArgs false
open Go.RowKit
theorem okK1 {d : DkS} {o : DOpn} (he : opE d o = 0) : okK d [o] [o].length := fun i hi _ => by
  have : i = 0 := by simpa using hi
  subst this
  exact he
theorem okK0 {d : DkS} {l : List DOpn} : okK d l 0 := fun i hi h => absurd h (Nat.not_lt_zero i)
theorem run1Z_ok (d : DkS) (o : DOpn) (hd : d.ok) (hob : o.b.length ≤ 10000000) (he : opE d o = 0) : DFun Try.prog 26 [d.d, .slm 3 1 (oD o)] [] (.tup [(okS d o).d, .val (.int .i64 1), .val (.int .i64 0)]) [] :=
  runZ_ok d [o] hd (by simp) (by simpa using hob) (okK1 he)
theorem run1Z_down (d : DkS) (o : DOpn) (hd : d.ok) (hob : o.b.length ≤ 10000000) (he : opE d o = 321) : DFun Try.prog 26 [d.d, .slm 3 1 (oD o)] [] (.tup [(dnS d).d, .val (.int .i64 0), .val (.int .i64 321)]) [] :=
  runZ_down d [o] hd (by simp) (by simpa using hob) 0 (by simp) okK0 he
theorem run1Z_bad (d : DkS) (o : DOpn) (hd : d.ok) (hob : o.b.length ≤ 10000000) (h0 : opE d o ≠ 0) (h9 : opE d o ≠ 321) : DFun Try.prog 26 [d.d, .slm 3 1 (oD o)] [] (.tup [zDk.d, .val (.int .i64 0), .val (.int .i64 (opE d o))]) [] :=
  runZ_bad d [o] hd (by simp) (by simpa using hob) 0 (by simp) okK0 h0 h9
theorem run1Z_no (d : DkS) (o : DOpn) (hb : fewB (szs d.f) d.w) (hc : ¬ d.ok) : DFun Try.prog 26 [d.d, .slm 3 1 (oD o)] [] (.tup [zDk.d, .val (.int .i64 0), .val (.int .i64 320)]) [] :=
  runZ_no d [o] hb (by simp) hc
set_option maxRecDepth 4000 in
set_option maxHeartbeats 1000000 in
theorem doZ_ok (d : DkS) (o : DOpn) (hd : d.ok) (hob : o.b.length ≤ 10000000) (he : opE d o = 0) : DFun Try.prog 23 [.agg (dD d.f d.h d.w d.dn d.fu), .agg (oD o)] [] (.tup [(okS d o).d, .val (.int .i64 0)]) [] := by
  refine dcalls_go (N := 19) 0 (by kernel_rfl) Try.func23 rfl rfl rfl (by simp only [fr0, Nat.zero_add, Nat.reduceAdd]; exact rfl) rfl fun s0 hs0 => ?_
  refine dwp_seq ?_
  refine dwp_holes 2 (by simp only [holes, List.cons_append, List.nil_append]; exact rfl) ?_
  refine dwp_region ?_
  refine walk_r rfl rfl rfl (op_boxf rfl rfl (ev1 rfl)) ?_
  refine walk_w rfl rfl rfl (op_boxam 0 rfl (ev1 rfl) rfl) (by simp only [upd, List.set_cons_zero, List.set_cons_succ]; exact rfl) ?_
  refine walk_w rfl rfl rfl (op_alloc 1 rfl zr26 rfl) (by simp only [upd, List.set_cons_zero, List.set_cons_succ]; exact rfl) ?_
  refine walk_r rfl rfl rfl (op_move (.inr rfl) (ev1 rfl)) ?_
  refine walk_nil ?_
  refine dwp_seq ?_
  refine dwp_holes 1 (by simp only [holes, List.cons_append, List.nil_append]; exact rfl) ?_
  refine dwp_region ?_
  refine walk_r rfl rfl rfl (op_lddr rfl tb26 (ev1 rfl) rfl rfl) ?_
  refine walk_r rfl rfl rfl (op_ldmw rfl tb44 (ev1 rfl) rfl rfl) ?_
  refine walk_r rfl rfl rfl (op_bsr (ps := [(0, .tmp 11)]) rfl sl24 zr44 rfl (ec (ev1 rfl) en) rfl rfl rfl (by rfl) rfl (by decide) (by decide)) ?_
  refine walk_r rfl rfl rfl (dop_call [] [] [] rfl (ev1 rfl) (ec (ev1 rfl) (ec (ev1 rfl) en)) rfl rfl (run1Z_ok d o hd hob he) rfl rfl rfl rfl rfl rfl) ?_
  refine walk_r rfl rfl rfl (op_move (.inl rfl) (ev1 rfl)) ?_
  refine walk_r rfl rfl rfl (op_ext rfl (ev1 rfl) rfl) ?_
  refine walk_r rfl rfl rfl (op_ext rfl (ev1 rfl) rfl) ?_
  refine walk_r rfl rfl rfl (op_ext rfl (ev1 rfl) rfl) ?_
  refine walk_w rfl rfl rfl (op_alloc 2 rfl zr26 rfl) (by simp only [upd, List.set_cons_zero, List.set_cons_succ]; exact rfl) ?_
  refine walk_s rfl rfl (op_stam rfl tb26 (ev1 rfl) (ev1 rfl) rfl rfl rfl rfl) (by simp only [upd, List.set_cons_zero, List.set_cons_succ]; exact rfl) ?_
  refine walk_r rfl rfl rfl (op_move (.inr rfl) (ev1 rfl)) ?_
  refine walk_r rfl rfl rfl (op_move (.inr rfl) (ev1 rfl)) ?_
  refine walk_nil ?_
  refine dwp_seq ?_
  refine dwp_region ?_
  refine walk_r rfl rfl rfl (op_ldmw rfl tb26 (ev1 rfl) rfl rfl) ?_
  refine walk_r rfl rfl rfl (op_move (.inl rfl) (ev1 rfl)) ?_
  refine walk_s rfl rfl (op_stam rfl tb26 (ev1 rfl) (ev1 rfl) rfl rfl rfl rfl) (by simp only [upd, List.set_cons_zero, List.set_cons_succ]; exact rfl) ?_
  refine walk_r rfl rfl rfl (op_move (.inr rfl) (ev1 rfl)) ?_
  refine walk_nil ?_
  refine dwp_ret ?_
  refine kend0 (rs2 rfl (rv_mw tb26 rfl rfl rfl) (rv_t rfl)) rfl ?_
  rfl
set_option maxRecDepth 4000 in
set_option maxHeartbeats 1000000 in
theorem doZ_down (d : DkS) (o : DOpn) (hd : d.ok) (hob : o.b.length ≤ 10000000) (he : opE d o = 321) : DFun Try.prog 23 [.agg (dD d.f d.h d.w d.dn d.fu), .agg (oD o)] [] (.tup [(dnS d).d, .val (.int .i64 321)]) [] := by
  refine dcalls_go (N := 19) 0 (by kernel_rfl) Try.func23 rfl rfl rfl (by simp only [fr0, Nat.zero_add, Nat.reduceAdd]; exact rfl) rfl fun s0 hs0 => ?_
  refine dwp_seq ?_
  refine dwp_holes 2 (by simp only [holes, List.cons_append, List.nil_append]; exact rfl) ?_
  refine dwp_region ?_
  refine walk_r rfl rfl rfl (op_boxf rfl rfl (ev1 rfl)) ?_
  refine walk_w rfl rfl rfl (op_boxam 0 rfl (ev1 rfl) rfl) (by simp only [upd, List.set_cons_zero, List.set_cons_succ]; exact rfl) ?_
  refine walk_w rfl rfl rfl (op_alloc 1 rfl zr26 rfl) (by simp only [upd, List.set_cons_zero, List.set_cons_succ]; exact rfl) ?_
  refine walk_r rfl rfl rfl (op_move (.inr rfl) (ev1 rfl)) ?_
  refine walk_nil ?_
  refine dwp_seq ?_
  refine dwp_holes 1 (by simp only [holes, List.cons_append, List.nil_append]; exact rfl) ?_
  refine dwp_region ?_
  refine walk_r rfl rfl rfl (op_lddr rfl tb26 (ev1 rfl) rfl rfl) ?_
  refine walk_r rfl rfl rfl (op_ldmw rfl tb44 (ev1 rfl) rfl rfl) ?_
  refine walk_r rfl rfl rfl (op_bsr (ps := [(0, .tmp 11)]) rfl sl24 zr44 rfl (ec (ev1 rfl) en) rfl rfl rfl (by rfl) rfl (by decide) (by decide)) ?_
  refine walk_r rfl rfl rfl (dop_call [] [] [] rfl (ev1 rfl) (ec (ev1 rfl) (ec (ev1 rfl) en)) rfl rfl (run1Z_down d o hd hob he) rfl rfl rfl rfl rfl rfl) ?_
  refine walk_r rfl rfl rfl (op_move (.inl rfl) (ev1 rfl)) ?_
  refine walk_r rfl rfl rfl (op_ext rfl (ev1 rfl) rfl) ?_
  refine walk_r rfl rfl rfl (op_ext rfl (ev1 rfl) rfl) ?_
  refine walk_r rfl rfl rfl (op_ext rfl (ev1 rfl) rfl) ?_
  refine walk_w rfl rfl rfl (op_alloc 2 rfl zr26 rfl) (by simp only [upd, List.set_cons_zero, List.set_cons_succ]; exact rfl) ?_
  refine walk_s rfl rfl (op_stam rfl tb26 (ev1 rfl) (ev1 rfl) rfl rfl rfl rfl) (by simp only [upd, List.set_cons_zero, List.set_cons_succ]; exact rfl) ?_
  refine walk_r rfl rfl rfl (op_move (.inr rfl) (ev1 rfl)) ?_
  refine walk_r rfl rfl rfl (op_move (.inr rfl) (ev1 rfl)) ?_
  refine walk_nil ?_
  refine dwp_seq ?_
  refine dwp_region ?_
  refine walk_r rfl rfl rfl (op_ldmw rfl tb26 (ev1 rfl) rfl rfl) ?_
  refine walk_r rfl rfl rfl (op_move (.inl rfl) (ev1 rfl)) ?_
  refine walk_s rfl rfl (op_stam rfl tb26 (ev1 rfl) (ev1 rfl) rfl rfl rfl rfl) (by simp only [upd, List.set_cons_zero, List.set_cons_succ]; exact rfl) ?_
  refine walk_r rfl rfl rfl (op_move (.inr rfl) (ev1 rfl)) ?_
  refine walk_nil ?_
  refine dwp_ret ?_
  refine kend0 (rs2 rfl (rv_mw tb26 rfl rfl rfl) (rv_t rfl)) rfl ?_
  rfl
set_option maxRecDepth 4000 in
set_option maxHeartbeats 1000000 in
theorem doZ_bad (d : DkS) (o : DOpn) (hd : d.ok) (hob : o.b.length ≤ 10000000) (h0 : opE d o ≠ 0) (h9 : opE d o ≠ 321) : DFun Try.prog 23 [.agg (dD d.f d.h d.w d.dn d.fu), .agg (oD o)] [] (.tup [zDk.d, .val (.int .i64 (opE d o))]) [] := by
  refine dcalls_go (N := 19) 0 (by kernel_rfl) Try.func23 rfl rfl rfl (by simp only [fr0, Nat.zero_add, Nat.reduceAdd]; exact rfl) rfl fun s0 hs0 => ?_
  refine dwp_seq ?_
  refine dwp_holes 2 (by simp only [holes, List.cons_append, List.nil_append]; exact rfl) ?_
  refine dwp_region ?_
  refine walk_r rfl rfl rfl (op_boxf rfl rfl (ev1 rfl)) ?_
  refine walk_w rfl rfl rfl (op_boxam 0 rfl (ev1 rfl) rfl) (by simp only [upd, List.set_cons_zero, List.set_cons_succ]; exact rfl) ?_
  refine walk_w rfl rfl rfl (op_alloc 1 rfl zr26 rfl) (by simp only [upd, List.set_cons_zero, List.set_cons_succ]; exact rfl) ?_
  refine walk_r rfl rfl rfl (op_move (.inr rfl) (ev1 rfl)) ?_
  refine walk_nil ?_
  refine dwp_seq ?_
  refine dwp_holes 1 (by simp only [holes, List.cons_append, List.nil_append]; exact rfl) ?_
  refine dwp_region ?_
  refine walk_r rfl rfl rfl (op_lddr rfl tb26 (ev1 rfl) rfl rfl) ?_
  refine walk_r rfl rfl rfl (op_ldmw rfl tb44 (ev1 rfl) rfl rfl) ?_
  refine walk_r rfl rfl rfl (op_bsr (ps := [(0, .tmp 11)]) rfl sl24 zr44 rfl (ec (ev1 rfl) en) rfl rfl rfl (by rfl) rfl (by decide) (by decide)) ?_
  refine walk_r rfl rfl rfl (dop_call [] [] [] rfl (ev1 rfl) (ec (ev1 rfl) (ec (ev1 rfl) en)) rfl rfl (run1Z_bad d o hd hob h0 h9) rfl rfl rfl rfl rfl rfl) ?_
  refine walk_r rfl rfl rfl (op_move (.inl rfl) (ev1 rfl)) ?_
  refine walk_r rfl rfl rfl (op_ext rfl (ev1 rfl) rfl) ?_
  refine walk_r rfl rfl rfl (op_ext rfl (ev1 rfl) rfl) ?_
  refine walk_r rfl rfl rfl (op_ext rfl (ev1 rfl) rfl) ?_
  refine walk_w rfl rfl rfl (op_alloc 2 rfl zr26 rfl) (by simp only [upd, List.set_cons_zero, List.set_cons_succ]; exact rfl) ?_
  refine walk_s rfl rfl (op_stam rfl tb26 (ev1 rfl) (ev1 rfl) rfl rfl rfl rfl) (by simp only [upd, List.set_cons_zero, List.set_cons_succ]; exact rfl) ?_
  refine walk_r rfl rfl rfl (op_move (.inr rfl) (ev1 rfl)) ?_
  refine walk_r rfl rfl rfl (op_move (.inr rfl) (ev1 rfl)) ?_
  refine walk_nil ?_
  refine dwp_seq ?_
  refine dwp_region ?_
  refine walk_r rfl rfl rfl (op_ldmw rfl tb26 (ev1 rfl) rfl rfl) ?_
  refine walk_r rfl rfl rfl (op_move (.inl rfl) (ev1 rfl)) ?_
  refine walk_s rfl rfl (op_stam rfl tb26 (ev1 rfl) (ev1 rfl) rfl rfl rfl rfl) (by simp only [upd, List.set_cons_zero, List.set_cons_succ]; exact rfl) ?_
  refine walk_r rfl rfl rfl (op_move (.inr rfl) (ev1 rfl)) ?_
  refine walk_nil ?_
  refine dwp_ret ?_
  refine kend0 (rs2 rfl (rv_mw tb26 rfl rfl rfl) (rv_t rfl)) rfl ?_
  rfl
set_option maxRecDepth 4000 in
set_option maxHeartbeats 1000000 in
theorem doZ_no (d : DkS) (o : DOpn) (hb : fewB (szs d.f) d.w) (hc : ¬ d.ok) : DFun Try.prog 23 [.agg (dD d.f d.h d.w d.dn d.fu), .agg (oD o)] [] (.tup [zDk.d, .val (.int .i64 320)]) [] := by
  refine dcalls_go (N := 19) 0 (by kernel_rfl) Try.func23 rfl rfl rfl (by simp only [fr0, Nat.zero_add, Nat.reduceAdd]; exact rfl) rfl fun s0 hs0 => ?_
  refine dwp_seq ?_
  refine dwp_holes 2 (by simp only [holes, List.cons_append, List.nil_append]; exact rfl) ?_
  refine dwp_region ?_
  refine walk_r rfl rfl rfl (op_boxf rfl rfl (ev1 rfl)) ?_
  refine walk_w rfl rfl rfl (op_boxam 0 rfl (ev1 rfl) rfl) (by simp only [upd, List.set_cons_zero, List.set_cons_succ]; exact rfl) ?_
  refine walk_w rfl rfl rfl (op_alloc 1 rfl zr26 rfl) (by simp only [upd, List.set_cons_zero, List.set_cons_succ]; exact rfl) ?_
  refine walk_r rfl rfl rfl (op_move (.inr rfl) (ev1 rfl)) ?_
  refine walk_nil ?_
  refine dwp_seq ?_
  refine dwp_holes 1 (by simp only [holes, List.cons_append, List.nil_append]; exact rfl) ?_
  refine dwp_region ?_
  refine walk_r rfl rfl rfl (op_lddr rfl tb26 (ev1 rfl) rfl rfl) ?_
  refine walk_r rfl rfl rfl (op_ldmw rfl tb44 (ev1 rfl) rfl rfl) ?_
  refine walk_r rfl rfl rfl (op_bsr (ps := [(0, .tmp 11)]) rfl sl24 zr44 rfl (ec (ev1 rfl) en) rfl rfl rfl (by rfl) rfl (by decide) (by decide)) ?_
  refine walk_r rfl rfl rfl (dop_call [] [] [] rfl (ev1 rfl) (ec (ev1 rfl) (ec (ev1 rfl) en)) rfl rfl (run1Z_no d o hb hc) rfl rfl rfl rfl rfl rfl) ?_
  refine walk_r rfl rfl rfl (op_move (.inl rfl) (ev1 rfl)) ?_
  refine walk_r rfl rfl rfl (op_ext rfl (ev1 rfl) rfl) ?_
  refine walk_r rfl rfl rfl (op_ext rfl (ev1 rfl) rfl) ?_
  refine walk_r rfl rfl rfl (op_ext rfl (ev1 rfl) rfl) ?_
  refine walk_w rfl rfl rfl (op_alloc 2 rfl zr26 rfl) (by simp only [upd, List.set_cons_zero, List.set_cons_succ]; exact rfl) ?_
  refine walk_s rfl rfl (op_stam rfl tb26 (ev1 rfl) (ev1 rfl) rfl rfl rfl rfl) (by simp only [upd, List.set_cons_zero, List.set_cons_succ]; exact rfl) ?_
  refine walk_r rfl rfl rfl (op_move (.inr rfl) (ev1 rfl)) ?_
  refine walk_r rfl rfl rfl (op_move (.inr rfl) (ev1 rfl)) ?_
  refine walk_nil ?_
  refine dwp_seq ?_
  refine dwp_region ?_
  refine walk_r rfl rfl rfl (op_ldmw rfl tb26 (ev1 rfl) rfl rfl) ?_
  refine walk_r rfl rfl rfl (op_move (.inl rfl) (ev1 rfl)) ?_
  refine walk_s rfl rfl (op_stam rfl tb26 (ev1 rfl) (ev1 rfl) rfl rfl rfl rfl) (by simp only [upd, List.set_cons_zero, List.set_cons_succ]; exact rfl) ?_
  refine walk_r rfl rfl rfl (op_move (.inr rfl) (ev1 rfl)) ?_
  refine walk_nil ?_
  refine dwp_ret ?_
  refine kend0 (rs2 rfl (rv_mw tb26 rfl rfl rfl) (rv_t rfl)) rfl ?_
  rfl
theorem doZ (d : DkS) (o : DOpn) (hd : d.ok) (hob : o.b.length ≤ 10000000) : DFun Try.prog 23 [d.d, .agg (oD o)] [] (.tup [(doS d o).d, .val (.int .i64 (opE d o))]) [] := by
  unfold doS
  by_cases h0 : opE d o = 0
  · rw [if_pos h0, h0]; exact doZ_ok d o hd hob h0
  · rw [if_neg h0]
    by_cases h9 : opE d o = 321
    · rw [if_pos h9, h9]; exact doZ_down d o hd hob h9
    · rw [if_neg h9]; exact doZ_bad d o hd hob h0 h9
theorem readZ (d : DkS) (hd : d.ok) (n : Int) (hn : fileB n = true) : DFun Try.prog 18 [d.d, .val (.int .i64 n)] [] (.tup [rB (seenB n (d.f n.toNat) d.w), .val (.int .i64 0)]) [] :=
  freeze (read_o d.f d.h d.w d.dn d.fu n (few_of hd) hd hn) rfl
theorem newZ : DFun Try.prog 17 [] [] zDk.d [] := new_d.wk ((Wk.vagg [.slice none 0 0, .slice none 0 0, .slice none 0 0, .slice none 0 0, .int .i64 0, .slice none 0 0, .bool false, .int .i64 0]).trans (Wk.agg (WkL.cons (Wk.slf0 1) (WkL.cons (Wk.slf0 1) (WkL.cons (Wk.slf0 1) (WkL.cons (Wk.slf0 1) (WkL.cons (Wk.refl _) (WkL.cons (Wk.slm0 3) (WkL.refl _)))))))))
abbrev wL : List DOpn := [⟨1, 0, [1, 2]⟩, ⟨4, 0, []⟩, ⟨1, 0, [3, 4]⟩, ⟨3, 1, []⟩]
abbrev wL2 : List DOpn := [⟨1, 0, [1]⟩, ⟨1, 0, [2]⟩]
def w1 : DkS := stK zDk wL 4
def w2 : DkS := fallS w1 0 1
def w3 : DkS := riseS w2
def w4 : DkS := armS zDk 2
theorem z_ok : zDk.ok := by unfold DkS.ok; decide
theorem w1_ok : w1.ok := by unfold DkS.ok; decide
theorem w2_ok : w2.ok := by unfold DkS.ok; decide
theorem w3_ok : w3.ok := by unfold DkS.ok; decide
theorem w4_ok : w4.ok := by unfold DkS.ok; decide
theorem w_run : DFun Try.prog 26 [zDk.d, .slm 3 4 (wL.flatMap oD)] [] (.tup [w1.d, .val (.int .i64 4), .val (.int .i64 0)]) [] := runZ_ok zDk wL z_ok (by decide) (by decide) (by unfold okK; decide)
theorem w_read : DFun Try.prog 18 [w1.d, .val (.int .i64 0)] [] (.tup [rB [1, 2, 3, 4], .val (.int .i64 0)]) [] := readZ w1 w1_ok 0 rfl
theorem w_fall : DFun Try.prog 31 [w1.d, .val (.int .i64 0), .val (.int .i64 1)] [] (.tup [w2.d, .val (.int .i64 0)]) [] := fallZ w1 w1_ok 0 1
theorem w_rise : DFun Try.prog 33 [w2.d] [] (.tup [w3.d, .val (.int .i64 0)]) [] := riseZ w2 w2_ok rfl
theorem w_read2 : DFun Try.prog 18 [w3.d, .val (.int .i64 0)] [] (.tup [rB [1, 2, 3], .val (.int .i64 0)]) [] := readZ w3 w3_ok 0 rfl
theorem w_arm : DFun Try.prog 30 [zDk.d, .val (.int .i64 2)] [] (.tup [w4.d, .val (.int .i64 0)]) [] := armZ zDk 2 z_ok (by decide) rfl
theorem w_run2 : DFun Try.prog 26 [w4.d, .slm 3 2 (wL2.flatMap oD)] [] (.tup [(dnS (stK w4 wL2 1)).d, .val (.int .i64 1), .val (.int .i64 321)]) [] := runZ_down w4 wL2 w4_ok (by decide) (by decide) 1 (by decide) (by unfold okK; decide) (by decide)
theorem w_do : DFun Try.prog 23 [w1.d, .agg (oD ⟨1, 0, []⟩)] [] (.tup [zDk.d, .val (.int .i64 2)]) [] := doZ w1 ⟨1, 0, []⟩ w1_ok (by decide)
theorem w_head : DFun Try.prog 16 [w1.d] [] (.val (.int .i64 1)) [] := head_d w1.f w1.h w1.w w1.dn w1.fu (few_of w1_ok)
theorem w_head2 : DFun Try.prog 16 [w3.d] [] (.val (.int .i64 0)) [] := head_d w3.f w3.h w3.w w3.dn w3.fu (few_of w3_ok)
set_option maxRecDepth 4000 in
set_option maxHeartbeats 1000000 in
theorem put_d (b : List Nat) : DFun Try.prog 37 [.slf 1 (b).length ((b).flatMap un8)] [] (.agg (oD ⟨1, 0, b⟩)) [] := by
  refine dcalls_go (N := 5) 0 (by kernel_rfl) Try.func37 rfl rfl rfl (by simp only [fr0, Nat.zero_add, Nat.reduceAdd]; exact rfl) rfl fun s0 hs0 => ?_
  refine dwp_len (t := 0) rfl fun hl0 hL0 => ?_
  refine dwp_seq ?_
  refine dwp_holes 1 (by simp only [holes, List.cons_append, List.nil_append]; exact rfl) ?_
  refine dwp_region ?_
  refine walk_w rfl rfl rfl (op_alloc 0 rfl zr44 rfl) (by simp only [upd, List.set_cons_zero, List.set_cons_succ]; exact rfl) ?_
  refine walk_nil ?_
  refine dwp_seq ?_
  refine dwp_region ?_
  refine walk_r rfl rfl rfl (op_move (.inl rfl) (ev1 rfl)) ?_
  refine walk_r rfl rfl rfl (op_bldD (ps := [(0, .const (.int .i64 1)), (2, .tmp 3)]) rfl fl44 zr44 (ec (ev1 rfl) (ec (ev1 rfl) en)) rfl rfl rfl) ?_
  refine walk_s rfl rfl (op_stam rfl tb44 (ev1 rfl) (ev1 rfl) rfl rfl rfl rfl) (by simp only [upd, List.set_cons_zero, List.set_cons_succ]; exact rfl) ?_
  refine walk_nil ?_
  refine dwp_ret ?_
  refine kend0 (rs1 rfl (rv_mw tb44 rfl rfl rfl)) rfl ?_
  rfl
set_option maxRecDepth 4000 in
set_option maxHeartbeats 1000000 in
theorem put_n : DFun Try.prog 37 [.val (.slice none 0 0)] [] (.val (.agg #[.int .i64 1, .int .i64 0, .slice none 0 0])) [] := by
  refine dcalls_go (N := 5) 0 (by kernel_rfl) Try.func37 rfl rfl rfl (by simp only [fr0, Nat.zero_add, Nat.reduceAdd]; exact rfl) rfl fun s0 hs0 => ?_
  refine dwp_seq ?_
  refine dwp_holes 1 (by simp only [holes, List.cons_append, List.nil_append]; exact rfl) ?_
  refine dwp_region ?_
  refine walk_w rfl rfl rfl (op_alloc 0 rfl zr44 rfl) (by simp only [upd, List.set_cons_zero, List.set_cons_succ]; exact rfl) ?_
  refine walk_nil ?_
  refine dwp_seq ?_
  refine dwp_region ?_
  refine walk_r rfl rfl rfl (op_move (.inl rfl) (ev1 rfl)) ?_
  refine walk_r rfl rfl rfl (op_build (ps := [(0, .const (.int .i64 1)), (2, .tmp 3)]) rfl fl44 zr44 (vc (ev1 rfl) (vc (ev1 rfl) vn)) rfl rfl) ?_
  refine walk_s rfl rfl (op_stwa rfl tb44 (ev1 rfl) (ev1 rfl) rfl rfl rfl rfl) (by simp only [upd, List.set_cons_zero, List.set_cons_succ]; exact rfl) ?_
  refine walk_nil ?_
  refine dwp_ret ?_
  refine kend0 (rs1 rfl (rv_w tb44 rfl rfl rfl)) rfl ?_
  rfl
set_option maxRecDepth 4000 in
set_option maxHeartbeats 1000000 in
theorem sync_n : DFun Try.prog 34 [] [] (.val (.agg #[.int .i64 4, .int .i64 0, .slice none 0 0])) [] := by
  refine dcalls_go (N := 2) 0 (by kernel_rfl) Try.func34 rfl rfl rfl (by simp only [fr0, Nat.zero_add, Nat.reduceAdd]; exact rfl) rfl fun s0 hs0 => ?_
  refine dwp_seq ?_
  refine dwp_holes 1 (by simp only [holes, List.cons_append, List.nil_append]; exact rfl) ?_
  refine dwp_region ?_
  refine walk_w rfl rfl rfl (op_alloc 0 rfl zr44 rfl) (by simp only [upd, List.set_cons_zero, List.set_cons_succ]; exact rfl) ?_
  refine walk_nil ?_
  refine dwp_seq ?_
  refine dwp_region ?_
  refine walk_r rfl rfl rfl (op_build (ps := [(0, .const (.int .i64 4))]) rfl fl44 zr44 (vc (ev1 rfl) vn) rfl rfl) ?_
  refine walk_s rfl rfl (op_stwa rfl tb44 (ev1 rfl) (ev1 rfl) rfl rfl rfl rfl) (by simp only [upd, List.set_cons_zero, List.set_cons_succ]; exact rfl) ?_
  refine walk_nil ?_
  refine dwp_ret ?_
  refine kend0 (rs1 rfl (rv_w tb44 rfl rfl rfl)) rfl ?_
  rfl
theorem wk_op (k z : Int) : Wk (.val (.agg #[.int .i64 k, .int .i64 z, .slice none 0 0])) (.agg (oD ⟨k, z, []⟩)) := (Wk.vagg [.int .i64 k, .int .i64 z, .slice none 0 0]).trans (Wk.agg (WkL.cons (Wk.refl _) (WkL.cons (Wk.refl _) (WkL.cons (Wk.slf0 1) WkL.nil))))
theorem putZ : DFun Try.prog 37 [.val (.slice none 0 0)] [] (.agg (oD ⟨1, 0, []⟩)) [] := put_n.wk (wk_op 1 0)
theorem syncZ : DFun Try.prog 34 [] [] (.agg (oD ⟨4, 0, []⟩)) [] := sync_n.wk (wk_op 4 0)
end Go.Proofs.Ytjecmkaggobcjaa

namespace Go.Proofs.Ytjecmkaggobcjaa
set_option linter.unusedVariables false
set_option linter.unusedSimpArgs false
open Go.RowKit
set_option maxRecDepth 4000 in
set_option maxHeartbeats 1000000 in
theorem wakes_d : DFun Try.prog 9 [] [] (.val (.bool true)) [] := by
  refine dcalls_go (N := 141) 0 (by kernel_rfl) Try.func9 rfl rfl rfl (by simp only [fr0, Nat.zero_add, Nat.reduceAdd]; exact rfl) rfl fun s0 hs0 => ?_
  refine dwp_seq ?_
  refine dwp_region ?_
  refine walk_r rfl rfl rfl (op_move (.inr rfl) (ev1 rfl)) ?_
  refine walk_nil ?_
  refine dwp_seq ?_
  refine dwp_holes 1 (by simp only [holes, List.cons_append, List.nil_append]; exact rfl) ?_
  refine dwp_region ?_
  refine walk_r rfl rfl rfl (dop_call [] [] [] rfl (ev1 rfl) en rfl rfl (newZ) rfl rfl rfl rfl rfl rfl) ?_
  refine walk_r rfl rfl rfl (op_bs (ps := [(0, .const (.int .u8 1)), (1, .const (.int .u8 2))]) rfl sl22 zr5 rfl (vc (ev1 rfl) (vc (ev1 rfl) vn)) rfl (by decide) (by decide)) ?_
  refine walk_r rfl rfl rfl (dop_call [] [] [] rfl (ev1 rfl) (ec (ev1 rfl) en) rfl rfl (put_d [1, 2]) rfl rfl rfl rfl rfl rfl) ?_
  refine walk_r rfl rfl rfl (dop_call [] [] [] rfl (ev1 rfl) en rfl rfl (syncZ) rfl rfl rfl rfl rfl rfl) ?_
  refine walk_r rfl rfl rfl (op_bs (ps := [(0, .const (.int .u8 3)), (1, .const (.int .u8 4))]) rfl sl22 zr5 rfl (vc (ev1 rfl) (vc (ev1 rfl) vn)) rfl (by decide) (by decide)) ?_
  refine walk_r rfl rfl rfl (dop_call [] [] [] rfl (ev1 rfl) (ec (ev1 rfl) en) rfl rfl (put_d [3, 4]) rfl rfl rfl rfl rfl rfl) ?_
  refine walk_r rfl rfl rfl ((op_build (ps := [(0, .const (.int .i64 3)), (1, .const (.int .i64 1))]) rfl fl44 zr44 (vc (ev1 rfl) (vc (ev1 rfl) vn)) rfl rfl).wk (wk_op 3 1)) ?_
  refine walk_r rfl rfl rfl (op_bsr (ps := [(0, .tmp 22), (1, .tmp 23), (2, .tmp 25), (3, .tmp 26)]) rfl sl24 zr44 rfl (ec (ev1 rfl) (ec (ev1 rfl) (ec (ev1 rfl) (ec (ev1 rfl) en)))) rfl rfl rfl (by rfl) rfl (by decide) (by decide)) ?_
  refine walk_r rfl rfl rfl (dop_call [] [] [] rfl (ev1 rfl) (ec (ev1 rfl) (ec (ev1 rfl) en)) rfl rfl (w_run) rfl rfl rfl rfl rfl rfl) ?_
  refine walk_r rfl rfl rfl (op_move (.inl rfl) (ev1 rfl)) ?_
  refine walk_r rfl rfl rfl (op_ext rfl (ev1 rfl) rfl) ?_
  refine walk_r rfl rfl rfl (op_ext rfl (ev1 rfl) rfl) ?_
  refine walk_r rfl rfl rfl (op_ext rfl (ev1 rfl) rfl) ?_
  refine walk_w rfl rfl rfl (op_alloc 0 rfl zr26 rfl) (by simp only [upd, List.set_cons_zero, List.set_cons_succ]; exact rfl) ?_
  refine walk_s rfl rfl (op_stam rfl tb26 (ev1 rfl) (ev1 rfl) rfl rfl rfl rfl) (by simp only [upd, List.set_cons_zero, List.set_cons_succ]; exact rfl) ?_
  refine walk_r rfl rfl rfl (op_move (.inr rfl) (ev1 rfl)) ?_
  refine walk_r rfl rfl rfl (op_move (.inr rfl) (ev1 rfl)) ?_
  refine walk_nil ?_
  refine dwp_seq ?_
  refine dwp_region ?_
  refine walk_r rfl rfl rfl (op_ldmw rfl tb26 (ev1 rfl) rfl rfl) ?_
  refine walk_r rfl rfl rfl (dop_call [] [] [] rfl (ev1 rfl) (ec (ev1 rfl) (ec (ev1 rfl) en)) rfl rfl (w_read) rfl rfl rfl rfl rfl rfl) ?_
  refine walk_r rfl rfl rfl (op_move (.inl rfl) (ev1 rfl)) ?_
  refine walk_r rfl rfl rfl (op_ext rfl (ev1 rfl) rfl) ?_
  refine walk_r rfl rfl rfl (op_ext rfl (ev1 rfl) rfl) ?_
  refine walk_r rfl rfl rfl (op_move (.inr rfl) (ev1 rfl)) ?_
  refine walk_r rfl rfl rfl (op_move (.inr rfl) (ev1 rfl)) ?_
  refine walk_nil ?_
  refine dwp_seq ?_
  refine dwp_holes 1 (by simp only [holes, List.cons_append, List.nil_append]; exact rfl) ?_
  refine dwp_region ?_
  refine walk_r rfl rfl rfl (op_ldmw rfl tb26 (ev1 rfl) rfl rfl) ?_
  refine walk_r rfl rfl rfl (dop_call [] [] [] rfl (ev1 rfl) (ec (ev1 rfl) (ec (ev1 rfl) (ec (ev1 rfl) en))) rfl rfl (w_fall) rfl rfl rfl rfl rfl rfl) ?_
  refine walk_r rfl rfl rfl (op_move (.inl rfl) (ev1 rfl)) ?_
  refine walk_r rfl rfl rfl (op_ext rfl (ev1 rfl) rfl) ?_
  refine walk_r rfl rfl rfl (op_ext rfl (ev1 rfl) rfl) ?_
  refine walk_w rfl rfl rfl (op_alloc 1 rfl zr26 rfl) (by simp only [upd, List.set_cons_zero, List.set_cons_succ]; exact rfl) ?_
  refine walk_s rfl rfl (op_stam rfl tb26 (ev1 rfl) (ev1 rfl) rfl rfl rfl rfl) (by simp only [upd, List.set_cons_zero, List.set_cons_succ]; exact rfl) ?_
  refine walk_r rfl rfl rfl (op_move (.inr rfl) (ev1 rfl)) ?_
  refine walk_nil ?_
  refine dwp_seq ?_
  refine dwp_holes 1 (by simp only [holes, List.cons_append, List.nil_append]; exact rfl) ?_
  refine dwp_region ?_
  refine walk_r rfl rfl rfl (op_ldmw rfl tb26 (ev1 rfl) rfl rfl) ?_
  refine walk_r rfl rfl rfl (dop_call [] [] [] rfl (ev1 rfl) (ec (ev1 rfl) en) rfl rfl (w_rise) rfl rfl rfl rfl rfl rfl) ?_
  refine walk_r rfl rfl rfl (op_move (.inl rfl) (ev1 rfl)) ?_
  refine walk_r rfl rfl rfl (op_ext rfl (ev1 rfl) rfl) ?_
  refine walk_r rfl rfl rfl (op_ext rfl (ev1 rfl) rfl) ?_
  refine walk_w rfl rfl rfl (op_alloc 2 rfl zr26 rfl) (by simp only [upd, List.set_cons_zero, List.set_cons_succ]; exact rfl) ?_
  refine walk_s rfl rfl (op_stam rfl tb26 (ev1 rfl) (ev1 rfl) rfl rfl rfl rfl) (by simp only [upd, List.set_cons_zero, List.set_cons_succ]; exact rfl) ?_
  refine walk_r rfl rfl rfl (op_move (.inr rfl) (ev1 rfl)) ?_
  refine walk_nil ?_
  refine dwp_seq ?_
  refine dwp_region ?_
  refine walk_r rfl rfl rfl (op_ldmw rfl tb26 (ev1 rfl) rfl rfl) ?_
  refine walk_r rfl rfl rfl (dop_call [] [] [] rfl (ev1 rfl) (ec (ev1 rfl) (ec (ev1 rfl) en)) rfl rfl (w_read2) rfl rfl rfl rfl rfl rfl) ?_
  refine walk_r rfl rfl rfl (op_move (.inl rfl) (ev1 rfl)) ?_
  refine walk_r rfl rfl rfl (op_ext rfl (ev1 rfl) rfl) ?_
  refine walk_r rfl rfl rfl (op_ext rfl (ev1 rfl) rfl) ?_
  refine walk_r rfl rfl rfl (op_move (.inr rfl) (ev1 rfl)) ?_
  refine walk_r rfl rfl rfl (op_move (.inr rfl) (ev1 rfl)) ?_
  refine walk_nil ?_
  refine dwp_seq ?_
  refine dwp_holes 1 (by simp only [holes, List.cons_append, List.nil_append]; exact rfl) ?_
  refine dwp_region ?_
  refine walk_r rfl rfl rfl (dop_call [] [] [] rfl (ev1 rfl) en rfl rfl (newZ) rfl rfl rfl rfl rfl rfl) ?_
  refine walk_r rfl rfl rfl (dop_call [] [] [] rfl (ev1 rfl) (ec (ev1 rfl) (ec (ev1 rfl) en)) rfl rfl (w_arm) rfl rfl rfl rfl rfl rfl) ?_
  refine walk_r rfl rfl rfl (op_move (.inl rfl) (ev1 rfl)) ?_
  refine walk_r rfl rfl rfl (op_ext rfl (ev1 rfl) rfl) ?_
  refine walk_r rfl rfl rfl (op_ext rfl (ev1 rfl) rfl) ?_
  refine walk_w rfl rfl rfl (op_alloc 3 rfl zr26 rfl) (by simp only [upd, List.set_cons_zero, List.set_cons_succ]; exact rfl) ?_
  refine walk_s rfl rfl (op_stam rfl tb26 (ev1 rfl) (ev1 rfl) rfl rfl rfl rfl) (by simp only [upd, List.set_cons_zero, List.set_cons_succ]; exact rfl) ?_
  refine walk_r rfl rfl rfl (op_move (.inr rfl) (ev1 rfl)) ?_
  refine walk_nil ?_
  refine dwp_seq ?_
  refine dwp_holes 1 (by simp only [holes, List.cons_append, List.nil_append]; exact rfl) ?_
  refine dwp_draw [([3], []), ([], []), ([], []), ([], []), ([], []), ([], []), ([], []), ([], []), ([], []), ([], []), ([], []), ([4], [4]), ([4], [4]), ([], []), ([], [])] mixed (by kernel_rfl) ?_
  refine lex_r rfl rfl (op_ldmw rfl tb26 (ev1 rfl) rfl rfl) ?_
  refine lex_r rfl rfl (op_bs (ps := [(0, .const (.int .u8 1))]) rfl sl22 zr5 rfl (vc (ev1 rfl) vn) rfl (by decide) (by decide)) ?_
  refine lex_r rfl rfl (dop_call [] [] [] rfl (ev1 rfl) (ec (ev1 rfl) en) rfl rfl (put_d [1]) rfl rfl rfl rfl rfl rfl) ?_
  refine lex_r rfl rfl (op_bs (ps := [(0, .const (.int .u8 2))]) rfl sl22 zr5 rfl (vc (ev1 rfl) vn) rfl (by decide) (by decide)) ?_
  refine lex_r rfl rfl (dop_call [] [] [] rfl (ev1 rfl) (ec (ev1 rfl) en) rfl rfl (put_d [2]) rfl rfl rfl rfl rfl rfl) ?_
  refine lex_r rfl rfl (op_bsr (ps := [(0, .tmp 60), (1, .tmp 62)]) rfl sl24 zr44 rfl (ec (ev1 rfl) (ec (ev1 rfl) en)) rfl rfl rfl (by rfl) rfl (by decide) (by decide)) ?_
  refine lex_r rfl rfl (dop_call [] [] [] rfl (ev1 rfl) (ec (ev1 rfl) (ec (ev1 rfl) en)) rfl rfl (w_run2) rfl rfl rfl rfl rfl rfl) ?_
  refine lex_r rfl rfl (op_move (.inl rfl) (ev1 rfl)) ?_
  refine lex_r rfl rfl (op_ext rfl (ev1 rfl) rfl) ?_
  refine lex_r rfl rfl (op_ext rfl (ev1 rfl) rfl) ?_
  refine lex_r rfl rfl (op_ext rfl (ev1 rfl) rfl) ?_
  refine lex_w rfl rfl (op_alloc 4 rfl zr26 rfl) rfl (by simp only [upd, List.set_cons_zero, List.set_cons_succ]; exact rfl) ?_
  refine lex_s rfl rfl (op_stam rfl tb26 (ev1 rfl) (ev1 rfl) rfl rfl rfl rfl) rfl (by simp only [upd, List.set_cons_zero, List.set_cons_succ]; exact rfl) ?_
  refine lex_r rfl rfl (op_move (.inr rfl) (ev1 rfl)) ?_
  refine lex_r rfl rfl (op_move (.inr rfl) (ev1 rfl)) ?_
  refine lex_nil ?_
  refine dwp_seq ?_
  refine dwp_holes 1 (by simp only [holes, List.cons_append, List.nil_append]; exact rfl) ?_
  refine dwp_draw [([0], []), ([], []), ([], []), ([], []), ([], []), ([], []), ([5], [5]), ([5], [5]), ([], [])] mixed (by kernel_rfl) ?_
  refine lex_r rfl rfl (op_ldmw rfl tb26 (ev1 rfl) rfl rfl) ?_
  refine lex_r rfl rfl (dop_call [] [] [] rfl (ev1 rfl) (ec (ev1 rfl) en) rfl rfl (putZ) rfl rfl rfl rfl rfl rfl) ?_
  refine lex_r rfl rfl (dop_call [] [] [] rfl (ev1 rfl) (ec (ev1 rfl) (ec (ev1 rfl) en)) rfl rfl (w_do) rfl rfl rfl rfl rfl rfl) ?_
  refine lex_r rfl rfl (op_move (.inl rfl) (ev1 rfl)) ?_
  refine lex_r rfl rfl (op_ext rfl (ev1 rfl) rfl) ?_
  refine lex_r rfl rfl (op_ext rfl (ev1 rfl) rfl) ?_
  refine lex_w rfl rfl (op_alloc 5 rfl zr26 rfl) rfl (by simp only [upd, List.set_cons_zero, List.set_cons_succ]; exact rfl) ?_
  refine lex_s rfl rfl (op_stam rfl tb26 (ev1 rfl) (ev1 rfl) rfl rfl rfl rfl) rfl (by simp only [upd, List.set_cons_zero, List.set_cons_succ]; exact rfl) ?_
  refine lex_r rfl rfl (op_move (.inr rfl) (ev1 rfl)) ?_
  refine lex_nil ?_
  refine dwp_seq ?_
  refine dwp_region ?_
  refine walk_r rfl rfl rfl (op_move (.inl rfl) (ev1 rfl)) ?_
  refine walk_r rfl rfl rfl (op_eql rfl (ev1 rfl) (ev1 rfl)) ?_
  refine walk_r rfl rfl rfl (op_move (.inl rfl) (ev1 rfl)) ?_
  refine walk_gr (gd_t rfl rfl rfl) rfl rfl rfl (op_move (.inl rfl) (ev1 rfl)) ?_
  refine walk_gr (gd_t rfl rfl rfl) rfl rfl rfl (op_eql rfl (ev2 rfl) (ev1 rfl)) ?_
  refine walk_r rfl rfl rfl (op_and rfl (ev1 rfl) (ev3 rfl id)) ?_
  refine walk_r rfl rfl rfl (op_move (.inl rfl) (ev1 rfl)) ?_
  refine walk_gr (gd_t rfl rfl rfl) rfl rfl rfl (op_move (.inl rfl) (ev1 rfl)) ?_
  refine walk_gr (gd_t rfl rfl rfl) rfl rfl rfl (op_eql rfl (ev2 rfl) (ev1 rfl)) ?_
  refine walk_r rfl rfl rfl (op_and rfl (ev1 rfl) (ev3 rfl id)) ?_
  refine walk_r rfl rfl rfl (op_move (.inl rfl) (ev1 rfl)) ?_
  refine walk_gr (gd_t rfl rfl rfl) rfl rfl rfl (op_move (.inl rfl) (ev1 rfl)) ?_
  refine walk_gr (gd_t rfl rfl rfl) rfl rfl rfl (op_eql rfl (ev2 rfl) (ev1 rfl)) ?_
  refine walk_r rfl rfl rfl (op_and rfl (ev1 rfl) (ev3 rfl id)) ?_
  refine walk_r rfl rfl rfl (op_move (.inl rfl) (ev1 rfl)) ?_
  refine walk_gr (gd_t rfl rfl rfl) rfl rfl rfl (op_move (.inl rfl) (ev1 rfl)) ?_
  refine walk_gr (gd_t rfl rfl rfl) rfl rfl rfl (op_eql rfl (ev2 rfl) (ev1 rfl)) ?_
  refine walk_r rfl rfl rfl (op_and rfl (ev1 rfl) (ev3 rfl id)) ?_
  refine walk_r rfl rfl rfl (op_move (.inl rfl) (ev1 rfl)) ?_
  refine walk_gr (gd_t rfl rfl rfl) rfl rfl rfl (op_move (.inl rfl) (ev1 rfl)) ?_
  refine walk_gr (gd_t rfl rfl rfl) rfl rfl rfl (op_eql rfl (ev2 rfl) (ev1 rfl)) ?_
  refine walk_r rfl rfl rfl (op_and rfl (ev1 rfl) (ev3 rfl id)) ?_
  refine walk_r rfl rfl rfl (op_move (.inl rfl) (ev1 rfl)) ?_
  refine walk_gr (gd_t rfl rfl rfl) rfl rfl rfl (op_move (.inl rfl) (ev1 rfl)) ?_
  refine walk_gr (gd_t rfl rfl rfl) rfl rfl rfl (op_eql rfl (ev2 rfl) (ev1 rfl)) ?_
  refine walk_r rfl rfl rfl (op_and rfl (ev1 rfl) (ev3 rfl id)) ?_
  refine walk_r rfl rfl rfl (op_move (.inl rfl) (ev1 rfl)) ?_
  refine walk_gr (gd_t rfl rfl rfl) rfl rfl rfl (op_move (.inl rfl) (ev1 rfl)) ?_
  refine walk_gr (gd_t rfl rfl rfl) rfl rfl rfl (op_eql rfl (ev2 rfl) (ev1 rfl)) ?_
  refine walk_r rfl rfl rfl (op_and rfl (ev1 rfl) (ev3 rfl id)) ?_
  refine walk_r rfl rfl rfl (op_move (.inl rfl) (ev1 rfl)) ?_
  refine walk_gr (gd_t rfl rfl rfl) rfl rfl rfl (op_move (.inl rfl) (ev1 rfl)) ?_
  refine walk_gr (gd_t rfl rfl rfl) rfl rfl rfl (op_eql rfl (ev2 rfl) (ev1 rfl)) ?_
  refine walk_r rfl rfl rfl (op_and rfl (ev1 rfl) (ev3 rfl id)) ?_
  refine walk_r rfl rfl rfl (op_move (.inl rfl) (ev1 rfl)) ?_
  refine walk_gr (gd_t rfl rfl rfl) rfl rfl rfl (op_move (.inl rfl) (ev1 rfl)) ?_
  refine walk_gr (gd_t rfl rfl rfl) rfl rfl rfl (op_eql rfl (ev2 rfl) (ev1 rfl)) ?_
  refine walk_r rfl rfl rfl (op_and rfl (ev1 rfl) (ev3 rfl id)) ?_
  refine walk_r rfl rfl rfl (op_move (.inl rfl) (ev1 rfl)) ?_
  refine walk_gr (gd_t rfl rfl rfl) rfl rfl rfl (op_move (.inl rfl) (ev1 rfl)) ?_
  refine walk_gr (gd_t rfl rfl rfl) rfl rfl rfl (op_bs (ps := [(0, .const (.int .u8 1)), (1, .const (.int .u8 2)), (2, .const (.int .u8 3)), (3, .const (.int .u8 4))]) rfl sl22 zr5 rfl (vc (ev1 rfl) (vc (ev1 rfl) (vc (ev1 rfl) (vc (ev1 rfl) vn)))) rfl (by decide) (by decide)) ?_
  refine walk_gr (gd_t rfl rfl rfl) rfl rfl rfl (dop_call [] [] [] rfl (ev1 rfl) (ec (ev2 rfl) (ec (ev2 rfl) en)) rfl rfl (equalN [1, 2, 3, 4] [1, 2, 3, 4]) rfl rfl rfl rfl rfl rfl) ?_
  refine walk_r rfl rfl rfl (op_and rfl (ev1 rfl) (ev3 rfl id)) ?_
  refine walk_r rfl rfl rfl (op_move (.inl rfl) (ev1 rfl)) ?_
  refine walk_gr (gd_t rfl rfl rfl) rfl rfl rfl (op_ldmw rfl tb26 (ev1 rfl) rfl rfl) ?_
  refine walk_gr (gd_t rfl rfl rfl) rfl rfl rfl (dop_call [] [] [] rfl (ev1 rfl) (ec (ev2 rfl) en) rfl rfl (w_head) rfl rfl rfl rfl rfl rfl) ?_
  refine walk_gr (gd_t rfl rfl rfl) rfl rfl rfl (op_eql rfl (ev2 rfl) (ev1 rfl)) ?_
  refine walk_r rfl rfl rfl (op_and rfl (ev1 rfl) (ev3 rfl id)) ?_
  refine walk_r rfl rfl rfl (op_move (.inl rfl) (ev1 rfl)) ?_
  refine walk_gr (gd_t rfl rfl rfl) rfl rfl rfl (op_move (.inl rfl) (ev1 rfl)) ?_
  refine walk_gr (gd_t rfl rfl rfl) rfl rfl rfl (op_bs (ps := [(0, .const (.int .u8 1)), (1, .const (.int .u8 2)), (2, .const (.int .u8 3))]) rfl sl22 zr5 rfl (vc (ev1 rfl) (vc (ev1 rfl) (vc (ev1 rfl) vn))) rfl (by decide) (by decide)) ?_
  refine walk_gr (gd_t rfl rfl rfl) rfl rfl rfl (dop_call [] [] [] rfl (ev1 rfl) (ec (ev2 rfl) (ec (ev2 rfl) en)) rfl rfl (equalN [1, 2, 3] [1, 2, 3]) rfl rfl rfl rfl rfl rfl) ?_
  refine walk_r rfl rfl rfl (op_and rfl (ev1 rfl) (ev3 rfl id)) ?_
  refine walk_r rfl rfl rfl (op_move (.inl rfl) (ev1 rfl)) ?_
  refine walk_gr (gd_t rfl rfl rfl) rfl rfl rfl (op_ldmw rfl tb26 (ev1 rfl) rfl rfl) ?_
  refine walk_gr (gd_t rfl rfl rfl) rfl rfl rfl (dop_call [] [] [] rfl (ev1 rfl) (ec (ev2 rfl) en) rfl rfl (w_head2) rfl rfl rfl rfl rfl rfl) ?_
  refine walk_gr (gd_t rfl rfl rfl) rfl rfl rfl (op_eql rfl (ev2 rfl) (ev1 rfl)) ?_
  refine walk_r rfl rfl rfl (op_and rfl (ev1 rfl) (ev3 rfl id)) ?_
  refine walk_r rfl rfl rfl (op_move (.inl rfl) (ev1 rfl)) ?_
  refine walk_gr (gd_t rfl rfl rfl) rfl rfl rfl (op_fa rfl fo26_3 (ev1 rfl)) ?_
  refine walk_gr (gd_t rfl rfl rfl) rfl rfl rfl (op_ldm rfl tb4 (ev2 rfl) rfl rfl) ?_
  refine walk_r rfl rfl rfl (op_and rfl (ev1 rfl) (ev3 rfl id)) ?_
  refine walk_r rfl rfl rfl (op_move (.inl rfl) (ev1 rfl)) ?_
  refine walk_gr (gd_t rfl rfl rfl) rfl rfl rfl (op_fa rfl fo26_3 (ev1 rfl)) ?_
  refine walk_gr (gd_t rfl rfl rfl) rfl rfl rfl (op_ldm rfl tb4 (ev2 rfl) rfl rfl) ?_
  refine walk_gr (gd_t rfl rfl rfl) rfl rfl rfl (op_not rfl (ev2 rfl)) ?_
  refine walk_r rfl rfl rfl (op_and rfl (ev1 rfl) (ev3 rfl id)) ?_
  refine walk_r rfl rfl rfl (op_move (.inr rfl) (ev1 rfl)) ?_
  refine walk_nil ?_
  refine dwp_ret ?_
  refine kend0 (rs1 rfl (rv_t rfl)) rfl ?_
  rfl
end Go.Proofs.Ytjecmkaggobcjaa

namespace Go.Proofs.Ytjecmkaggobcjaa
set_option linter.unusedVariables false
set_option linter.unusedSimpArgs false
open Go.RowKit
def ownK (f : Nat → List Nat) (h : Int) (w : List DOpn) (dn : Bool) (fu : Int) : DkS := ⟨ownF f, h, opsL w, dn, fu⟩
def cutW (d : DkS) (w : List DOpn) : DkS := ⟨d.f, d.h, w, d.dn, d.fu⟩
theorem cut_ok {d : DkS} (hd : d.ok) (k : Nat) : (cutW d (d.w.take k)).ok := by
  obtain ⟨h1, h2, h3, h4⟩ := chk_parts hd
  obtain ⟨g1, g2, g3, g4⟩ := chk0_parts h1
  refine chk_join (chk0_join g1 g2 g3 (by show (d.w.take k).length ≤ _; rw [List.length_take]; omega)) h2 (fun o ho => h3 o (List.mem_of_mem_take ho)) (szB_all fun j hj => ?_)
  have hj' : j < (d.w.take k).length := hj
  have hjk : j < k ∧ j < d.w.length := by rw [List.length_take] at hj'; omega
  show (afts (szs d.f) ((d.w.take k).take (j + 1))).getD ((d.w.take k)[j]).fl.toNat 0 ≤ _
  rw [List.take_take, Nat.min_eq_left (by omega), List.getElem_take]
  exact of_decide_eq_true h4 j hjk.2
theorem mayO_of {o : DOpn} (h : mayW o = true) : mayO o = true := by unfold mayO; rw [h]; rfl
theorem fullB_join {d : DkS} {o : DOpn} (h1 : o.kd = 1 → (afts (szs d.f) d.w).getD o.fl.toNat 0 + o.b.length ≤ 4194304) (h2 : d.w.length < 4096) : fullB d o = false := by
  unfold fullB
  rw [decide_eq_true h2]
  by_cases k1 : o.kd = 1
  · have h3 := h1 k1
    have e : decide (4194304 < (afts (szs d.f) d.w).getD o.fl.toNat 0 + o.b.length) = false := decide_eq_false (by omega)
    rw [e]; simp
  · rw [decide_eq_false k1]; rfl
theorem opE_join {d : DkS} {o : DOpn} (h1 : mayO o = true) (h2 : d.dn = false) (h3 : o.kd = 4 ∨ fullB d o = false) (h4 : d.fu ≠ 1) : opE d o = 0 := by
  unfold opE
  rw [if_neg (by rw [h1]; decide), if_neg (by rw [h2]; decide), if_neg (fun h => h3.elim h.1 fun e => by rw [h.2] at e; cases e), if_neg h4]
theorem sz_at {d : DkS} (hd : d.ok) {k : Nat} (hk : k < d.w.length) (k1 : d.w[k].kd = 1) : (afts (szs d.f) (d.w.take k)).getD (d.w[k]).fl.toNat 0 + d.w[k].b.length ≤ 4194304 := by
  obtain ⟨h1, h2, h3, h4⟩ := chk_parts hd
  have := of_decide_eq_true h4 k hk
  rw [afts_succ hk, aft_1 k1 (by rw [afts_len]; show _ < 4; have := (mayW_in (h3 _ (List.getElem_mem hk))).2; omega)] at this
  exact this
theorem torn_may {o : DOpn} {t : Nat} (h : mayW o = true) (k1 : o.kd = 1) (ht : t ≠ 0) : mayW (tornO o t) = true := by
  have hl : 0 < o.b.length := by
    unfold mayW at h
    simp only [Bool.and_eq_true] at h
    have h2 := h.2
    rw [show (o.kd == 1) = true by simp [k1]] at h2
    have : decide (0 < (o.b.length : Int)) = true := by simpa using h2.symm
    simpa using this
  have hl2 : 0 < (tornO o t).b.length := by show 0 < (o.b.take (min t o.b.length)).length; rw [List.length_take]; omega
  unfold mayW at h ⊢
  simp only [Bool.and_eq_true] at h ⊢
  refine ⟨h.1, ?_⟩
  show ((o.kd == 1) == decide (0 < ((tornO o t).b.length : Int))) = true
  have e : decide (0 < ((tornO o t).b.length : Int)) = true := decide_eq_true (by omega)
  rw [e, show (o.kd == 1) = true by simp [k1]]; rfl
theorem torn_E {d : DkS} (hd : d.ok) (h1 : d.dn = false) (h2 : d.fu ≠ 1) {k t : Nat} (hk : k < d.w.length) (k1 : d.w[k].kd = 1) (ht : t ≠ 0) : opE (cutW d (d.w.take k)) (tornO d.w[k] t) = 0 := by
  refine opE_join (mayO_of (torn_may ((chk_parts hd).2.2.1 _ (List.getElem_mem hk)) k1 ht)) h1 (.inr (fullB_join (fun _ => ?_) (by show (d.w.take k).length < _; rw [List.length_take]; have := (chk0_parts (chk_parts hd).1).2.2.2; omega))) h2
  have := sz_at hd hk k1
  have hl : (tornO d.w[k] t).b.length ≤ d.w[k].b.length := by show (d.w[k].b.take (min t d.w[k].b.length)).length ≤ _; rw [List.length_take]; omega
  show (afts (szs d.f) (d.w.take k)).getD (d.w[k]).fl.toNat 0 + (tornO d.w[k] t).b.length ≤ 4194304
  omega
def frontW (w : List DOpn) (keep t : Nat) : List DOpn := match w[keep]? with
  | some o => if o.kd = 1 ∧ t ≠ 0 then w.take keep ++ [tornO o t] else w.take keep
  | none => w.take keep
theorem seF_app (f : Nat → List Nat) (w : List DOpn) (o : DOpn) : seF f (w ++ [o]) = doF (seF f w) o := by unfold seF; rw [List.foldl_append]; rfl
theorem seH_app (h : Int) (w : List DOpn) (o : DOpn) : seH h (w ++ [o]) = doH (seH h w) o := by unfold seH; rw [List.foldl_append]; rfl
theorem front_f (f : Nat → List Nat) (w : List DOpn) (keep t : Nat) : fallF f w keep t = seF f (frontW w keep t) := by
  unfold fallF frontW
  cases e : w[keep]? with
  | none => rfl
  | some o =>
    show (if o.kd = 1 then _ else _) = seF f (if o.kd = 1 ∧ t ≠ 0 then _ else _)
    by_cases k1 : o.kd = 1
    · rw [if_pos k1]
      by_cases ht : t = 0
      · rw [if_neg (fun h => h.2 ht)]
        subst ht
        unfold doF
        rw [if_pos (by exact k1)]
        funext i
        show (if i = o.fl.toNat then _ else _) = _
        by_cases ei : i = o.fl.toNat
        · rw [if_pos ei, ei]
          show _ ++ o.b.take (min 0 o.b.length) = _
          simp [tornO]
        · rw [if_neg ei]
      · rw [if_pos ⟨k1, ht⟩, seF_app]
    · rw [if_neg k1, if_neg (fun h => k1 h.1)]
theorem front_h (h : Int) (w : List DOpn) (keep t : Nat) : seH h (w.take keep) = seH h (frontW w keep t) := by
  unfold frontW
  cases e : w[keep]? with
  | none => rfl
  | some o =>
    show _ = seH h (if o.kd = 1 ∧ t ≠ 0 then _ else _)
    by_cases k1 : o.kd = 1 ∧ t ≠ 0
    · rw [if_pos k1, seH_app]
      unfold doH
      rw [if_pos (by exact k1.1)]
    · rw [if_neg k1]
theorem run_ok0 {d : DkS} (hd : d.ok) : (⟨d.f, d.h, d.w, false, 0⟩ : DkS).ok := by
  obtain ⟨h1, h2, h3, h4⟩ := chk_parts hd
  obtain ⟨g1, g2, g3, g4⟩ := chk0_parts h1
  exact chk_join (chk0_join g1 (show (0 : Int) ≤ 0 ∧ (0 : Int) ≤ 4096 by decide) (fun e => by cases e) g4) h2 h3 h4
theorem front_ok {d : DkS} (hd : d.ok) (keep t : Nat) : (cutW d (frontW d.w keep t)).ok := by
  unfold frontW
  cases e : d.w[keep]? with
  | none => exact cut_ok hd keep
  | some o =>
    show (cutW d (if o.kd = 1 ∧ t ≠ 0 then _ else _)).ok
    by_cases k1 : o.kd = 1 ∧ t ≠ 0
    · rw [if_pos k1]
      obtain ⟨hk, rfl⟩ := List.getElem?_eq_some_iff.1 e
      have h5 := ok_step (cut_ok (run_ok0 hd) keep) (torn_E (run_ok0 hd) rfl (by show (0 : Int) ≠ 1; decide) hk k1.1 k1.2)
      unfold okS at h5
      rw [if_neg (by show ¬ d.w[keep].kd = 4; omega)] at h5
      obtain ⟨h1, h2, h3, h4⟩ := chk_parts h5
      obtain ⟨g1, g2, g3, g4⟩ := chk0_parts h1
      obtain ⟨q1, q2, q3, q4⟩ := chk0_parts (chk_parts hd).1
      exact chk_join (chk0_join g1 q2 q3 g4) h2 h3 h4
    · rw [if_neg k1]; exact cut_ok hd keep
theorem settled_ok {d : DkS} (hd : d.ok) {dn : Bool} {fu : Int} (h1 : 0 ≤ fu ∧ fu ≤ 4096) (h2 : dn = true → fu = 0) : (⟨seF d.f d.w, seH d.h d.w, [], dn, fu⟩ : DkS).ok := by
  obtain ⟨p1, p2, p3, p4⟩ := chk_parts hd
  obtain ⟨g1, g2, g3, g4⟩ := chk0_parts p1
  have hmax := afts_max p2 p4
  refine chk_join (chk0_join (seH_in _ _ g1 p3) h1 h2 (Nat.zero_le _)) (allF_yes fun i hi => ?_) (fun o ho => absurd ho List.not_mem_nil) (szB_all fun k hk => absurd hk (Nat.not_lt_zero k))
  show ((seF d.f d.w i).length : Int) ≤ _
  rw [seF_len p3 hi]
  have := hmax d.w.length (Nat.le_refl _) i
  rw [List.take_length] at this
  omega
theorem fall_ok {d : DkS} (hd : d.ok) (keep t : Nat) : (fallS d keep t).ok := by
  have h := settled_ok (front_ok hd keep t) (dn := true) (fu := 0) ⟨by decide, by decide⟩ (fun _ => rfl)
  unfold fallS
  rw [front_f, front_h d.h d.w keep t]
  exact h
end Go.Proofs.Ytjecmkaggobcjaa

namespace Go.Proofs.Ytjecmkaggobcjaa
set_option linter.unusedVariables false
set_option linter.unusedSimpArgs false
open Go.RowKit
def run3 : DkS → List DOpn → DkS × Nat × Int
  | d, [] => (d, 0, 0)
  | d, o :: l => if opE d o = 0 then ((run3 (okS d o) l).1, (run3 (okS d o) l).2.1 + 1, (run3 (okS d o) l).2.2) else (if opE d o = 321 then dnS d else zDk, 0, opE d o)
theorem okK_cons {d : DkS} {o : DOpn} {l : List DOpn} {k : Nat} (he : opE d o = 0) (h : okK (okS d o) l k) : okK d (o :: l) (k + 1) := fun i hi hik => by
  cases i with
  | zero => exact he
  | succ i => exact h i (by simpa using hi) (by omega)
theorem run3_cases : ∀ (l : List DOpn) (d : DkS), (okK d l l.length ∧ run3 d l = (stK d l l.length, l.length, 0)) ∨ ∃ (j : Nat) (hj : j < l.length), okK d l j ∧ opE (stK d l j) l[j] ≠ 0 ∧ run3 d l = (if opE (stK d l j) l[j] = 321 then dnS (stK d l j) else zDk, j, opE (stK d l j) l[j])
  | [], d => .inl ⟨fun i hi _ => absurd hi (Nat.not_lt_zero i), rfl⟩
  | o :: l, d => by
    by_cases he : opE d o = 0
    · unfold run3
      rw [if_pos he]
      rcases run3_cases l (okS d o) with ⟨h1, h2⟩ | ⟨j, hj, h1, h2, h3⟩
      · refine .inl ⟨okK_cons he h1, ?_⟩
        rw [h2]; rfl
      · refine .inr ⟨j + 1, by simpa using hj, okK_cons he h1, h2, ?_⟩
        rw [h3]; rfl
    · refine .inr ⟨0, by simp, fun i hi h => absurd h (Nat.not_lt_zero i), he, ?_⟩
      unfold run3
      rw [if_neg he]; rfl
theorem runZ3 (d : DkS) (l : List DOpn) (hd : d.ok) (hl : l.length ≤ 10000) (hlb : ∀ o ∈ l, o.b.length ≤ 10000000) : DFun Try.prog 26 [d.d, .slm 3 l.length (l.flatMap oD)] [] (.tup [(run3 d l).1.d, .val (.int .i64 ((run3 d l).2.1 : Int)), .val (.int .i64 (run3 d l).2.2)]) [] := by
  rcases run3_cases l d with ⟨h1, h2⟩ | ⟨j, hj, h1, h2, h3⟩
  · rw [h2]; exact runZ_ok d l hd hl hlb h1
  · rw [h3]
    by_cases h9 : opE (stK d l j) l[j] = 321
    · rw [if_pos h9, h9]; exact runZ_down d l hd hl hlb j hj h1 h9
    · rw [if_neg h9]; exact runZ_bad d l hd hl hlb j hj h1 h2 h9
end Go.Proofs.Ytjecmkaggobcjaa

namespace Go.Proofs.Ytjecmkaggobcjaa
set_option linter.unusedVariables false
set_option linter.unusedSimpArgs false
open Go.RowKit
theorem ops_small {w : List DOpn} : ∀ o ∈ opsL w, o.b.length ≤ 10000000 := fun o ho => by
  obtain ⟨q, _, rfl⟩ := List.mem_map.1 ho
  have := cutOn q
  omega
end Go.Proofs.Ytjecmkaggobcjaa

namespace Go.Proofs.Ytjecmkaggobcjaa
set_option linter.unusedVariables false
set_option linter.unusedSimpArgs false
open Go.RowKit
theorem dnS_ok {d : DkS} (hd : d.ok) : (dnS d).ok := by
  obtain ⟨h1, h2, h3, h4⟩ := chk_parts hd
  obtain ⟨g1, g2, g3, g4⟩ := chk0_parts h1
  have e : (if d.dn = true then d.fu else 0) = 0 := by
    by_cases q : d.dn = true
    · rw [if_pos q]; exact g3 q
    · rw [if_neg q]
  refine chk_join (chk0_join g1 ?_ (fun _ => e) g4) h2 h3 h4
  show 0 ≤ (if d.dn = true then d.fu else 0) ∧ (if d.dn = true then d.fu else 0) ≤ 4096
  rw [e]; decide
end Go.Proofs.Ytjecmkaggobcjaa

namespace Go.Proofs.Ytjecmkaggobcjaa
set_option linter.unusedVariables false
set_option linter.unusedSimpArgs false
open Go.RowKit
theorem sameB_refl (f : Nat → List Nat) (h : Int) (w : List DOpn) (dn : Bool) (fu : Int) : sameB f h w dn fu f h w dn fu = true := by
  unfold sameB fEq
  simp
theorem wk_z0 : Wk (.val (.agg #[.slice none 0 0, .slice none 0 0, .slice none 0 0, .slice none 0 0, .int .i64 0, .slice none 0 0, .bool false, .int .i64 0])) zDk.d := (Wk.vagg [.slice none 0 0, .slice none 0 0, .slice none 0 0, .slice none 0 0, .int .i64 0, .slice none 0 0, .bool false, .int .i64 0]).trans (Wk.agg (WkL.cons (Wk.slf0 1) (WkL.cons (Wk.slf0 1) (WkL.cons (Wk.slf0 1) (WkL.cons (Wk.slf0 1) (WkL.cons (Wk.refl _) (WkL.cons (Wk.slm0 3) (WkL.refl _))))))))
end Go.Proofs.Ytjecmkaggobcjaa

namespace Go.Proofs.Ytjecmkaggobcjaa
set_option linter.unusedVariables false
set_option linter.unusedSimpArgs false
open Go.RowKit
section
variable {P : Program} {s0 : St} {n : Cx}
theorem inv_gone {F : Fr} {M : List Blk} {a : Act} {w : World} (i : Nat) (h : Inv s0 n F M a w) : Inv s0 n F (M.set i .gone) a w := by
  obtain ⟨h0, s, rfl, rfl, h3, h4, h5, h6⟩ := h
  have tt := tr_gone h3.ok i
  exact ⟨h0, ⟨s.β, s.I, s.M.set i .gone, s.w⟩, rfl, rfl, h3.trans tt, fun x d hd => (h4 x d hd).mono h3.ok tt, h5, h6.mono h3.ok tt⟩
/-- a block that nobody asks for any more -/
theorem dwp_gone {c : Code} {F : Fr} {M M' : List Blk} {K : Cont} (i : Nat) (hM' : M.set i .gone = M') (h : dwp P s0 n c F M' K) : dwp P s0 n c F M K := by
  subst hM'
  exact fun a w hi => h a w (inv_gone i hi)
end
theorem tr_giveX {s : St} (ho : Ok s) {j sz n : Nat} {T : TypeId} {l : List D} {v : Value} (hM : s.M[j]? = some (.arx T sz n l)) (hnl : D.nlL l = true) (hr : Rep s (.arr j) v) : ∃ I' : Nat → Prop, Tr s ⟨s.β, I', s.M.set j .gone, s.w⟩ ∧ Rep ⟨s.β, I', s.M.set j .gone, s.w⟩ (.slm sz n l) v := by
  cases hr with
  | @arr _ ad n' c hβ =>
    obtain ⟨vs, hk, q3, q4⟩ := ho.blk j _ _ hM hβ
    rcases hk.2 with ⟨e1, e2⟩ | ⟨g, cap, cur, e1, e2, e3, e4, e5, e6, e7⟩
    · cases e1; subst e2
      have hl0 : l = [] := List.eq_nil_of_length_eq_zero (by rw [← q3, hk.1, Nat.zero_mul])
      subst hl0
      exact ⟨s.I, tr_gone ho j, .slm (vs := []) rfl (by simp) (Nat.le_refl _) (Nat.zero_le _) (fun _ => rfl) rfl (fun j d v h => by simp at h) (.inl rfl)⟩
    · cases e1
      have tt := tr_give ho hM rfl hβ rfl s.w (fun _ _ => rfl) rfl rfl rfl rfl
      refine ⟨fun b => s.I b ∨ b = g, tt, .slm (vs := vs) hnl (by rw [← q3]; exact hk.1) e4 e5 (fun e => by cases e) q3 (fun i d v h1 h2 => (q4 i d v h1 h2).mono ho tt) (.inr ⟨g, 0, rfl, .inr rfl, ?_⟩)⟩
      have hc0 := cellsAt_sub (cellsAt_block e3 0) 0 (n * sz)
      simpa [e7] using hc0
/-- a row of data that an operation makes is given up at once: it stays -/
theorem DOp.giveX {P : Program} {pc : Bool} {o : Oper} {F : Fr} {M : List Blk} {fp : List Nat} {j sz n : Nat} {T : TypeId} {l : List D} (wr : List (Nat × Blk)) (h : DOp P pc o F M fp (.arr j) (wr ++ [(j, .arx T sz n l)])) (hnl : D.nlL l = true) (hj : M[j]? = some .hole) (hf : fp.contains j = true) : DOp P pc o F M fp (.slm sz n l) (wr ++ [(j, .gone)]) := by
  intro hp a s hok hops hfp
  refine (h hp a s hok hops hfp).map fun s' v ho' ⟨e1, e2⟩ => ?_
  have hjl : j < s.M.length := by
    have h1 := hfp j (by simpa using hf)
    rw [hj] at h1
    exact (List.getElem?_eq_some_iff.1 h1).1
  have hM : s'.M[j]? = some (.arx T sz n l) := by
    rw [e1, upd_app]
    show ((upd s.M wr).set j _)[j]? = _
    rw [List.getElem?_set_self (by rw [upd_len]; exact hjl)]
  obtain ⟨I', t1, r1⟩ := tr_giveX ho' hM hnl e2
  refine ⟨⟨s'.β, I', s'.M.set j .gone, s'.w⟩, rfl, t1, ?_, r1⟩
  show s'.M.set j .gone = _
  rw [e1, upd_app, upd_app]
  show ((upd s.M wr).set j _).set j .gone = (upd s.M wr).set j .gone
  rw [List.set_set]
theorem DOp.giveX2 {P : Program} {pc : Bool} {o : Oper} {F : Fr} {M : List Blk} {fp : List Nat} {i j sz n : Nat} {T : TypeId} {l : List D} (h : DOp P pc o F M fp (.arr j) [(i, .gone), (j, .arx T sz n l)]) (hnl : D.nlL l = true) (hj : M[j]? = some .hole) (hf : fp.contains j = true) : DOp P pc o F M fp (.slm sz n l) [(i, .gone), (j, .gone)] := DOp.giveX [(i, .gone)] h hnl hj hf
end Go.Proofs.Ytjecmkaggobcjaa

namespace Go.Proofs.Ytjecmkaggobcjaa
theorem ar55 : arE Try.prog 55 = some (2, 1) := by kernel_rfl
theorem fp26_0 : fdP Try.prog 26 0 = some (0, true, 4) := by kernel_rfl
theorem sl54 : slE Try.prog 54 = some (55, 2, 16) := by kernel_rfl
theorem tb55 : tyB Try.prog 55 = some (true, 2) := by kernel_rfl
theorem zr55 : zrC Try.prog 55 = some [.int .i64 0, .int .i64 0] := by kernel_rfl
end Go.Proofs.Ytjecmkaggobcjaa

namespace Go.Proofs.Ytjecmkaggobcjaa
set_option linter.unusedVariables false
set_option linter.unusedSimpArgs false
open Go.RowKit
def PB (Bs : List Mem) (k : Nat) : Prop := ∃ b : List Nat, Bs[k]? = some (rowB b) ∧ b.length ≤ 1000000000000
theorem PB_set {Bs : List Mem} {k i : Nat} {b : List Nat} (h : PB Bs k) (hb : b.length ≤ 1000000000000) : PB (Bs.set i (rowB b)) k := by
  obtain ⟨c, hc, hl⟩ := h
  by_cases e : i = k
  · subst e
    exact ⟨b, List.getElem?_set_self (List.getElem?_eq_some_iff.1 hc).1, hb⟩
  · exact ⟨c, by rw [List.getElem?_set_ne e]; exact hc, hl⟩
theorem PB_at {Bs : List Mem} {i : Nat} {b c : List Nat} (h : Bs[i]? = some (rowB c)) : (Bs.set i (rowB b))[i]? = some (rowB b) := List.getElem?_set_self (List.getElem?_eq_some_iff.1 h).1
theorem cG4 {g : Nat → Nat} {h : Int} {r : D} {dn : Bool} {fu : Int} {i : Nat} (hi : i < 4) : (List.take 4 (List.drop 0 (cG g h r dn fu)))[i]? = some (.farr 0 (g i)) := by
  have : i = 0 ∨ i = 1 ∨ i = 2 ∨ i = 3 := by omega
  rcases this with rfl | rfl | rfl | rfl <;> rfl
theorem zD4 {i : Nat} (hi : i < 4) : (List.take 4 (List.drop 0 (dD zDk.f zDk.h zDk.w zDk.dn zDk.fu)))[i]? = some (rB []) := by
  have : i = 0 ∨ i = 1 ∨ i = 2 ∨ i = 3 := by omega
  rcases this with rfl | rfl | rfl | rfl <;> rfl
theorem PB_x {x : DSt × List (DOpn × Nat)} {d : DkS} (hx : XOk x d) (hd : d.ok) : (∀ i, i < 4 → PB x.1.B (x.1.g i)) ∧ ∀ q ∈ x.2, PB x.1.B q.2 := by
  refine ⟨fun i hi => ⟨_, hx.g.file i hi, ?_⟩, fun q hq => ⟨_, hx.g.wait q hq, ?_⟩⟩
  · rw [hx.f]; have := allF_len (chk_parts hd).2.1 hi; omega
  · have h1 := (few_of hd).2.2 q.1 (by rw [← hx.w]; exact List.mem_map_of_mem hq)
    omega
set_option maxRecDepth 4000 in
set_option maxHeartbeats 1000000 in
theorem spoil_F (Bs : List Mem) (g : Nat → Nat) (h : Int) (dn : Bool) (fu : Int) (Q : List (DOpn × Nat)) (hl : Q.length ≤ 1000000) (hP1 : ∀ i, i < 4 → PB Bs (g i)) (hP2 : ∀ q ∈ Q, PB Bs q.2) : DFun Try.prog 25 [.agg (cG g h (.arr 1) dn fu)] [.fam Bs, .arx 44 3 Q.length (Q.flatMap (oF 0))] (.tup []) [.gone, .gone] := by
  refine dcalls_go (N := 48) 2 (by kernel_rfl) Try.func25 rfl rfl rfl (by simp only [fr0, Nat.zero_add, Nat.reduceAdd]; exact rfl) rfl fun s0 hs0 => ?_
  refine dwp_seq ?_
  refine dwp_holes 1 (by simp only [holes, List.cons_append, List.nil_append]; exact rfl) ?_
  refine dwp_region ?_
  refine walk_w rfl rfl rfl (op_boxam 2 rfl (ev1 rfl) rfl) (by simp only [upd, List.set_cons_zero, List.set_cons_succ]; exact rfl) ?_
  refine walk_nil ?_
  refine dwp_seq ?_
  refine dwp_seq ?_
  refine dwp_region ?_
  refine walk_r rfl rfl rfl (op_fa rfl fo26_0 (ev1 rfl)) ?_
  refine walk_r rfl rfl rfl (op_ldmp rfl tb23 (ev1 rfl) rfl rfl rfl) ?_
  refine walk_r rfl rfl rfl (op_move (.inl rfl) (ev1 rfl)) ?_
  refine walk_nil ?_
  refine dwp_block ?_
  refine dwp_loopS ⟨hs0, rfl⟩ (α := Nat × List Mem) (fun x_ => [(10, .val (.int .i64 (x_.1 : Int)))]) [(1, _), (9, _)] (fun x_ => [(0, .fam x_.2)]) [.hole, _, _] (fun x_ => x_.1 ≤ 4 ∧ (∀ i, i < 4 → PB x_.2 (g i)) ∧ ∀ q ∈ Q, PB x_.2 q.2) (fun x_ => 4 - x_.1) (0, Bs) [0, 1, 2] (⟨Nat.zero_le _, hP1, hP2⟩) rfl ⟨rfl, rfl, trivial⟩ ⟨rfl, trivial⟩ ⟨rfl, arxs_fits rfl rfl (fun _ => rfl), rfl, trivial⟩ ?_
  intro x_ hx
  simp only [upd, List.set_cons_zero, List.set_cons_succ, List.cons_append, List.nil_append]
  obtain ⟨i, B⟩ := x_
  obtain ⟨g1, hP1, hP2⟩ := hx
  dsimp only at g1 hP1 hP2 ⊢
  refine dwp_seq ?_
  refine dwp_region ?_
  refine walk_r rfl rfl rfl (op_lss rfl (ev1 rfl) (ev1 rfl)) ?_
  refine walk_nil ?_
  refine dwp_seq ?_
  refine dwp_cond rfl (fun c1 => ?_) (fun c1 => ?_)
  · try simp only [decide_eq_true_eq, decide_eq_false_iff_not, beq_iff_eq, bne_iff_ne, beq_eq_false_iff_ne, bne_eq_false_iff_eq, Bool.not_eq_true', Bool.not_eq_false', Bool.and_eq_true, Bool.or_eq_true, Bool.or_eq_false_iff, ne_eq, Decidable.not_not, Int.not_lt, Int.not_le] at c1
    refine dwp_skip ?_
    refine dwp_seq ?_
    refine dwp_block ?_
    refine dwp_seq ?_
    have hi4 : i < 4 := by omega
    obtain ⟨b, hb, hbl⟩ := hP1 i hi4
    refine dwp_region ?_
    refine walk_r rfl rfl rfl (op_ixw (i) rfl aw23 (ev1 rfl) (ev1 rfl) (fun _ => rfl) (by omega) (cG4 (g := g) (h := h) (r := .arr 1) (dn := dn) (fu := fu) (by omega))) ?_
    refine walk_r rfl rfl rfl (op_move (.inr rfl) (ev1 rfl)) ?_
    refine walk_nil ?_
    refine dwp_seq ?_
    refine dwp_region ?_
    refine walk_r rfl rfl rfl (op_move (.inl rfl) (ev1 rfl)) ?_
    refine walk_r rfl rfl rfl (op_lenf rfl sl22 (ev1 rfl) rfl (hb)) ?_
    refine walk_r rfl rfl rfl (op_move (.inl rfl) (ev1 rfl)) ?_
    refine walk_nil ?_
    refine dwp_block ?_
    refine dwp_loopS ⟨hs0, rfl⟩ (α := Nat × List Mem × List Nat) (fun y_ => [(15, .val (.int .i64 (y_.1 : Int)))]) [(1, _), (3, _), (9, _), (10, _), (14, _)] (fun y_ => [(0, .fam y_.2.1)]) [.hole, _, _] (fun y_ => y_.1 ≤ b.length ∧ y_.2.1[g i]? = some (rowB y_.2.2) ∧ y_.2.2.length = b.length ∧ (∀ i, i < 4 → PB y_.2.1 (g i)) ∧ ∀ q ∈ Q, PB y_.2.1 q.2) (fun y_ => b.length - y_.1) (0, B, b) [0, 1, 2] (⟨Nat.zero_le _, hb, rfl, hP1, hP2⟩) rfl ⟨rfl, rfl, rfl, rfl, rfl, trivial⟩ ⟨rfl, trivial⟩ ⟨rfl, arxs_fits rfl rfl (fun _ => rfl), rfl, trivial⟩ ?_
    intro y_ hx
    simp only [upd, List.set_cons_zero, List.set_cons_succ, List.cons_append, List.nil_append]
    obtain ⟨j, C, q⟩ := y_
    obtain ⟨g3, g4, g5, g6, g7⟩ := hx
    dsimp only at g3 g4 g5 g6 g7 ⊢
    refine dwp_seq ?_
    refine dwp_region ?_
    refine walk_r rfl rfl rfl (op_lss rfl (ev1 rfl) (ev1 rfl)) ?_
    refine walk_nil ?_
    refine dwp_seq ?_
    refine dwp_cond rfl (fun c2 => ?_) (fun c2 => ?_)
    · try simp only [decide_eq_true_eq, decide_eq_false_iff_not, beq_iff_eq, bne_iff_ne, beq_eq_false_iff_ne, bne_eq_false_iff_eq, Bool.not_eq_true', Bool.not_eq_false', Bool.and_eq_true, Bool.or_eq_true, Bool.or_eq_false_iff, ne_eq, Decidable.not_not, Int.not_lt, Int.not_le] at c2
      refine dwp_skip ?_
      refine dwp_seq ?_
      refine dwp_block ?_
      refine dwp_seq ?_
      refine dwp_region ?_
      refine walk_r rfl rfl rfl (op_move (.inl rfl) (ev1 rfl)) ?_
      refine walk_r rfl rfl rfl (op_move (.inr rfl) (ev1 rfl)) ?_
      refine walk_nil ?_
      have hjq : j < q.length := by omega
      refine dwp_region ?_
      refine walk_r rfl rfl rfl (op_move (.inl rfl) (ev1 rfl)) ?_
      refine walk_r rfl rfl rfl (op_move (.inl rfl) (ev1 rfl)) ?_
      refine walk_r rfl rfl rfl (op_ixf (j) rfl sl22 (ev1 rfl) (ev1 rfl) rfl (g4) (fun _ => rfl) (fun _ => by omega)) ?_
      refine walk_r rfl rfl rfl (op_ldfe rfl tb5 (ev1 rfl) rfl (g4) (fun _ => rfl) (by omega) rfl) ?_
      refine walk_r rfl rfl rfl ((by rw [← wrap1]; exact op_add rfl (ev1 rfl) (ev1 rfl) : DOp _ _ _ _ _ _ (.val (.int .u8 (((q[j] + 1) % 256 : Nat) : Int))) _)) ?_
      refine walk_r rfl rfl rfl (op_ixf (j) rfl sl22 (ev1 rfl) (ev1 rfl) rfl (g4) (fun _ => rfl) (fun _ => by omega)) ?_
      refine walk_s rfl rfl (op_stfe ((q[j] + 1) % 256) rfl tb5 (ev1 rfl) (ev1 rfl) rfl (g4) rfl (fun _ => rfl) (by omega) rfl) (by simp only [upd, List.set_cons_zero, List.set_cons_succ]; exact rfl) ?_
      refine walk_nil ?_
      refine dwp_region ?_
      refine walk_r rfl rfl rfl (op_add' rfl (ev1 rfl) (ev1 rfl) (fun _ => IntWalk.i64_in _ (by omega))) ?_
      refine walk_r rfl rfl rfl (op_move (.inl rfl) (ev1 rfl)) ?_
      refine walk_nil ?_
      refine ⟨(j + 1, C.set (g i) (rowB (q.set j ((q[j]'hjq + 1) % 256))), q.set j ((q[j]'hjq + 1) % 256)), [0, 1, 2], ⟨by omega, PB_at g4, by simp [g5], fun i hi => PB_set (g6 i hi) (by simp; omega), fun z hz => PB_set (g7 z hz) (by simp; omega)⟩, by simp only []; omega, rfl, ⟨rfl, rfl, rfl, rfl, rfl, rfl, trivial⟩, ⟨congrArg (fun b => some (Blk.fam b)) (by unfold rowB; simp), arxs_fits rfl rfl (fun _ => rfl), rfl, trivial⟩⟩
    · try simp only [decide_eq_true_eq, decide_eq_false_iff_not, beq_iff_eq, bne_iff_ne, beq_eq_false_iff_ne, bne_eq_false_iff_eq, Bool.not_eq_true', Bool.not_eq_false', Bool.and_eq_true, Bool.or_eq_true, Bool.or_eq_false_iff, ne_eq, Decidable.not_not, Int.not_lt, Int.not_le] at c2
      refine dwp_exit ?_
      refine dwp_region ?_
      refine walk_r rfl rfl rfl (op_add' rfl (ev1 rfl) (ev1 rfl) (fun _ => IntWalk.i64_in _ (by omega))) ?_
      refine walk_r rfl rfl rfl (op_move (.inl rfl) (ev1 rfl)) ?_
      refine walk_nil ?_
      refine ⟨(i + 1, C), [0, 1, 2], ⟨by omega, g6, g7⟩, by simp only []; omega, rfl, ⟨rfl, rfl, rfl, trivial⟩, ⟨rfl, arxs_fits rfl rfl (fun _ => rfl), rfl, trivial⟩⟩
  · try simp only [decide_eq_true_eq, decide_eq_false_iff_not, beq_iff_eq, bne_iff_ne, beq_eq_false_iff_ne, bne_eq_false_iff_eq, Bool.not_eq_true', Bool.not_eq_false', Bool.and_eq_true, Bool.or_eq_true, Bool.or_eq_false_iff, ne_eq, Decidable.not_not, Int.not_lt, Int.not_le] at c1
    refine dwp_exit ?_
    refine dwp_seq ?_
    have hN := hl
    refine dwp_region ?_
    refine walk_r rfl rfl rfl (op_fa rfl fo26_2 (ev1 rfl)) ?_
    refine walk_r rfl rfl rfl (op_ldm rfl tb24 (ev1 rfl) rfl rfl) ?_
    refine walk_r rfl rfl rfl (op_lenx rfl sl24 (ev1 rfl) rfl) ?_
    refine walk_r rfl rfl rfl (op_move (.inl rfl) (ev1 rfl)) ?_
    refine walk_nil ?_
    refine dwp_block ?_
    refine dwp_loopS ⟨hs0, rfl⟩ (α := Nat × List Mem) (fun x_ => [(29, .val (.int .i64 (x_.1 : Int)))]) [(27, _), (28, _)] (fun x_ => [(0, .fam x_.2)]) [.hole, _, _] (fun x_ => x_.1 ≤ Q.length ∧ (∀ i, i < 4 → PB x_.2 (g i)) ∧ ∀ q ∈ Q, PB x_.2 q.2) (fun x_ => Q.length - x_.1) (0, B) [0, 1, 2] (⟨Nat.zero_le _, hP1, hP2⟩) rfl ⟨rfl, rfl, trivial⟩ ⟨rfl, trivial⟩ ⟨rfl, arxs_fits rfl rfl (fun _ => rfl), rfl, trivial⟩ ?_
    intro x_ hx
    simp only [upd, List.set_cons_zero, List.set_cons_succ, List.cons_append, List.nil_append]
    obtain ⟨i, B⟩ := x_
    obtain ⟨g1, hP1, hP2⟩ := hx
    dsimp only at g1 hP1 hP2 ⊢
    refine dwp_seq ?_
    refine dwp_region ?_
    refine walk_r rfl rfl rfl (op_lss rfl (ev1 rfl) (ev1 rfl)) ?_
    refine walk_nil ?_
    refine dwp_seq ?_
    refine dwp_cond rfl (fun c3 => ?_) (fun c3 => ?_)
    · try simp only [decide_eq_true_eq, decide_eq_false_iff_not, beq_iff_eq, bne_iff_ne, beq_eq_false_iff_ne, bne_eq_false_iff_eq, Bool.not_eq_true', Bool.not_eq_false', Bool.and_eq_true, Bool.or_eq_true, Bool.or_eq_false_iff, ne_eq, Decidable.not_not, Int.not_lt, Int.not_le] at c3
      refine dwp_skip ?_
      refine dwp_seq ?_
      refine dwp_block ?_
      refine dwp_seq ?_
      have hiq : i < Q.length := by omega
      obtain ⟨b, hb, hbl⟩ := hP2 _ (List.getElem_mem hiq)
      refine dwp_holes 1 (by simp only [holes, List.cons_append, List.nil_append]; exact rfl) ?_
      refine dwp_region ?_
      refine walk_r rfl rfl rfl (op_ixx (i) rfl sl24 (ev1 rfl) (ev1 rfl) rfl (fun _ => rfl) (fun _ => by omega)) ?_
      refine walk_r rfl rfl rfl (op_ldxr (j := i) rfl tb44 (ev1 rfl) rfl (fun _ => rfl) (by omega)) ?_
      refine walk_w rfl rfl rfl (op_alloc 3 rfl zr44 rfl) (by simp only [upd, List.set_cons_zero, List.set_cons_succ]; exact rfl) ?_
      refine walk_s rfl rfl (op_stam rfl tb44 (ev1 rfl) (ev1 rfl) rfl rfl rfl rfl) (by simp only [upd, List.set_cons_zero, List.set_cons_succ]; exact rfl) ?_
      refine walk_nil ?_
      refine dwp_seq ?_
      refine dwp_region ?_
      refine walk_r rfl rfl rfl (op_fa rfl fo44_2 (ev1 rfl)) ?_
      refine walk_r rfl rfl rfl (op_ldm rfl tb22 (ev1 rfl) rfl rfl) ?_
      refine walk_r rfl rfl rfl (op_lenf rfl sl22 (ev1 rfl) rfl (hb)) ?_
      refine walk_r rfl rfl rfl (op_move (.inl rfl) (ev1 rfl)) ?_
      refine walk_nil ?_
      refine dwp_block ?_
      refine dwp_loopS ⟨hs0, rfl⟩ (α := Nat × List Mem × List Nat) (fun y_ => [(36, .val (.int .i64 (y_.1 : Int)))]) [(6, _), (27, _), (28, _), (29, _), (35, _)] (fun y_ => [(0, .fam y_.2.1)]) [.hole, _, _, _] (fun y_ => y_.1 ≤ b.length ∧ y_.2.1[(Q[i]'hiq).2]? = some (rowB y_.2.2) ∧ y_.2.2.length = b.length ∧ (∀ i, i < 4 → PB y_.2.1 (g i)) ∧ ∀ q ∈ Q, PB y_.2.1 q.2) (fun y_ => b.length - y_.1) (0, B, b) [0, 1, 2, 3] (⟨Nat.zero_le _, hb, rfl, hP1, hP2⟩) rfl ⟨rfl, rfl, rfl, rfl, rfl, trivial⟩ ⟨rfl, trivial⟩ ⟨rfl, arxs_fits rfl rfl (fun _ => rfl), rfl, rfl, trivial⟩ ?_
      intro y_ hx
      simp only [upd, List.set_cons_zero, List.set_cons_succ, List.cons_append, List.nil_append]
      obtain ⟨j, C, q⟩ := y_
      obtain ⟨g3, g4, g5, g6, g7⟩ := hx
      dsimp only at g3 g4 g5 g6 g7 ⊢
      refine dwp_seq ?_
      refine dwp_region ?_
      refine walk_r rfl rfl rfl (op_lss rfl (ev1 rfl) (ev1 rfl)) ?_
      refine walk_nil ?_
      refine dwp_seq ?_
      refine dwp_cond rfl (fun c4 => ?_) (fun c4 => ?_)
      · try simp only [decide_eq_true_eq, decide_eq_false_iff_not, beq_iff_eq, bne_iff_ne, beq_eq_false_iff_ne, bne_eq_false_iff_eq, Bool.not_eq_true', Bool.not_eq_false', Bool.and_eq_true, Bool.or_eq_true, Bool.or_eq_false_iff, ne_eq, Decidable.not_not, Int.not_lt, Int.not_le] at c4
        refine dwp_skip ?_
        refine dwp_seq ?_
        refine dwp_block ?_
        refine dwp_seq ?_
        refine dwp_region ?_
        refine walk_r rfl rfl rfl (op_move (.inl rfl) (ev1 rfl)) ?_
        refine walk_r rfl rfl rfl (op_move (.inr rfl) (ev1 rfl)) ?_
        refine walk_nil ?_
        have hjq : j < q.length := by omega
        refine dwp_region ?_
        refine walk_r rfl rfl rfl (op_fa rfl fo44_2 (ev1 rfl)) ?_
        refine walk_r rfl rfl rfl (op_ldm rfl tb22 (ev1 rfl) rfl rfl) ?_
        refine walk_r rfl rfl rfl (op_move (.inl rfl) (ev1 rfl)) ?_
        refine walk_r rfl rfl rfl (op_ixf (j) rfl sl22 (ev1 rfl) (ev1 rfl) rfl (g4) (fun _ => rfl) (fun _ => by omega)) ?_
        refine walk_r rfl rfl rfl (op_ldfe rfl tb5 (ev1 rfl) rfl (g4) (fun _ => rfl) (by omega) rfl) ?_
        refine walk_r rfl rfl rfl ((by rw [← wrap1]; exact op_add rfl (ev1 rfl) (ev1 rfl) : DOp _ _ _ _ _ _ (.val (.int .u8 (((q[j] + 1) % 256 : Nat) : Int))) _)) ?_
        refine walk_r rfl rfl rfl (op_ixf (j) rfl sl22 (ev1 rfl) (ev1 rfl) rfl (g4) (fun _ => rfl) (fun _ => by omega)) ?_
        refine walk_s rfl rfl (op_stfe ((q[j] + 1) % 256) rfl tb5 (ev1 rfl) (ev1 rfl) rfl (g4) rfl (fun _ => rfl) (by omega) rfl) (by simp only [upd, List.set_cons_zero, List.set_cons_succ]; exact rfl) ?_
        refine walk_nil ?_
        refine dwp_region ?_
        refine walk_r rfl rfl rfl (op_add' rfl (ev1 rfl) (ev1 rfl) (fun _ => IntWalk.i64_in _ (by omega))) ?_
        refine walk_r rfl rfl rfl (op_move (.inl rfl) (ev1 rfl)) ?_
        refine walk_nil ?_
        refine ⟨(j + 1, C.set ((Q[i]'hiq).2) (rowB (q.set j ((q[j]'hjq + 1) % 256))), q.set j ((q[j]'hjq + 1) % 256)), [0, 1, 2, 3], ⟨by omega, PB_at g4, by simp [g5], fun i hi => PB_set (g6 i hi) (by simp; omega), fun z hz => PB_set (g7 z hz) (by simp; omega)⟩, by simp only []; omega, rfl, ⟨rfl, rfl, rfl, rfl, rfl, rfl, trivial⟩, ⟨congrArg (fun b => some (Blk.fam b)) (by unfold rowB; simp), arxs_fits rfl rfl (fun _ => rfl), rfl, rfl, trivial⟩⟩
      · try simp only [decide_eq_true_eq, decide_eq_false_iff_not, beq_iff_eq, bne_iff_ne, beq_eq_false_iff_ne, bne_eq_false_iff_eq, Bool.not_eq_true', Bool.not_eq_false', Bool.and_eq_true, Bool.or_eq_true, Bool.or_eq_false_iff, ne_eq, Decidable.not_not, Int.not_lt, Int.not_le] at c4
        refine dwp_exit ?_
        refine dwp_region ?_
        refine walk_r rfl rfl rfl (op_add' rfl (ev1 rfl) (ev1 rfl) (fun _ => IntWalk.i64_in _ (by omega))) ?_
        refine walk_r rfl rfl rfl (op_move (.inl rfl) (ev1 rfl)) ?_
        refine walk_nil ?_
        refine ⟨(i + 1, C), [0, 1, 2], ⟨by omega, g6, g7⟩, by simp only []; omega, rfl, ⟨rfl, rfl, rfl, trivial⟩, ⟨rfl, arxs_fits rfl rfl (fun _ => rfl), rfl, trivial⟩⟩
    · try simp only [decide_eq_true_eq, decide_eq_false_iff_not, beq_iff_eq, bne_iff_ne, beq_eq_false_iff_ne, bne_eq_false_iff_eq, Bool.not_eq_true', Bool.not_eq_false', Bool.and_eq_true, Bool.or_eq_true, Bool.or_eq_false_iff, ne_eq, Decidable.not_not, Int.not_lt, Int.not_le] at c3
      refine dwp_gone 0 (by simp only [List.set_cons_zero, List.set_cons_succ]; exact rfl) ?_
      refine dwp_gone 1 (by simp only [List.set_cons_zero, List.set_cons_succ]; exact rfl) ?_
      refine dwp_exit ?_
      refine kend [0, 1] (res_none rfl) rfl rfl ?_ ⟨?_, ?_, trivial⟩
      rfl
      all_goals exact rfl
set_option maxRecDepth 4000 in
set_option maxHeartbeats 1000000 in
theorem spoil_N (Bs : List Mem) (g : Nat → Nat) (h : Int) (dn : Bool) (fu : Int) (hP1 : ∀ i, i < 4 → PB Bs (g i)) : DFun Try.prog 25 [.agg (cG g h (.slm 3 0 []) dn fu)] [.fam Bs] (.tup []) [.gone] := by
  refine dcalls_go (N := 48) 1 (by kernel_rfl) Try.func25 rfl rfl rfl (by simp only [fr0, Nat.zero_add, Nat.reduceAdd]; exact rfl) rfl fun s0 hs0 => ?_
  refine dwp_seq ?_
  refine dwp_holes 1 (by simp only [holes, List.cons_append, List.nil_append]; exact rfl) ?_
  refine dwp_region ?_
  refine walk_w rfl rfl rfl (op_boxam 1 rfl (ev1 rfl) rfl) (by simp only [upd, List.set_cons_zero, List.set_cons_succ]; exact rfl) ?_
  refine walk_nil ?_
  refine dwp_seq ?_
  refine dwp_seq ?_
  refine dwp_region ?_
  refine walk_r rfl rfl rfl (op_fa rfl fo26_0 (ev1 rfl)) ?_
  refine walk_r rfl rfl rfl (op_ldmp rfl tb23 (ev1 rfl) rfl rfl rfl) ?_
  refine walk_r rfl rfl rfl (op_move (.inl rfl) (ev1 rfl)) ?_
  refine walk_nil ?_
  refine dwp_block ?_
  refine dwp_loopS ⟨hs0, rfl⟩ (α := Nat × List Mem) (fun x_ => [(10, .val (.int .i64 (x_.1 : Int)))]) [(1, _), (9, _)] (fun x_ => [(0, .fam x_.2)]) [.hole, _] (fun x_ => x_.1 ≤ 4 ∧ (∀ i, i < 4 → PB x_.2 (g i))) (fun x_ => 4 - x_.1) (0, Bs) [0, 1] (⟨Nat.zero_le _, hP1⟩) rfl ⟨rfl, rfl, trivial⟩ ⟨rfl, trivial⟩ ⟨rfl, rfl, trivial⟩ ?_
  intro x_ hx
  simp only [upd, List.set_cons_zero, List.set_cons_succ, List.cons_append, List.nil_append]
  obtain ⟨i, B⟩ := x_
  obtain ⟨g1, hP1⟩ := hx
  dsimp only at g1 hP1 ⊢
  refine dwp_seq ?_
  refine dwp_region ?_
  refine walk_r rfl rfl rfl (op_lss rfl (ev1 rfl) (ev1 rfl)) ?_
  refine walk_nil ?_
  refine dwp_seq ?_
  refine dwp_cond rfl (fun c1 => ?_) (fun c1 => ?_)
  · try simp only [decide_eq_true_eq, decide_eq_false_iff_not, beq_iff_eq, bne_iff_ne, beq_eq_false_iff_ne, bne_eq_false_iff_eq, Bool.not_eq_true', Bool.not_eq_false', Bool.and_eq_true, Bool.or_eq_true, Bool.or_eq_false_iff, ne_eq, Decidable.not_not, Int.not_lt, Int.not_le] at c1
    refine dwp_skip ?_
    refine dwp_seq ?_
    refine dwp_block ?_
    refine dwp_seq ?_
    have hi4 : i < 4 := by omega
    obtain ⟨b, hb, hbl⟩ := hP1 i hi4
    refine dwp_region ?_
    refine walk_r rfl rfl rfl (op_ixw (i) rfl aw23 (ev1 rfl) (ev1 rfl) (fun _ => rfl) (by omega) (cG4 (g := g) (h := h) (r := .slm 3 0 []) (dn := dn) (fu := fu) (by omega))) ?_
    refine walk_r rfl rfl rfl (op_move (.inr rfl) (ev1 rfl)) ?_
    refine walk_nil ?_
    refine dwp_seq ?_
    refine dwp_region ?_
    refine walk_r rfl rfl rfl (op_move (.inl rfl) (ev1 rfl)) ?_
    refine walk_r rfl rfl rfl (op_lenf rfl sl22 (ev1 rfl) rfl (hb)) ?_
    refine walk_r rfl rfl rfl (op_move (.inl rfl) (ev1 rfl)) ?_
    refine walk_nil ?_
    refine dwp_block ?_
    refine dwp_loopS ⟨hs0, rfl⟩ (α := Nat × List Mem × List Nat) (fun y_ => [(15, .val (.int .i64 (y_.1 : Int)))]) [(1, _), (3, _), (9, _), (10, _), (14, _)] (fun y_ => [(0, .fam y_.2.1)]) [.hole, _] (fun y_ => y_.1 ≤ b.length ∧ y_.2.1[g i]? = some (rowB y_.2.2) ∧ y_.2.2.length = b.length ∧ (∀ i, i < 4 → PB y_.2.1 (g i))) (fun y_ => b.length - y_.1) (0, B, b) [0, 1] (⟨Nat.zero_le _, hb, rfl, hP1⟩) rfl ⟨rfl, rfl, rfl, rfl, rfl, trivial⟩ ⟨rfl, trivial⟩ ⟨rfl, rfl, trivial⟩ ?_
    intro y_ hx
    simp only [upd, List.set_cons_zero, List.set_cons_succ, List.cons_append, List.nil_append]
    obtain ⟨j, C, q⟩ := y_
    obtain ⟨g3, g4, g5, g6⟩ := hx
    dsimp only at g3 g4 g5 g6 ⊢
    refine dwp_seq ?_
    refine dwp_region ?_
    refine walk_r rfl rfl rfl (op_lss rfl (ev1 rfl) (ev1 rfl)) ?_
    refine walk_nil ?_
    refine dwp_seq ?_
    refine dwp_cond rfl (fun c2 => ?_) (fun c2 => ?_)
    · try simp only [decide_eq_true_eq, decide_eq_false_iff_not, beq_iff_eq, bne_iff_ne, beq_eq_false_iff_ne, bne_eq_false_iff_eq, Bool.not_eq_true', Bool.not_eq_false', Bool.and_eq_true, Bool.or_eq_true, Bool.or_eq_false_iff, ne_eq, Decidable.not_not, Int.not_lt, Int.not_le] at c2
      refine dwp_skip ?_
      refine dwp_seq ?_
      refine dwp_block ?_
      refine dwp_seq ?_
      refine dwp_region ?_
      refine walk_r rfl rfl rfl (op_move (.inl rfl) (ev1 rfl)) ?_
      refine walk_r rfl rfl rfl (op_move (.inr rfl) (ev1 rfl)) ?_
      refine walk_nil ?_
      have hjq : j < q.length := by omega
      refine dwp_region ?_
      refine walk_r rfl rfl rfl (op_move (.inl rfl) (ev1 rfl)) ?_
      refine walk_r rfl rfl rfl (op_move (.inl rfl) (ev1 rfl)) ?_
      refine walk_r rfl rfl rfl (op_ixf (j) rfl sl22 (ev1 rfl) (ev1 rfl) rfl (g4) (fun _ => rfl) (fun _ => by omega)) ?_
      refine walk_r rfl rfl rfl (op_ldfe rfl tb5 (ev1 rfl) rfl (g4) (fun _ => rfl) (by omega) rfl) ?_
      refine walk_r rfl rfl rfl ((by rw [← wrap1]; exact op_add rfl (ev1 rfl) (ev1 rfl) : DOp _ _ _ _ _ _ (.val (.int .u8 (((q[j] + 1) % 256 : Nat) : Int))) _)) ?_
      refine walk_r rfl rfl rfl (op_ixf (j) rfl sl22 (ev1 rfl) (ev1 rfl) rfl (g4) (fun _ => rfl) (fun _ => by omega)) ?_
      refine walk_s rfl rfl (op_stfe ((q[j] + 1) % 256) rfl tb5 (ev1 rfl) (ev1 rfl) rfl (g4) rfl (fun _ => rfl) (by omega) rfl) (by simp only [upd, List.set_cons_zero, List.set_cons_succ]; exact rfl) ?_
      refine walk_nil ?_
      refine dwp_region ?_
      refine walk_r rfl rfl rfl (op_add' rfl (ev1 rfl) (ev1 rfl) (fun _ => IntWalk.i64_in _ (by omega))) ?_
      refine walk_r rfl rfl rfl (op_move (.inl rfl) (ev1 rfl)) ?_
      refine walk_nil ?_
      refine ⟨(j + 1, C.set (g i) (rowB (q.set j ((q[j]'hjq + 1) % 256))), q.set j ((q[j]'hjq + 1) % 256)), [0, 1], ⟨by omega, PB_at g4, by simp [g5], fun i hi => PB_set (g6 i hi) (by simp; omega)⟩, by simp only []; omega, rfl, ⟨rfl, rfl, rfl, rfl, rfl, rfl, trivial⟩, ⟨congrArg (fun b => some (Blk.fam b)) (by unfold rowB; simp), rfl, trivial⟩⟩
    · try simp only [decide_eq_true_eq, decide_eq_false_iff_not, beq_iff_eq, bne_iff_ne, beq_eq_false_iff_ne, bne_eq_false_iff_eq, Bool.not_eq_true', Bool.not_eq_false', Bool.and_eq_true, Bool.or_eq_true, Bool.or_eq_false_iff, ne_eq, Decidable.not_not, Int.not_lt, Int.not_le] at c2
      refine dwp_exit ?_
      refine dwp_region ?_
      refine walk_r rfl rfl rfl (op_add' rfl (ev1 rfl) (ev1 rfl) (fun _ => IntWalk.i64_in _ (by omega))) ?_
      refine walk_r rfl rfl rfl (op_move (.inl rfl) (ev1 rfl)) ?_
      refine walk_nil ?_
      refine ⟨(i + 1, C), [0, 1], ⟨by omega, g6⟩, by simp only []; omega, rfl, ⟨rfl, rfl, rfl, trivial⟩, ⟨rfl, rfl, trivial⟩⟩
  · try simp only [decide_eq_true_eq, decide_eq_false_iff_not, beq_iff_eq, bne_iff_ne, beq_eq_false_iff_ne, bne_eq_false_iff_eq, Bool.not_eq_true', Bool.not_eq_false', Bool.and_eq_true, Bool.or_eq_true, Bool.or_eq_false_iff, ne_eq, Decidable.not_not, Int.not_lt, Int.not_le] at c1
    refine dwp_gone 0 (by simp only [List.set_cons_zero, List.set_cons_succ]; exact rfl) ?_
    refine dwp_exit ?_
    refine dwp_seq ?_
    refine dwp_region ?_
    refine walk_r rfl rfl rfl (op_fa rfl fo26_2 (ev1 rfl)) ?_
    refine walk_r rfl rfl rfl (op_ldm rfl tb24 (ev1 rfl) rfl rfl) ?_
    refine walk_r rfl rfl rfl (op_lenm rfl sl24 (ev1 rfl)) ?_
    refine walk_r rfl rfl rfl (op_move (.inl rfl) (ev1 rfl)) ?_
    refine walk_nil ?_
    refine dwp_block ?_
    refine dwp_dloop (dloop_step ?_)
    refine dwp_seq ?_
    refine dwp_region ?_
    refine walk_r rfl rfl rfl (op_lss rfl (ev1 rfl) (ev1 rfl)) ?_
    refine walk_nil ?_
    refine dwp_seq ?_
    refine dwp_if_f rfl (rfl) ?_
    refine dwp_exit ?_
    refine kend [0] (res_none rfl) rfl rfl ?_ ⟨?_, trivial⟩
    rfl
    all_goals exact rfl
set_option maxRecDepth 4000 in
set_option maxHeartbeats 1000000 in
theorem spoil_D : DFun Try.prog 25 [zDk.d] [] (.tup []) [] := by
  refine dcalls_go (N := 48) 0 (by kernel_rfl) Try.func25 rfl rfl rfl (by simp only [fr0, Nat.zero_add, Nat.reduceAdd]; exact rfl) rfl fun s0 hs0 => ?_
  refine dwp_seq ?_
  refine dwp_region ?_
  refine walk_r rfl rfl rfl (op_boxf rfl rfl (ev1 rfl)) ?_
  refine walk_nil ?_
  refine dwp_seq ?_
  refine dwp_seq ?_
  refine dwp_region ?_
  refine walk_r rfl rfl rfl (op_fadm rfl fo26_0 (ev1 rfl)) ?_
  refine walk_r rfl rfl rfl (op_lddr rfl tb23 (ev1 rfl) rfl rfl) ?_
  refine walk_r rfl rfl rfl (op_move (.inl rfl) (ev1 rfl)) ?_
  refine walk_nil ?_
  refine dwp_block ?_
  refine dwp_loopS ⟨hs0, rfl⟩ (α := Nat) (fun i => [(10, .val (.int .i64 (i : Int)))]) [(1, _), (9, _)] (fun i => []) [] (fun i => i ≤ 4) (fun i => 4 - i) 0 [] (by simp) rfl ⟨rfl, rfl, trivial⟩ ⟨rfl, trivial⟩ trivial ?_
  intro i hx
  simp only [upd, List.set_cons_zero, List.set_cons_succ, List.cons_append, List.nil_append]
  have hi := hx
  refine dwp_seq ?_
  refine dwp_region ?_
  refine walk_r rfl rfl rfl (op_lss rfl (ev1 rfl) (ev1 rfl)) ?_
  refine walk_nil ?_
  refine dwp_seq ?_
  refine dwp_cond rfl (fun c1 => ?_) (fun c1 => ?_)
  · try simp only [decide_eq_true_eq, decide_eq_false_iff_not, beq_iff_eq, bne_iff_ne, beq_eq_false_iff_ne, bne_eq_false_iff_eq, Bool.not_eq_true', Bool.not_eq_false', Bool.and_eq_true, Bool.or_eq_true, Bool.or_eq_false_iff, ne_eq, Decidable.not_not, Int.not_lt, Int.not_le] at c1
    refine dwp_skip ?_
    refine dwp_seq ?_
    refine dwp_block ?_
    refine dwp_seq ?_
    refine dwp_region ?_
    refine walk_r rfl rfl rfl (op_ixw (i) rfl aw23 (ev1 rfl) (ev1 rfl) (fun _ => rfl) (by omega) (zD4 (by omega))) ?_
    refine walk_r rfl rfl rfl (op_move (.inr rfl) (ev1 rfl)) ?_
    refine walk_nil ?_
    refine dwp_seq ?_
    refine dwp_region ?_
    refine walk_r rfl rfl rfl (op_move (.inl rfl) (ev1 rfl)) ?_
    refine walk_r rfl rfl rfl (op_len rfl sl22 (ev1 rfl)) ?_
    refine walk_r rfl rfl rfl (op_move (.inl rfl) (ev1 rfl)) ?_
    refine walk_nil ?_
    refine dwp_block ?_
    refine dwp_dloop (dloop_step ?_)
    refine dwp_seq ?_
    refine dwp_region ?_
    refine walk_r rfl rfl rfl (op_lss rfl (ev1 rfl) (ev1 rfl)) ?_
    refine walk_nil ?_
    refine dwp_seq ?_
    refine dwp_if_f rfl (rfl) ?_
    refine dwp_exit ?_
    refine dwp_region ?_
    refine walk_r rfl rfl rfl (op_add' rfl (ev1 rfl) (ev1 rfl) (fun _ => IntWalk.i64_in _ (by omega))) ?_
    refine walk_r rfl rfl rfl (op_move (.inl rfl) (ev1 rfl)) ?_
    refine walk_nil ?_
    refine ⟨i + 1, [], by omega, by simp only []; omega, rfl, ⟨rfl, rfl, rfl, trivial⟩, trivial⟩
  · try simp only [decide_eq_true_eq, decide_eq_false_iff_not, beq_iff_eq, bne_iff_ne, beq_eq_false_iff_ne, bne_eq_false_iff_eq, Bool.not_eq_true', Bool.not_eq_false', Bool.and_eq_true, Bool.or_eq_true, Bool.or_eq_false_iff, ne_eq, Decidable.not_not, Int.not_lt, Int.not_le] at c1
    refine dwp_exit ?_
    refine dwp_seq ?_
    refine dwp_region ?_
    refine walk_r rfl rfl rfl (op_fadm rfl fo26_2 (ev1 rfl)) ?_
    refine walk_r rfl rfl rfl (op_lddm rfl tb24 (ev1 rfl) rfl) ?_
    refine walk_r rfl rfl rfl (op_lenm rfl sl24 (ev1 rfl)) ?_
    refine walk_r rfl rfl rfl (op_move (.inl rfl) (ev1 rfl)) ?_
    refine walk_nil ?_
    refine dwp_block ?_
    refine dwp_dloop (dloop_step ?_)
    refine dwp_seq ?_
    refine dwp_region ?_
    refine walk_r rfl rfl rfl (op_lss rfl (ev1 rfl) (ev1 rfl)) ?_
    refine walk_nil ?_
    refine dwp_seq ?_
    refine dwp_if_f rfl (rfl) ?_
    refine dwp_exit ?_
    refine kend0 (res_none rfl) rfl ?_
    rfl
end Go.Proofs.Ytjecmkaggobcjaa

namespace Go.Proofs.Ytjecmkaggobcjaa
set_option linter.unusedVariables false
set_option linter.unusedSimpArgs false
open Go.RowKit
theorem mayO_fl {o : DOpn} (h : mayO o = true) : 0 ≤ o.fl ∧ o.fl < 4 := by
  by_cases k4 : o.kd = 4
  · unfold mayO at h
    simp only [Bool.or_eq_true, Bool.and_eq_true, beq_iff_eq] at h
    rcases h with h | h
    · exact (mayW_in h).2
    · omega
  · exact (mayW_in (mayO_w h k4)).2
theorem doS_0 {d : DkS} {o : DOpn} (h : opE d o = 0) : doS d o = okS d o := by unfold doS; rw [if_pos h]
theorem doS_9 {d : DkS} {o : DOpn} (h : opE d o = 321) : doS d o = dnS d := by unfold doS; rw [if_neg (by rw [h]; decide), if_pos h]
theorem doS_z {d : DkS} {o : DOpn} (h : opE d o ≠ 0) (h9 : opE d o ≠ 321) : doS d o = zDk := by unfold doS; rw [if_neg h, if_neg h9]
theorem dnS_id {d : DkS} (h : d.dn = true) : dnS d = d := by
  obtain ⟨f, g, w, dn, fu⟩ := d
  obtain rfl : dn = true := h
  rfl
theorem okS_4 {d : DkS} {o : DOpn} (h : o.kd = 4) : okS d o = ⟨seF d.f d.w, seH d.h d.w, [], d.dn, fuB d.fu⟩ := by unfold okS; rw [if_pos h]
theorem okS_n {d : DkS} {o : DOpn} (h : o.kd ≠ 4) : okS d o = ⟨d.f, d.h, d.w ++ [o], d.dn, fuB d.fu⟩ := by unfold okS; rw [if_neg h]
theorem rfull {d : DkS} {o : DOpn} (hd : d.ok) (m : mayO o = true) : (decide (o.kd < 4) && (((d.w.length : Int) == 4096) || decide ((4194304 : Int) < ((seF d.f d.w o.fl.toNat).length : Int) + (o.b.length : Int)))) = decide (o.kd ≠ 4 ∧ fullB d o = true) := by
  obtain ⟨h1, h2, h3, h4⟩ := chk_parts hd
  have hw := (chk0_parts h1).2.2.2
  have hf := mayO_fl m
  have hs : (seF d.f d.w o.fl.toNat).length = (afts (szs d.f) d.w).getD o.fl.toNat 0 := seF_len h3 (by omega)
  have hx := afts_max h2 h4 d.w.length (Nat.le_refl _) o.fl.toNat
  rw [List.take_length] at hx
  rw [hs]
  by_cases k4 : o.kd = 4
  · rw [decide_eq_false (show ¬ o.kd < 4 by omega), decide_eq_false (show ¬ (o.kd ≠ 4 ∧ fullB d o = true) from fun h => h.1 k4)]; rfl
  · have hm := mayO_w m k4
    have hk := (mayW_in hm).1
    rw [decide_eq_true (show o.kd < 4 by omega), Bool.true_and]
    have e2 : decide (o.kd ≠ 4 ∧ fullB d o = true) = fullB d o := by
      cases e : fullB d o with
      | true => exact decide_eq_true ⟨k4, rfl⟩
      | false => exact decide_eq_false fun h => by cases h.2
    rw [e2]
    unfold fullB
    by_cases k1 : o.kd = 1
    · rw [decide_eq_true k1, Bool.true_and, Bool.or_comm]
      congr 1
      · exact decide_eq_decide.2 (by omega)
      · by_cases e : d.w.length = 4096
        · rw [decide_eq_false (show ¬ d.w.length < 4096 by omega), e]; rfl
        · rw [decide_eq_true (show d.w.length < 4096 by omega)]
          have : ((d.w.length : Int) == 4096) = false := by rw [beq_eq_false_iff_ne]; omega
          rw [this]; rfl
    · have hb0 := len0 hm k1
      have e3 : decide ((4194304 : Int) < (((afts (szs d.f) d.w).getD o.fl.toNat 0 : Nat) : Int) + (o.b.length : Int)) = false := decide_eq_false (by omega)
      rw [decide_eq_false k1, Bool.false_and, Bool.false_or, e3, Bool.or_false]
      by_cases e : d.w.length = 4096
      · rw [decide_eq_false (show ¬ d.w.length < 4096 by omega), e]; rfl
      · rw [decide_eq_true (show d.w.length < 4096 by omega)]
        rw [beq_eq_false_iff_ne.2 (show (d.w.length : Int) ≠ 4096 by omega)]; rfl
theorem fcell' {f : Nat → List Nat} {h : Int} {w : List DOpn} {dn : Bool} {fu : Int} {i : Nat} (hi : i < 4) : (List.take 4 (List.drop 0 (dD f h w dn fu)))[i]? = some (rB (f i)) := by
  have : i = 0 ∨ i = 1 ∨ i = 2 ∨ i = 3 := by omega
  rcases this with rfl | rfl | rfl | rfl <;> rfl
theorem opE_2 {d : DkS} {o : DOpn} (m : mayO o = false) : opE d o = 2 := by unfold opE; rw [if_pos m]
theorem opE_dn {d : DkS} {o : DOpn} (m : mayO o = true) (h : d.dn = true) : opE d o = 321 := by unfold opE; rw [if_neg (by rw [m]; decide), if_pos h]
theorem opE_6 {d : DkS} {o : DOpn} (m : mayO o = true) (h : d.dn = false) (hf : o.kd ≠ 4 ∧ fullB d o = true) : opE d o = 6 := by unfold opE; rw [if_neg (by rw [m]; decide), if_neg (by rw [h]; decide), if_pos hf]
theorem opE_1 {d : DkS} {o : DOpn} (m : mayO o = true) (h : d.dn = false) (hf : ¬ (o.kd ≠ 4 ∧ fullB d o = true)) (h1 : d.fu = 1) : opE d o = 321 := by unfold opE; rw [if_neg (by rw [m]; decide), if_neg (by rw [h]; decide), if_neg hf, if_pos h1]
theorem opE_k {d : DkS} {o : DOpn} (m : mayO o = true) (h : d.dn = false) (hf : ¬ (o.kd ≠ 4 ∧ fullB d o = true)) (h1 : d.fu ≠ 1) : opE d o = 0 := by unfold opE; rw [if_neg (by rw [m]; decide), if_neg (by rw [h]; decide), if_neg hf, if_neg h1]
theorem nlL_row (w : List DOpn) (o : DOpn) : D.nlL ([] ++ w.flatMap oD ++ oD o) = true := by
  rw [List.nil_append]
  exact nlL_app' (ol_nl w) (oD_nl o)
set_option maxRecDepth 4000 in
set_option maxHeartbeats 1000000 in
theorem rdo_d (d : DkS) (o : DOpn) (hd : d.ok) (hob : o.b.length ≤ 10000000) : DFun Try.prog 24 [.agg (dD d.f d.h d.w d.dn d.fu), .agg (oD o)] [] (.tup [(doS d o).d, .val (.int .i64 (opE d o))]) [] := by
  refine dcalls_go (N := 70) 0 (by kernel_rfl) Try.func24 rfl rfl rfl (by simp only [fr0, Nat.zero_add, Nat.reduceAdd]; exact rfl) rfl fun s0 hs0 => ?_
  refine dwp_seq ?_
  refine dwp_holes 2 (by simp only [holes, List.cons_append, List.nil_append]; exact rfl) ?_
  refine dwp_region ?_
  refine walk_w rfl rfl rfl (op_boxam 0 rfl (ev1 rfl) rfl) (by simp only [upd, List.set_cons_zero, List.set_cons_succ]; exact rfl) ?_
  refine walk_r rfl rfl rfl (op_boxf rfl rfl (ev1 rfl)) ?_
  refine walk_w rfl rfl rfl (op_alloc 1 rfl zr26 rfl) (by simp only [upd, List.set_cons_zero, List.set_cons_succ]; exact rfl) ?_
  refine walk_r rfl rfl rfl (op_move (.inr rfl) (ev1 rfl)) ?_
  refine walk_nil ?_
  refine dwp_seq ?_
  refine dwp_block ?_
  refine dwp_seq ?_
  refine dwp_region ?_
  refine walk_r rfl rfl rfl (op_lddr rfl tb44 (ev1 rfl) rfl rfl) ?_
  refine walk_r rfl rfl rfl (dop_call [] [] [] rfl (ev1 rfl) (ec (ev1 rfl) en) rfl rfl (rop_d o) rfl rfl rfl rfl rfl rfl) ?_
  refine walk_r rfl rfl rfl (op_not rfl (ev1 rfl)) ?_
  refine walk_r rfl rfl rfl (op_move (.inr rfl) (ev1 rfl)) ?_
  refine walk_nil ?_
  refine dwp_cond rfl (fun c1_ => ?_) (fun c1_ => ?_)
  · have m : mayO o = false := by simpa using c1_
    refine dwp_seq ?_
    refine dwp_region ?_
    refine walk_r rfl rfl rfl ((op_build0 rfl fl26 zr26).wk wk_z0) ?_
    refine walk_s rfl rfl (op_stam rfl tb26 (ev1 rfl) (ev1 rfl) rfl rfl rfl rfl) (by simp only [upd, List.set_cons_zero, List.set_cons_succ]; exact rfl) ?_
    refine walk_r rfl rfl rfl (op_move (.inr rfl) (ev1 rfl)) ?_
    refine walk_nil ?_
    refine dwp_ret ?_
    refine kend0 (rs2 rfl (rv_mw tb26 rfl rfl rfl) (rv_t rfl)) rfl ?_
    rw [doS_z (by rw [opE_2 m]; decide) (by rw [opE_2 m]; decide), opE_2 m]
    rfl
  · have m : mayO o = true := by simpa using c1_
    have hfl := mayO_fl m
    obtain ⟨p1, p2, p3, p4⟩ := chk_parts hd
    obtain ⟨g1, g2, g3, g4⟩ := chk0_parts p1
    have hmx := afts_max p2 p4 d.w.length (Nat.le_refl _) o.fl.toNat
    rw [List.take_length, ← seF_len p3 (show o.fl.toNat < 4 by omega)] at hmx
    refine dwp_seq ?_
    refine dwp_region ?_
    refine walk_r rfl rfl rfl (op_fa rfl fo26_3 (ev1 rfl)) ?_
    refine walk_r rfl rfl rfl (op_ldm rfl tb4 (ev1 rfl) rfl rfl) ?_
    refine walk_r rfl rfl rfl (op_move (.inr rfl) (ev1 rfl)) ?_
    refine walk_nil ?_
    refine dwp_cond rfl (fun c2_ => ?_) (fun c2_ => ?_)
    · have hdn : d.dn = true := c2_
      refine dwp_seq ?_
      refine dwp_region ?_
      refine walk_r rfl rfl rfl (op_ldmw rfl tb26 (ev1 rfl) rfl rfl) ?_
      refine walk_s rfl rfl (op_stam rfl tb26 (ev1 rfl) (ev1 rfl) rfl rfl rfl rfl) (by simp only [upd, List.set_cons_zero, List.set_cons_succ]; exact rfl) ?_
      refine walk_r rfl rfl rfl (op_move (.inr rfl) (ev1 rfl)) ?_
      refine walk_nil ?_
      refine dwp_ret ?_
      refine kend0 (rs2 rfl (rv_mw tb26 rfl rfl rfl) (rv_t rfl)) rfl ?_
      rw [doS_9 (opE_dn m hdn), opE_dn m hdn, dnS_id hdn]
      rfl
    · have hdn : d.dn = false := c2_
      refine dwp_seq ?_
      refine dwp_draw [([], []), ([], []), ([], []), ([], []), ([], []), ([0], []), ([], []), ([], []), ([], []), ([0], []), ([], []), ([], []), ([], []), ([], []), ([], []), ([], []), ([], []), ([], []), ([], []), ([], []), ([], []), ([], []), ([], []), ([], [])] mixed (by kernel_rfl) ?_
      refine lex_r rfl rfl (op_fadm rfl fo44_0 (ev1 rfl)) ?_
      refine lex_r rfl rfl (op_lddm rfl tb3 (ev1 rfl) rfl) ?_
      refine lex_r rfl rfl (op_lss rfl (ev1 rfl) (ev1 rfl)) ?_
      refine lex_r rfl rfl (op_move (.inl rfl) (ev1 rfl)) ?_
      refine lex_gr (gd_t rfl rfl rfl) rfl rfl (op_fa rfl fo26_2 (ev1 rfl)) ?_
      refine lex_gr (gd_t rfl rfl rfl) rfl rfl (op_ldm rfl tb24 (ev2 rfl) rfl rfl) ?_
      refine lex_gr (gd_t rfl rfl rfl) rfl rfl (op_lenm rfl sl24 (ev2 rfl)) ?_
      refine lex_gr (gd_t rfl rfl rfl) rfl rfl (op_eql rfl (ev2 rfl) (ev1 rfl)) ?_
      refine lex_gr (gd_t rfl rfl rfl) rfl rfl (op_move (.inl rfl) (ev2 rfl)) ?_
      refine lex_gr (gd_ff rfl rfl rfl) rfl rfl (op_ldmw rfl tb26 (ev1 rfl) rfl rfl) ?_
      refine lex_gr (gd_ff rfl rfl rfl) rfl rfl (dop_call [] [] [] rfl (ev1 rfl) (ec (ev2 rfl) en) rfl rfl (rseen_d d.f d.h d.w d.dn (d.fu) (chk_parts hd).2.2.1 (few_of hd)) rfl rfl rfl rfl rfl rfl) ?_
      refine lex_gr (gd_ff rfl rfl rfl) rfl rfl (op_fdr rfl fp26_0 (ev2 rfl) (Nat.le_of_ble_eq_true rfl)) ?_
      refine lex_gr (gd_ff rfl rfl rfl) rfl rfl (op_fadm rfl fo44_1 (ev1 rfl)) ?_
      refine lex_gr (gd_ff rfl rfl rfl) rfl rfl (op_lddm rfl tb3 (ev2 rfl) rfl) ?_
      refine lex_gr (gd_ff rfl rfl rfl) rfl rfl (op_ixw (o.fl.toNat) rfl aw23 (ev2 rfl) (ev2 rfl) (fun _ => by omega) (by omega) (fcell' (by omega))) ?_
      refine lex_gr (gd_ff rfl rfl rfl) rfl rfl (op_len rfl sl22 (ev2 rfl)) ?_
      refine lex_gr (gd_ff rfl rfl rfl) rfl rfl (op_fadm rfl fo44_2 (ev1 rfl)) ?_
      refine lex_gr (gd_ff rfl rfl rfl) rfl rfl (op_lddm rfl tb22 (ev2 rfl) rfl) ?_
      refine lex_gr (gd_ff rfl rfl rfl) rfl rfl (op_len rfl sl22 (ev2 rfl)) ?_
      refine lex_gr (gd_ff rfl rfl rfl) rfl rfl (op_add' rfl (ev2 rfl) (ev2 rfl) (fun hp => IntWalk.i64_in _ (by first | omega | (simp at hp; omega)))) ?_
      refine lex_gr (gd_ff rfl rfl rfl) rfl rfl (op_gtr rfl (ev2 rfl) (ev1 rfl)) ?_
      refine lex_gr (gd_t rfl rfl rfl) rfl rfl (op_or rfl (ev2 rfl) (ev2 rfl)) ?_
      refine lex_r rfl rfl (op_and rfl (ev1 rfl) (ev3 rfl id)) ?_
      refine lex_r rfl rfl (op_move (.inr rfl) (ev1 rfl)) ?_
      refine lex_nil ?_
      refine dwp_cond rfl (fun c3_ => ?_) (fun c3_ => ?_)
      · have hfu := of_decide_eq_true ((rfull hd m).symm.trans c3_)
        refine dwp_seq ?_
        refine dwp_region ?_
        refine walk_r rfl rfl rfl ((op_build0 rfl fl26 zr26).wk wk_z0) ?_
        refine walk_s rfl rfl (op_stam rfl tb26 (ev1 rfl) (ev1 rfl) rfl rfl rfl rfl) (by simp only [upd, List.set_cons_zero, List.set_cons_succ]; exact rfl) ?_
        refine walk_r rfl rfl rfl (op_move (.inr rfl) (ev1 rfl)) ?_
        refine walk_nil ?_
        refine dwp_ret ?_
        refine kend0 (rs2 rfl (rv_mw tb26 rfl rfl rfl) (rv_t rfl)) rfl ?_
        rw [doS_z (by rw [opE_6 m hdn hfu]; decide) (by rw [opE_6 m hdn hfu]; decide), opE_6 m hdn hfu]
        rfl
      · have hfu := of_decide_eq_false ((rfull hd m).symm.trans c3_)
        refine dwp_seq ?_
        refine dwp_region ?_
        refine walk_r rfl rfl rfl (op_fa rfl fo26_4 (ev1 rfl)) ?_
        refine walk_r rfl rfl rfl (op_ldm rfl tb3 (ev1 rfl) rfl rfl) ?_
        refine walk_r rfl rfl rfl (op_eql rfl (ev1 rfl) (ev1 rfl)) ?_
        refine walk_r rfl rfl rfl (op_move (.inr rfl) (ev1 rfl)) ?_
        refine walk_nil ?_
        refine dwp_cond rfl (fun c4_ => ?_) (fun c4_ => ?_)
        · have h1 : d.fu = 1 := by simpa using c4_
          refine dwp_seq ?_
          refine dwp_region ?_
          refine walk_r rfl rfl rfl (op_fa rfl fo26_3 (ev1 rfl)) ?_
          refine walk_s rfl rfl (op_stm rfl tb4 (ev1 rfl) (ev1 rfl) (fun s v h => by cases h <;> exact ⟨rfl, rfl⟩) rfl (by first | decide | exact Nat.le_of_ble_eq_true rfl | simp)) (by simp only [upd, List.set_cons_zero, List.set_cons_succ]; exact rfl) ?_
          refine walk_r rfl rfl rfl (op_fa rfl fo26_4 (ev1 rfl)) ?_
          refine walk_s rfl rfl (op_stm rfl tb3 (ev1 rfl) (ev1 rfl) (fun s v h => by cases h <;> exact ⟨rfl, rfl⟩) rfl (by first | decide | exact Nat.le_of_ble_eq_true rfl | simp)) (by simp only [upd, List.set_cons_zero, List.set_cons_succ]; exact rfl) ?_
          refine walk_nil ?_
          refine dwp_seq ?_
          refine dwp_region ?_
          refine walk_r rfl rfl rfl (op_ldmw rfl tb26 (ev1 rfl) rfl rfl) ?_
          refine walk_s rfl rfl (op_stam rfl tb26 (ev1 rfl) (ev1 rfl) rfl rfl rfl rfl) (by simp only [upd, List.set_cons_zero, List.set_cons_succ]; exact rfl) ?_
          refine walk_r rfl rfl rfl (op_move (.inr rfl) (ev1 rfl)) ?_
          refine walk_nil ?_
          refine dwp_ret ?_
          refine kend0 (rs2 rfl (rv_mw tb26 rfl rfl rfl) (rv_t rfl)) rfl ?_
          rw [doS_9 (opE_1 m hdn hfu h1), opE_1 m hdn hfu h1, show dnS d = ⟨d.f, d.h, d.w, true, 0⟩ by unfold dnS; rw [if_neg (by rw [hdn]; decide)]]
          rfl
        · have h1 : d.fu ≠ 1 := by simpa using c4_
          have he := opE_k m hdn hfu h1
          refine dwp_skip ?_
          refine dwp_seq ?_
          refine dwp_seq ?_
          refine dwp_region ?_
          refine walk_r rfl rfl rfl (op_fa rfl fo26_4 (ev1 rfl)) ?_
          refine walk_r rfl rfl rfl (op_ldm rfl tb3 (ev1 rfl) rfl rfl) ?_
          refine walk_r rfl rfl rfl (op_gtr rfl (ev1 rfl) (ev1 rfl)) ?_
          refine walk_nil ?_
          refine dwp_cond rfl (fun c5_ => ?_) (fun c5_ => ?_)
          · have hfb : fuB d.fu = d.fu - 1 := by have := of_decide_eq_true c5_; unfold fuB; split <;> omega
            refine dwp_region ?_
            refine walk_r rfl rfl rfl (op_fa rfl fo26_4 (ev1 rfl)) ?_
            refine walk_r rfl rfl rfl (op_ldm rfl tb3 (ev1 rfl) rfl rfl) ?_
            refine walk_r rfl rfl rfl (op_sub' rfl (ev1 rfl) (ev1 rfl) (fun _ => IntWalk.i64_in _ (by omega))) ?_
            refine walk_r rfl rfl rfl (op_fa rfl fo26_4 (ev1 rfl)) ?_
            refine walk_s rfl rfl (op_stm rfl tb3 (ev1 rfl) (ev1 rfl) (fun s v h => by cases h <;> exact ⟨rfl, rfl⟩) rfl (by first | decide | exact Nat.le_of_ble_eq_true rfl | simp)) (by simp only [upd, List.set_cons_zero, List.set_cons_succ]; exact rfl) ?_
            refine walk_nil ?_
            refine dwp_seq ?_
            refine dwp_seq ?_
            refine dwp_region ?_
            refine walk_r rfl rfl rfl (op_fadm rfl fo44_0 (ev1 rfl)) ?_
            refine walk_r rfl rfl rfl (op_lddm rfl tb3 (ev1 rfl) rfl) ?_
            refine walk_r rfl rfl rfl (op_eql rfl (ev1 rfl) (ev1 rfl)) ?_
            refine walk_nil ?_
            refine dwp_cond rfl (fun c6_ => ?_) (fun c6_ => ?_)
            · have k4 : o.kd = 4 := by simpa using c6_
              refine dwp_seq ?_
              refine dwp_region ?_
              refine walk_r rfl rfl rfl (op_ldmw rfl tb26 (ev1 rfl) rfl rfl) ?_
              refine walk_r rfl rfl rfl (dop_call [] [] [] rfl (ev1 rfl) (ec (ev1 rfl) en) rfl rfl (rseen_d d.f d.h d.w d.dn (d.fu - 1) (chk_parts hd).2.2.1 (few_of hd)) rfl rfl rfl rfl rfl rfl) ?_
              refine walk_s rfl rfl (op_stmw rfl tb26 (ev1 rfl) (ev1 rfl) rfl rfl rfl rfl) (by simp only [upd, List.set_cons_zero, List.set_cons_succ]; exact rfl) ?_
              refine walk_nil ?_
              refine dwp_seq ?_
              refine dwp_region ?_
              refine walk_r rfl rfl rfl (op_fa rfl fo26_2 (ev1 rfl)) ?_
              refine walk_s rfl rfl (op_stm rfl tb24 (ev1 rfl) (evwk (ev1 rfl) (Wk.slm0 3)) (fun s v h => by cases h <;> exact ⟨rfl, rfl⟩) rfl (Nat.le_of_ble_eq_true rfl)) (by simp only [upd, List.set_cons_zero, List.set_cons_succ]; exact rfl) ?_
              refine walk_nil ?_
              refine dwp_seq ?_
              refine dwp_region ?_
              refine walk_r rfl rfl rfl (op_ldmw rfl tb26 (ev1 rfl) rfl rfl) ?_
              refine walk_s rfl rfl (op_stam rfl tb26 (ev1 rfl) (ev1 rfl) rfl rfl rfl rfl) (by simp only [upd, List.set_cons_zero, List.set_cons_succ]; exact rfl) ?_
              refine walk_r rfl rfl rfl (op_move (.inr rfl) (ev1 rfl)) ?_
              refine walk_nil ?_
              refine dwp_ret ?_
              refine kend0 (rs2 rfl (rv_mw tb26 rfl rfl rfl) (rv_t rfl)) rfl ?_
              rw [doS_0 he, he, okS_4 k4, hfb]
              rfl
            · have k4 : o.kd ≠ 4 := by simpa using c6_
              refine dwp_skip ?_
              refine dwp_seq ?_
              refine dwp_holes 3 (by simp only [holes, List.cons_append, List.nil_append]; exact rfl) ?_
              refine dwp_draw [([2], [2]), ([], []), ([0], []), ([2, 3], [2, 3]), ([], []), ([], []), ([3, 4], [3, 4]), ([], []), ([0], [0])] mixed (by kernel_rfl) ?_
              refine lex_w rfl rfl (op_bsxs (ps := []) 2 rfl sl24 zr44 rfl en rfl rfl rfl rfl (by decide) (by decide) rfl) rfl (by simp only [upd, List.set_cons_zero, List.set_cons_succ]; exact rfl) ?_
              refine lex_r rfl rfl (op_fa rfl fo26_2 (ev1 rfl)) ?_
              refine lex_r rfl rfl (op_ldm rfl tb24 (ev1 rfl) rfl rfl) ?_
              refine lex_w rfl rfl (op_appr (j := 3) rfl sl24 zr44 rfl (ev1 rfl) (ev1 rfl) rfl rfl (ol_oc _) (fun _ => ⟨by omega, by omega⟩)) rfl (by simp only [upd, List.set_cons_zero, List.set_cons_succ]; exact rfl) ?_
              refine lex_r rfl rfl (op_lddr rfl tb44 (ev1 rfl) rfl rfl) ?_
              refine lex_r rfl rfl (op_bsr (ps := [(0, .tmp 65)]) rfl sl24 zr44 rfl (ec (ev1 rfl) en) rfl rfl rfl (by rfl) rfl (by decide) (by decide)) ?_
              refine lex_w rfl rfl ((op_appr (j := 4) rfl sl24 zr44 rfl (ev1 rfl) (ev1 rfl) rfl rfl (oD_oc _) (fun _ => ⟨by omega, by omega⟩)).giveX2 (nlL_row _ _) rfl rfl) rfl (by simp only [upd, List.set_cons_zero, List.set_cons_succ]; exact rfl) ?_
              refine lex_r rfl rfl (op_fa rfl fo26_2 (ev1 rfl)) ?_
              refine lex_s rfl rfl (op_stm rfl tb24 (ev1 rfl) (ev1 rfl) (fun s v h => by cases h <;> exact ⟨rfl, rfl⟩) rfl (by first | decide | exact Nat.le_of_ble_eq_true rfl | simp)) rfl (by simp only [upd, List.set_cons_zero, List.set_cons_succ]; exact rfl) ?_
              refine lex_nil ?_
              refine dwp_seq ?_
              rw [show (0 + d.w.length + 1) = (d.w ++ [o]).length by simp, show ([] ++ d.w.flatMap oD ++ oD o) = (d.w ++ [o]).flatMap oD by simp]
              refine dwp_region ?_
              refine walk_r rfl rfl rfl (op_ldmw rfl tb26 (ev1 rfl) rfl rfl) ?_
              refine walk_s rfl rfl (op_stam rfl tb26 (ev1 rfl) (ev1 rfl) rfl rfl rfl rfl) (by simp only [upd, List.set_cons_zero, List.set_cons_succ]; exact rfl) ?_
              refine walk_r rfl rfl rfl (op_move (.inr rfl) (ev1 rfl)) ?_
              refine walk_nil ?_
              refine dwp_ret ?_
              refine kend0 (rs2 rfl (rv_mw tb26 rfl rfl rfl) (rv_t rfl)) rfl ?_
              rw [doS_0 he, he, okS_n k4, hfb]
              rfl
          · have hfb : fuB d.fu = d.fu := by have := of_decide_eq_false c5_; unfold fuB; split <;> omega
            refine dwp_skip ?_
            refine dwp_seq ?_
            refine dwp_seq ?_
            refine dwp_region ?_
            refine walk_r rfl rfl rfl (op_fadm rfl fo44_0 (ev1 rfl)) ?_
            refine walk_r rfl rfl rfl (op_lddm rfl tb3 (ev1 rfl) rfl) ?_
            refine walk_r rfl rfl rfl (op_eql rfl (ev1 rfl) (ev1 rfl)) ?_
            refine walk_nil ?_
            refine dwp_cond rfl (fun c6_ => ?_) (fun c6_ => ?_)
            · have k4 : o.kd = 4 := by simpa using c6_
              refine dwp_seq ?_
              refine dwp_region ?_
              refine walk_r rfl rfl rfl (op_ldmw rfl tb26 (ev1 rfl) rfl rfl) ?_
              refine walk_r rfl rfl rfl (dop_call [] [] [] rfl (ev1 rfl) (ec (ev1 rfl) en) rfl rfl (rseen_d d.f d.h d.w d.dn (d.fu) (chk_parts hd).2.2.1 (few_of hd)) rfl rfl rfl rfl rfl rfl) ?_
              refine walk_s rfl rfl (op_stmw rfl tb26 (ev1 rfl) (ev1 rfl) rfl rfl rfl rfl) (by simp only [upd, List.set_cons_zero, List.set_cons_succ]; exact rfl) ?_
              refine walk_nil ?_
              refine dwp_seq ?_
              refine dwp_region ?_
              refine walk_r rfl rfl rfl (op_fa rfl fo26_2 (ev1 rfl)) ?_
              refine walk_s rfl rfl (op_stm rfl tb24 (ev1 rfl) (evwk (ev1 rfl) (Wk.slm0 3)) (fun s v h => by cases h <;> exact ⟨rfl, rfl⟩) rfl (Nat.le_of_ble_eq_true rfl)) (by simp only [upd, List.set_cons_zero, List.set_cons_succ]; exact rfl) ?_
              refine walk_nil ?_
              refine dwp_seq ?_
              refine dwp_region ?_
              refine walk_r rfl rfl rfl (op_ldmw rfl tb26 (ev1 rfl) rfl rfl) ?_
              refine walk_s rfl rfl (op_stam rfl tb26 (ev1 rfl) (ev1 rfl) rfl rfl rfl rfl) (by simp only [upd, List.set_cons_zero, List.set_cons_succ]; exact rfl) ?_
              refine walk_r rfl rfl rfl (op_move (.inr rfl) (ev1 rfl)) ?_
              refine walk_nil ?_
              refine dwp_ret ?_
              refine kend0 (rs2 rfl (rv_mw tb26 rfl rfl rfl) (rv_t rfl)) rfl ?_
              rw [doS_0 he, he, okS_4 k4, hfb]
              rfl
            · have k4 : o.kd ≠ 4 := by simpa using c6_
              refine dwp_skip ?_
              refine dwp_seq ?_
              refine dwp_holes 3 (by simp only [holes, List.cons_append, List.nil_append]; exact rfl) ?_
              refine dwp_draw [([2], [2]), ([], []), ([0], []), ([2, 3], [2, 3]), ([], []), ([], []), ([3, 4], [3, 4]), ([], []), ([0], [0])] mixed (by kernel_rfl) ?_
              refine lex_w rfl rfl (op_bsxs (ps := []) 2 rfl sl24 zr44 rfl en rfl rfl rfl rfl (by decide) (by decide) rfl) rfl (by simp only [upd, List.set_cons_zero, List.set_cons_succ]; exact rfl) ?_
              refine lex_r rfl rfl (op_fa rfl fo26_2 (ev1 rfl)) ?_
              refine lex_r rfl rfl (op_ldm rfl tb24 (ev1 rfl) rfl rfl) ?_
              refine lex_w rfl rfl (op_appr (j := 3) rfl sl24 zr44 rfl (ev1 rfl) (ev1 rfl) rfl rfl (ol_oc _) (fun _ => ⟨by omega, by omega⟩)) rfl (by simp only [upd, List.set_cons_zero, List.set_cons_succ]; exact rfl) ?_
              refine lex_r rfl rfl (op_lddr rfl tb44 (ev1 rfl) rfl rfl) ?_
              refine lex_r rfl rfl (op_bsr (ps := [(0, .tmp 65)]) rfl sl24 zr44 rfl (ec (ev1 rfl) en) rfl rfl rfl (by rfl) rfl (by decide) (by decide)) ?_
              refine lex_w rfl rfl ((op_appr (j := 4) rfl sl24 zr44 rfl (ev1 rfl) (ev1 rfl) rfl rfl (oD_oc _) (fun _ => ⟨by omega, by omega⟩)).giveX2 (nlL_row _ _) rfl rfl) rfl (by simp only [upd, List.set_cons_zero, List.set_cons_succ]; exact rfl) ?_
              refine lex_r rfl rfl (op_fa rfl fo26_2 (ev1 rfl)) ?_
              refine lex_s rfl rfl (op_stm rfl tb24 (ev1 rfl) (ev1 rfl) (fun s v h => by cases h <;> exact ⟨rfl, rfl⟩) rfl (by first | decide | exact Nat.le_of_ble_eq_true rfl | simp)) rfl (by simp only [upd, List.set_cons_zero, List.set_cons_succ]; exact rfl) ?_
              refine lex_nil ?_
              refine dwp_seq ?_
              rw [show (0 + d.w.length + 1) = (d.w ++ [o]).length by simp, show ([] ++ d.w.flatMap oD ++ oD o) = (d.w ++ [o]).flatMap oD by simp]
              refine dwp_region ?_
              refine walk_r rfl rfl rfl (op_ldmw rfl tb26 (ev1 rfl) rfl rfl) ?_
              refine walk_s rfl rfl (op_stam rfl tb26 (ev1 rfl) (ev1 rfl) rfl rfl rfl rfl) (by simp only [upd, List.set_cons_zero, List.set_cons_succ]; exact rfl) ?_
              refine walk_r rfl rfl rfl (op_move (.inr rfl) (ev1 rfl)) ?_
              refine walk_nil ?_
              refine dwp_ret ?_
              refine kend0 (rs2 rfl (rv_mw tb26 rfl rfl rfl) (rv_t rfl)) rfl ?_
              rw [doS_0 he, he, okS_n k4, hfb]
              rfl
end Go.Proofs.Ytjecmkaggobcjaa

namespace Go.Proofs.Ytjecmkaggobcjaa
set_option linter.unusedVariables false
set_option linter.unusedSimpArgs false
open Go.RowKit
theorem run3_end {d : DkS} {l : List DOpn} (h : okK d l l.length) : run3 d l = (stK d l l.length, l.length, 0) := by
  rcases run3_cases l d with ⟨_, h2⟩ | ⟨j, hj, _, h3, _⟩
  · exact h2
  · exact absurd (h j hj hj) h3
theorem run3_at {d : DkS} {l : List DOpn} {k : Nat} (hk : k < l.length) (h : okK d l k) (he : opE (stK d l k) l[k] ≠ 0) : run3 d l = (doS (stK d l k) l[k], k, opE (stK d l k) l[k]) := by
  rcases run3_cases l d with ⟨h1, _⟩ | ⟨j, hj, h1, h2, h3⟩
  · exact absurd (h1 k hk hk) he
  · have e : j = k := by
      rcases Nat.lt_trichotomy j k with q | q | q
      · exact absurd (h j hj q) h2
      · exact q
      · exact absurd (h1 k hk q) he
    subst e
    rw [h3]; unfold doS; rw [if_neg h2]
theorem okK_next {d : DkS} {l : List DOpn} {k : Nat} (hk : k < l.length) (h : okK d l k) (he : opE (stK d l k) l[k] = 0) : okK d l (k + 1) := fun i hi hik => by
  by_cases e : i = k
  · subst e; exact he
  · exact h i hi (by omega)
def gF (d : DkS) (K T k : Nat) : Nat → List Nat := if k ≤ K then seF d.f (d.w.take k) else fallF d.f d.w K T
def gH (d : DkS) (K k : Nat) : Int := if k ≤ K then seH d.h (d.w.take k) else seH d.h (d.w.take K)
theorem gF_0 (d : DkS) (K T : Nat) : gF d K T 0 = d.f := by unfold gF; rw [if_pos (Nat.zero_le K)]; rfl
theorem gH_0 (d : DkS) (K : Nat) : gH d K 0 = d.h := by unfold gH; rw [if_pos (Nat.zero_le K)]; rfl
theorem gF_lt {d : DkS} {K T k : Nat} (hk : k < d.w.length) (h : k < K) : gF d K T (k + 1) = doF (gF d K T k) d.w[k] := by
  unfold gF; rw [if_pos (by omega), if_pos (by omega), seF_succ hk]
theorem gH_lt {d : DkS} {K k : Nat} (hk : k < d.w.length) (h : k < K) : gH d K (k + 1) = doH (gH d K k) d.w[k] := by
  unfold gH; rw [if_pos (by omega), if_pos (by omega), seH_succ hk]
theorem gF_tear {d : DkS} {K T k : Nat} (hk : k < d.w.length) (e : k = K) (k1 : d.w[k].kd = 1) : gF d K T (k + 1) = updF (gF d K T k) (d.w[k]).fl.toNat (gF d K T k (d.w[k]).fl.toNat ++ (tornO d.w[k] T).b) := by
  subst e
  unfold gF
  rw [if_neg (by omega), if_pos (Nat.le_refl k)]
  unfold fallF
  rw [List.getElem?_eq_getElem hk]
  show (if _ then _ else _) = _
  rw [if_pos k1]
  unfold doF
  rw [if_pos (by exact k1)]
  rfl
theorem gH_ge {d : DkS} {K k : Nat} (h : K ≤ k) : gH d K (k + 1) = gH d K k := by
  unfold gH
  rw [if_neg (by omega)]
  by_cases e : k = K
  · subst e; rw [if_pos (Nat.le_refl k)]
  · rw [if_neg (by omega)]
theorem gF_no {d : DkS} {K T k : Nat} (hk : k < d.w.length) (h : K ≤ k) (h2 : ¬ (k = K ∧ d.w[k].kd = 1)) : gF d K T (k + 1) = gF d K T k := by
  unfold gF
  rw [if_neg (by omega)]
  by_cases e : k = K
  · subst e
    rw [if_pos (Nat.le_refl k)]
    unfold fallF
    rw [List.getElem?_eq_getElem hk]
    show (if _ then _ else _) = _
    rw [if_neg (fun q => h2 ⟨rfl, q⟩)]
  · rw [if_neg (by omega)]
theorem gF_end (d : DkS) (K T : Nat) : gF d K T d.w.length = fallF d.f d.w K T := by
  unfold gF
  by_cases e : d.w.length ≤ K
  · rw [if_pos e]
    unfold fallF
    rw [List.getElem?_eq_none e, List.take_of_length_le (Nat.le_refl _), List.take_of_length_le e]
  · rw [if_neg e]
theorem gH_end (d : DkS) (K : Nat) : gH d K d.w.length = seH d.h (d.w.take K) := by
  unfold gH
  by_cases e : d.w.length ≤ K
  · rw [if_pos e, List.take_of_length_le (Nat.le_refl _), List.take_of_length_le e]
  · rw [if_neg e]
theorem gF_len {d : DkS} (hd : d.ok) (K T k : Nat) {i : Nat} (hi : i < 4) : (gF d K T k i).length ≤ 4194304 := by
  unfold gF
  by_cases e : k ≤ K
  · rw [if_pos e]
    exact allF_len (chk_parts (settled_ok (cut_ok hd k) (dn := true) (fu := 0) (show (0 : Int) ≤ 0 ∧ (0 : Int) ≤ 4096 by decide) (fun _ => rfl))).2.1 hi
  · rw [if_neg e]
    exact allF_len (chk_parts (fall_ok hd K T)).2.1 hi
theorem torn_id {o : DOpn} {T : Nat} (h : o.b.length ≤ T) : (tornO o T).b = o.b := by
  show o.b.take (min T o.b.length) = o.b
  rw [Nat.min_eq_right h, List.take_length]
set_option maxRecDepth 4000 in
set_option maxHeartbeats 1000000 in
theorem rrun_d (d : DkS) (l : List DOpn) (hd : d.ok) (hl : l.length ≤ 10000) (hlb : ∀ o ∈ l, o.b.length ≤ 10000000) : DFun Try.prog 27 [.agg (dD d.f d.h d.w d.dn d.fu), .slm 3 (l).length ((l).flatMap oD)] [] (.tup [(run3 d l).1.d, .val (.int .i64 ((run3 d l).2.1 : Int)), .val (.int .i64 (run3 d l).2.2)]) [] := by
  refine dcalls_go (N := 34) 0 (by kernel_rfl) Try.func27 rfl rfl rfl (by simp only [fr0, Nat.zero_add, Nat.reduceAdd]; exact rfl) rfl fun s0 hs0 => ?_
  refine dwp_lenm (t := 1) rfl fun hl1 hL1 => ?_
  refine dwp_seq ?_
  refine dwp_holes 2 (by simp only [holes, List.cons_append, List.nil_append]; exact rfl) ?_
  refine dwp_region ?_
  refine walk_w rfl rfl rfl (op_boxam 0 rfl (ev1 rfl) rfl) (by simp only [upd, List.set_cons_zero, List.set_cons_succ]; exact rfl) ?_
  refine walk_w rfl rfl rfl (op_alloc 1 rfl zr26 rfl) (by simp only [upd, List.set_cons_zero, List.set_cons_succ]; exact rfl) ?_
  refine walk_r rfl rfl rfl (op_move (.inr rfl) (ev1 rfl)) ?_
  refine walk_r rfl rfl rfl (op_move (.inr rfl) (ev1 rfl)) ?_
  refine walk_nil ?_
  refine dwp_seq ?_
  refine dwp_seq ?_
  refine dwp_region ?_
  refine walk_r rfl rfl rfl (op_move (.inl rfl) (ev1 rfl)) ?_
  refine walk_r rfl rfl rfl (op_lenm rfl sl24 (ev1 rfl)) ?_
  refine walk_r rfl rfl rfl (op_move (.inl rfl) (ev1 rfl)) ?_
  refine walk_nil ?_
  refine dwp_block ?_
  refine dwp_loopS ⟨hs0, rfl⟩ (α := Nat) (fun k => [(13, .val (.int .i64 (k : Int)))]) [(1, _), (2, _), (4, _), (11, _), (12, _)] (fun k => [(0, .mix 26 (dD (stK d l k).f (stK d l k).h (stK d l k).w (stK d l k).dn (stK d l k).fu))]) [.hole, _] (fun k => k ≤ l.length ∧ okK d l k) (fun k => l.length - k) 0 [0, 1] (⟨Nat.zero_le _, okK0⟩) rfl ⟨rfl, rfl, rfl, rfl, rfl, trivial⟩ ⟨rfl, trivial⟩ ⟨rfl, rfl, trivial⟩ ?_
  intro k hx
  simp only [upd, List.set_cons_zero, List.set_cons_succ, List.cons_append, List.nil_append]
  obtain ⟨hk, hok⟩ := hx
  have hdk := stK_ok hd k hk hok
  refine dwp_seq ?_
  refine dwp_region ?_
  refine walk_r rfl rfl rfl (op_lss rfl (ev1 rfl) (ev1 rfl)) ?_
  refine walk_nil ?_
  refine dwp_seq ?_
  refine dwp_cond rfl (fun c1 => ?_) (fun c1 => ?_)
  · try simp only [decide_eq_true_eq, decide_eq_false_iff_not, beq_iff_eq, bne_iff_ne, beq_eq_false_iff_ne, bne_eq_false_iff_eq, Bool.not_eq_true', Bool.not_eq_false', Bool.and_eq_true, Bool.or_eq_true, Bool.or_eq_false_iff, ne_eq, Decidable.not_not, Int.not_lt, Int.not_le] at c1
    refine dwp_skip ?_
    refine dwp_seq ?_
    refine dwp_block ?_
    refine dwp_seq ?_
    have hkl : k < l.length := by omega
    have hob := hlb _ (List.getElem_mem hkl)
    refine dwp_holes 1 (by simp only [holes, List.cons_append, List.nil_append]; exact rfl) ?_
    refine dwp_region ?_
    refine walk_r rfl rfl rfl (op_move (.inl rfl) (ev1 rfl)) ?_
    refine walk_r rfl rfl rfl (op_ixmr (k) (by decide) rfl sl24 (ev1 rfl) (ev1 rfl) (fun _ => rfl) (by omega) (fun _ => rfl)) ?_
    refine walk_r rfl rfl rfl (op_lddr rfl tb44 (ev1 rfl) rfl rfl) ?_
    refine walk_w rfl rfl rfl (op_alloc 2 rfl zr44 rfl) (by simp only [upd, List.set_cons_zero, List.set_cons_succ]; exact rfl) ?_
    refine walk_r rfl rfl rfl (op_move (.inr rfl) (ev1 rfl)) ?_
    refine walk_s rfl rfl (op_stam rfl tb44 (ev1 rfl) (ev1 rfl) rfl rfl rfl rfl) (by simp only [upd, List.set_cons_zero, List.set_cons_succ]; exact rfl) ?_
    refine walk_nil ?_
    refine dwp_seq ?_
    refine dwp_holes 1 (by simp only [holes, List.cons_append, List.nil_append]; exact rfl) ?_
    refine dwp_region ?_
    refine walk_r rfl rfl rfl (op_ldmw rfl tb26 (ev1 rfl) rfl rfl) ?_
    refine walk_r rfl rfl rfl (op_ldmw rfl tb44 (ev1 rfl) rfl rfl) ?_
    refine walk_r rfl rfl rfl (dop_call [] [] [] rfl (ev1 rfl) (ec (ev1 rfl) (ec (ev1 rfl) en)) rfl rfl (rdo_d (stK d l k) (l[k]'hkl) hdk hob) rfl rfl rfl rfl rfl rfl) ?_
    refine walk_r rfl rfl rfl (op_move (.inl rfl) (ev1 rfl)) ?_
    refine walk_r rfl rfl rfl (op_ext rfl (ev1 rfl) rfl) ?_
    refine walk_r rfl rfl rfl (op_ext rfl (ev1 rfl) rfl) ?_
    refine walk_w rfl rfl rfl (op_alloc 3 rfl zr26 rfl) (by simp only [upd, List.set_cons_zero, List.set_cons_succ]; exact rfl) ?_
    refine walk_s rfl rfl (op_stam rfl tb26 (ev1 rfl) (ev1 rfl) rfl rfl rfl rfl) (by simp only [upd, List.set_cons_zero, List.set_cons_succ]; exact rfl) ?_
    refine walk_r rfl rfl rfl (op_move (.inr rfl) (ev1 rfl)) ?_
    refine walk_nil ?_
    refine dwp_seq ?_
    refine dwp_seq ?_
    refine dwp_region ?_
    refine walk_r rfl rfl rfl (op_move (.inl rfl) (ev1 rfl)) ?_
    refine walk_r rfl rfl rfl (op_neq rfl (ev1 rfl) (ev1 rfl)) ?_
    refine walk_nil ?_
    refine dwp_cond rfl (fun c0_ => ?_) (fun c0_ => ?_)
    · have h0 : opE (stK d l k) (l[k]'hkl) ≠ 0 := by simpa using c0_
      refine dwp_seq ?_
      refine dwp_region ?_
      refine walk_r rfl rfl rfl (op_ldmw rfl tb26 (ev1 rfl) rfl rfl) ?_
      refine walk_r rfl rfl rfl (op_move (.inl rfl) (ev1 rfl)) ?_
      refine walk_r rfl rfl rfl (op_move (.inl rfl) (ev1 rfl)) ?_
      refine walk_s rfl rfl (op_stam rfl tb26 (ev1 rfl) (ev1 rfl) rfl rfl rfl rfl) (by simp only [upd, List.set_cons_zero, List.set_cons_succ]; exact rfl) ?_
      refine walk_r rfl rfl rfl (op_move (.inr rfl) (ev1 rfl)) ?_
      refine walk_r rfl rfl rfl (op_move (.inr rfl) (ev1 rfl)) ?_
      refine walk_nil ?_
      refine dwp_ret ?_
      refine kend0 (rs3 rfl (rv_mw tb26 rfl rfl rfl) (rv_t rfl) (rv_t rfl)) rfl ?_
      rw [run3_at hkl hok h0]
      rfl
    · have h0 : opE (stK d l k) (l[k]'hkl) = 0 := by simpa using c0_
      refine dwp_skip ?_
      refine dwp_region ?_
      refine walk_r rfl rfl rfl (op_ldmw rfl tb26 (ev1 rfl) rfl rfl) ?_
      refine walk_s rfl rfl (op_stmw rfl tb26 (ev1 rfl) (ev1 rfl) rfl rfl rfl rfl) (by simp only [upd, List.set_cons_zero, List.set_cons_succ]; exact rfl) ?_
      refine walk_nil ?_
      refine dwp_region ?_
      refine walk_r rfl rfl rfl (op_add' rfl (ev1 rfl) (ev1 rfl) (fun _ => IntWalk.i64_in _ (by omega))) ?_
      refine walk_r rfl rfl rfl (op_move (.inl rfl) (ev1 rfl)) ?_
      refine walk_nil ?_
      refine ⟨k + 1, [0, 1], ⟨by omega, okK_next hkl hok h0⟩, by simp only []; omega, rfl, ⟨rfl, rfl, rfl, rfl, rfl, rfl, trivial⟩, ⟨by rw [stK_succ hkl, ← doS_0 h0]; rfl, rfl, trivial⟩⟩
  · try simp only [decide_eq_true_eq, decide_eq_false_iff_not, beq_iff_eq, bne_iff_ne, beq_eq_false_iff_ne, bne_eq_false_iff_eq, Bool.not_eq_true', Bool.not_eq_false', Bool.and_eq_true, Bool.or_eq_true, Bool.or_eq_false_iff, ne_eq, Decidable.not_not, Int.not_lt, Int.not_le] at c1
    refine dwp_exit ?_
    refine dwp_seq ?_
    obtain rfl : k = l.length := by omega
    refine dwp_region ?_
    refine walk_r rfl rfl rfl (op_ldmw rfl tb26 (ev1 rfl) rfl rfl) ?_
    refine walk_r rfl rfl rfl (op_move (.inl rfl) (ev1 rfl)) ?_
    refine walk_r rfl rfl rfl (op_lenm rfl sl24 (ev1 rfl)) ?_
    refine walk_s rfl rfl (op_stam rfl tb26 (ev1 rfl) (ev1 rfl) rfl rfl rfl rfl) (by simp only [upd, List.set_cons_zero, List.set_cons_succ]; exact rfl) ?_
    refine walk_r rfl rfl rfl (op_move (.inr rfl) (ev1 rfl)) ?_
    refine walk_r rfl rfl rfl (op_move (.inr rfl) (ev1 rfl)) ?_
    refine walk_nil ?_
    refine dwp_ret ?_
    refine kend0 (rs3 rfl (rv_mw tb26 rfl rfl rfl) (rv_t rfl) (rv_t rfl)) rfl ?_
    rw [run3_end hok]
    rfl
set_option maxRecDepth 4000 in
set_option maxHeartbeats 1000000 in
theorem rfall_d (d : DkS) (hd : d.ok) (K T : Nat) : DFun Try.prog 32 [.agg (dD d.f d.h d.w d.dn d.fu), .val (.int .i64 (K : Int)), .val (.int .i64 (T : Int))] [] ((fallS d K T).d) [] := by
  refine dcalls_go (N := 51) 0 (by kernel_rfl) Try.func32 rfl rfl rfl (by simp only [fr0, Nat.zero_add, Nat.reduceAdd]; exact rfl) rfl fun s0 hs0 => ?_
  refine dwp_seq ?_
  refine dwp_holes 2 (by simp only [holes, List.cons_append, List.nil_append]; exact rfl) ?_
  refine dwp_region ?_
  refine walk_w rfl rfl rfl (op_boxam 0 rfl (ev1 rfl) rfl) (by simp only [upd, List.set_cons_zero, List.set_cons_succ]; exact rfl) ?_
  refine walk_w rfl rfl rfl (op_alloc 1 rfl zr26 rfl) (by simp only [upd, List.set_cons_zero, List.set_cons_succ]; exact rfl) ?_
  refine walk_nil ?_
  refine dwp_seq ?_
  refine dwp_region ?_
  refine walk_r rfl rfl rfl (op_fa rfl fo26_2 (ev1 rfl)) ?_
  refine walk_r rfl rfl rfl (op_ldm rfl tb24 (ev1 rfl) rfl rfl) ?_
  refine walk_r rfl rfl rfl (op_move (.inr rfl) (ev1 rfl)) ?_
  refine walk_nil ?_
  refine dwp_seq ?_
  refine dwp_region ?_
  refine walk_r rfl rfl rfl (op_fa rfl fo26_2 (ev1 rfl)) ?_
  refine walk_s rfl rfl (op_stm rfl tb24 (ev1 rfl) (evwk (ev1 rfl) (Wk.slm0 3)) (fun s v h => by cases h <;> exact ⟨rfl, rfl⟩) rfl (Nat.le_of_ble_eq_true rfl)) (by simp only [upd, List.set_cons_zero, List.set_cons_succ]; exact rfl) ?_
  refine walk_r rfl rfl rfl (op_fa rfl fo26_3 (ev1 rfl)) ?_
  refine walk_s rfl rfl (op_stm rfl tb4 (ev1 rfl) (ev1 rfl) (fun s v h => by cases h <;> exact ⟨rfl, rfl⟩) rfl (by first | decide | exact Nat.le_of_ble_eq_true rfl | simp)) (by simp only [upd, List.set_cons_zero, List.set_cons_succ]; exact rfl) ?_
  refine walk_r rfl rfl rfl (op_fa rfl fo26_4 (ev1 rfl)) ?_
  refine walk_s rfl rfl (op_stm rfl tb3 (ev1 rfl) (ev1 rfl) (fun s v h => by cases h <;> exact ⟨rfl, rfl⟩) rfl (by first | decide | exact Nat.le_of_ble_eq_true rfl | simp)) (by simp only [upd, List.set_cons_zero, List.set_cons_succ]; exact rfl) ?_
  refine walk_nil ?_
  refine dwp_seq ?_
  refine dwp_seq ?_
  refine dwp_region ?_
  refine walk_r rfl rfl rfl (op_move (.inl rfl) (ev1 rfl)) ?_
  refine walk_r rfl rfl rfl (op_lenm rfl sl24 (ev1 rfl)) ?_
  refine walk_r rfl rfl rfl (op_move (.inl rfl) (ev1 rfl)) ?_
  refine walk_nil ?_
  refine dwp_block ?_
  refine dwp_loopS ⟨hs0, rfl⟩ (α := Nat) (fun k => [(17, .val (.int .i64 (k : Int)))]) [(1, _), (2, _), (3, _), (6, _), (15, _), (16, _)] (fun k => [(0, .mix 26 (dD (gF d K T k) (gH d K k) [] true 0))]) [.hole, _] (fun k => k ≤ d.w.length) (fun k => d.w.length - k) 0 [0, 1] (by simp) rfl ⟨rfl, rfl, rfl, rfl, rfl, rfl, trivial⟩ ⟨rfl, trivial⟩ ⟨by rw [gF_0, gH_0]; rfl, rfl, trivial⟩ ?_
  intro k hx
  simp only [upd, List.set_cons_zero, List.set_cons_succ, List.cons_append, List.nil_append]
  have hk := hx
  have hwl := (chk0_parts (chk_parts hd).1).2.2.2
  refine dwp_seq ?_
  refine dwp_region ?_
  refine walk_r rfl rfl rfl (op_lss rfl (ev1 rfl) (ev1 rfl)) ?_
  refine walk_nil ?_
  refine dwp_seq ?_
  refine dwp_cond rfl (fun c1 => ?_) (fun c1 => ?_)
  · try simp only [decide_eq_true_eq, decide_eq_false_iff_not, beq_iff_eq, bne_iff_ne, beq_eq_false_iff_ne, bne_eq_false_iff_eq, Bool.not_eq_true', Bool.not_eq_false', Bool.and_eq_true, Bool.or_eq_true, Bool.or_eq_false_iff, ne_eq, Decidable.not_not, Int.not_lt, Int.not_le] at c1
    refine dwp_skip ?_
    refine dwp_seq ?_
    refine dwp_block ?_
    refine dwp_seq ?_
    have hkl : k < d.w.length := by omega
    have hmk := (chk_parts hd).2.2.1 _ (List.getElem_mem hkl)
    have hob := (few_of hd).2.2 _ (List.getElem_mem hkl)
    have hfl := (mayW_in hmk).2
    have hgl : ∀ i, i < 4 → (gF d K T k i).length ≤ 4194304 := fun i hi => gF_len hd K T k hi
    have hgz := hgl (d.w[k]'hkl).fl.toNat (by omega)
    refine dwp_holes 1 (by simp only [holes, List.cons_append, List.nil_append]; exact rfl) ?_
    refine dwp_region ?_
    refine walk_r rfl rfl rfl (op_move (.inl rfl) (ev1 rfl)) ?_
    refine walk_r rfl rfl rfl (op_ixmr (k) (by decide) rfl sl24 (ev1 rfl) (ev1 rfl) (fun _ => rfl) (by omega) (fun _ => rfl)) ?_
    refine walk_r rfl rfl rfl (op_lddr rfl tb44 (ev1 rfl) rfl rfl) ?_
    refine walk_w rfl rfl rfl (op_alloc 2 rfl zr44 rfl) (by simp only [upd, List.set_cons_zero, List.set_cons_succ]; exact rfl) ?_
    refine walk_r rfl rfl rfl (op_move (.inr rfl) (ev1 rfl)) ?_
    refine walk_s rfl rfl (op_stam rfl tb44 (ev1 rfl) (ev1 rfl) rfl rfl rfl rfl) (by simp only [upd, List.set_cons_zero, List.set_cons_succ]; exact rfl) ?_
    refine walk_nil ?_
    refine dwp_seq ?_
    refine dwp_seq ?_
    refine dwp_region ?_
    refine walk_r rfl rfl rfl (op_move (.inl rfl) (ev1 rfl)) ?_
    refine walk_r rfl rfl rfl (op_move (.inl rfl) (ev1 rfl)) ?_
    refine walk_r rfl rfl rfl (op_lss rfl (ev1 rfl) (ev1 rfl)) ?_
    refine walk_nil ?_
    refine dwp_cond rfl (fun cL => ?_) (fun cL => ?_)
    · have hlt : k < K := by have := of_decide_eq_true cL; omega
      refine dwp_region ?_
      refine walk_r rfl rfl rfl (op_ldmw rfl tb26 (ev1 rfl) rfl rfl) ?_
      refine walk_r rfl rfl rfl (op_ldmw rfl tb44 (ev1 rfl) rfl rfl) ?_
      refine walk_r rfl rfl rfl (dop_call [] [] [] rfl (ev1 rfl) (ec (ev1 rfl) (ec (ev1 rfl) en)) rfl rfl (rdone_d (gF d K T k) (gH d K k) [] true 0 (d.w[k]'hkl) hmk (fun i hi => by have := hgl i hi; omega)) rfl rfl rfl rfl rfl rfl) ?_
      refine walk_s rfl rfl (op_stmw rfl tb26 (ev1 rfl) (ev1 rfl) rfl rfl rfl rfl) (by simp only [upd, List.set_cons_zero, List.set_cons_succ]; exact rfl) ?_
      refine walk_nil ?_
      refine dwp_seq ?_
      refine dwp_region ?_
      refine walk_r rfl rfl rfl (op_move (.inl rfl) (ev1 rfl)) ?_
      refine walk_r rfl rfl rfl (op_move (.inl rfl) (ev1 rfl)) ?_
      refine walk_r rfl rfl rfl (op_eql rfl (ev1 rfl) (ev1 rfl)) ?_
      refine walk_r rfl rfl rfl (op_move (.inl rfl) (ev1 rfl)) ?_
      refine walk_gr (gd_t rfl rfl rfl) rfl rfl rfl (op_fa rfl fo44_0 (ev1 rfl)) ?_
      refine walk_gr (gd_t rfl rfl rfl) rfl rfl rfl (op_ldm rfl tb3 (ev2 rfl) rfl rfl) ?_
      refine walk_gr (gd_t rfl rfl rfl) rfl rfl rfl (op_eql rfl (ev2 rfl) (ev1 rfl)) ?_
      refine walk_r rfl rfl rfl (op_and rfl (ev1 rfl) (ev3 rfl id)) ?_
      refine walk_nil ?_
      refine dwp_if_f rfl (by rw [show ((k : Int) == (K : Int)) = false by rw [beq_eq_false_iff_ne]; omega]; rfl) ?_
      refine dwp_skip ?_
      refine dwp_region ?_
      refine walk_r rfl rfl rfl (op_add' rfl (ev1 rfl) (ev1 rfl) (fun _ => IntWalk.i64_in _ (by omega))) ?_
      refine walk_r rfl rfl rfl (op_move (.inl rfl) (ev1 rfl)) ?_
      refine walk_nil ?_
      refine ⟨k + 1, [0, 1], by omega, by simp only []; omega, rfl, ⟨rfl, rfl, rfl, rfl, rfl, rfl, rfl, trivial⟩, ⟨by rw [gF_lt hkl hlt, gH_lt hkl hlt]; rfl, rfl, trivial⟩⟩
    · have hge : K ≤ k := by have := of_decide_eq_false cL; omega
      refine dwp_skip ?_
      refine dwp_seq ?_
      refine dwp_region ?_
      refine walk_r rfl rfl rfl (op_move (.inl rfl) (ev1 rfl)) ?_
      refine walk_r rfl rfl rfl (op_move (.inl rfl) (ev1 rfl)) ?_
      refine walk_r rfl rfl rfl (op_eql rfl (ev1 rfl) (ev1 rfl)) ?_
      refine walk_r rfl rfl rfl (op_move (.inl rfl) (ev1 rfl)) ?_
      refine walk_gr (gd_t rfl rfl rfl) rfl rfl rfl (op_fa rfl fo44_0 (ev1 rfl)) ?_
      refine walk_gr (gd_t rfl rfl rfl) rfl rfl rfl (op_ldm rfl tb3 (ev2 rfl) rfl rfl) ?_
      refine walk_gr (gd_t rfl rfl rfl) rfl rfl rfl (op_eql rfl (ev2 rfl) (ev1 rfl)) ?_
      refine walk_r rfl rfl rfl (op_and rfl (ev1 rfl) (ev3 rfl id)) ?_
      refine walk_nil ?_
      refine dwp_cond rfl (fun cK_ => ?_) (fun cK_ => ?_)
      · have hK : k = K ∧ (d.w[k]'hkl).kd = 1 := by simp at cK_; exact ⟨by omega, cK_.2⟩
        refine dwp_seq ?_
        refine dwp_seq ?_
        refine dwp_region ?_
        refine walk_r rfl rfl rfl (op_move (.inl rfl) (ev1 rfl)) ?_
        refine walk_r rfl rfl rfl (op_fa rfl fo44_2 (ev1 rfl)) ?_
        refine walk_r rfl rfl rfl (op_ldm rfl tb22 (ev1 rfl) rfl rfl) ?_
        refine walk_r rfl rfl rfl (op_len rfl sl22 (ev1 rfl)) ?_
        refine walk_r rfl rfl rfl (op_lss rfl (ev1 rfl) (ev1 rfl)) ?_
        refine walk_nil ?_
        refine dwp_cond rfl (fun cT => ?_) (fun cT => ?_)
        · have hT : T < (d.w[k]'hkl).b.length := by have := of_decide_eq_true cT; omega
          refine dwp_region ?_
          refine walk_r rfl rfl rfl (op_fa rfl fo44_2 (ev1 rfl)) ?_
          refine walk_r rfl rfl rfl (op_ldm rfl tb22 (ev1 rfl) rfl rfl) ?_
          refine walk_r rfl rfl rfl (op_move (.inl rfl) (ev1 rfl)) ?_
          refine walk_r rfl rfl rfl (op_sltk (j := min T (d.w[k]'hkl).b.length) rfl sl22 (ev1 rfl) (bd_some (ev1 rfl)) (fun _ => by omega) (fun _ => by omega) (fun _ => rfl)) ?_
          refine walk_r rfl rfl rfl (op_fa rfl fo44_2 (ev1 rfl)) ?_
          refine walk_s rfl rfl (op_stm rfl tb22 (ev1 rfl) (ev1 rfl) (fun s v h => by cases h <;> exact ⟨rfl, rfl⟩) rfl (by first | decide | exact Nat.le_of_ble_eq_true rfl | simp)) (by simp only [upd, List.set_cons_zero, List.set_cons_succ]; exact rfl) ?_
          refine walk_nil ?_
          refine dwp_region ?_
          refine walk_r rfl rfl rfl (op_ldmw rfl tb26 (ev1 rfl) rfl rfl) ?_
          refine walk_r rfl rfl rfl (op_ldmw rfl tb44 (ev1 rfl) rfl rfl) ?_
          refine walk_r rfl rfl rfl (dop_call [] [] [] rfl (ev1 rfl) (ec (ev1 rfl) (ec (ev1 rfl) en)) rfl rfl (rdone_1 (gF d K T k) (gH d K k) [] true 0 (tornO (d.w[k]'hkl) T) hK.2 (mayW_in hmk).2 (by show _ + ((d.w[k]'hkl).b.take _).length ≤ _; rw [List.length_take]; show (gF d K T k (d.w[k]'hkl).fl.toNat).length + _ ≤ _; omega)) rfl rfl rfl rfl rfl rfl) ?_
          refine walk_s rfl rfl (op_stmw rfl tb26 (ev1 rfl) (ev1 rfl) rfl rfl rfl rfl) (by simp only [upd, List.set_cons_zero, List.set_cons_succ]; exact rfl) ?_
          refine walk_nil ?_
          refine dwp_region ?_
          refine walk_r rfl rfl rfl (op_add' rfl (ev1 rfl) (ev1 rfl) (fun _ => IntWalk.i64_in _ (by omega))) ?_
          refine walk_r rfl rfl rfl (op_move (.inl rfl) (ev1 rfl)) ?_
          refine walk_nil ?_
          refine ⟨k + 1, [0, 1], by omega, by simp only []; omega, rfl, ⟨rfl, rfl, rfl, rfl, rfl, rfl, rfl, trivial⟩, ⟨by rw [gF_tear hkl hK.1 hK.2, gH_ge hge]; rfl, rfl, trivial⟩⟩
        · have hT : (d.w[k]'hkl).b.length ≤ T := by have := of_decide_eq_false cT; omega
          refine dwp_skip ?_
          refine dwp_region ?_
          refine walk_r rfl rfl rfl (op_ldmw rfl tb26 (ev1 rfl) rfl rfl) ?_
          refine walk_r rfl rfl rfl (op_ldmw rfl tb44 (ev1 rfl) rfl rfl) ?_
          refine walk_r rfl rfl rfl (dop_call [] [] [] rfl (ev1 rfl) (ec (ev1 rfl) (ec (ev1 rfl) en)) rfl rfl (rdone_1 (gF d K T k) (gH d K k) [] true 0 ((d.w[k]'hkl)) hK.2 (mayW_in hmk).2 (by omega)) rfl rfl rfl rfl rfl rfl) ?_
          refine walk_s rfl rfl (op_stmw rfl tb26 (ev1 rfl) (ev1 rfl) rfl rfl rfl rfl) (by simp only [upd, List.set_cons_zero, List.set_cons_succ]; exact rfl) ?_
          refine walk_nil ?_
          refine dwp_region ?_
          refine walk_r rfl rfl rfl (op_add' rfl (ev1 rfl) (ev1 rfl) (fun _ => IntWalk.i64_in _ (by omega))) ?_
          refine walk_r rfl rfl rfl (op_move (.inl rfl) (ev1 rfl)) ?_
          refine walk_nil ?_
          refine ⟨k + 1, [0, 1], by omega, by simp only []; omega, rfl, ⟨rfl, rfl, rfl, rfl, rfl, rfl, rfl, trivial⟩, ⟨by rw [gF_tear hkl hK.1 hK.2, torn_id hT, gH_ge hge]; rfl, rfl, trivial⟩⟩
      · have hK : ¬ (k = K ∧ (d.w[k]'hkl).kd = 1) := fun q => by obtain ⟨q1, q2⟩ := q; subst q1; simp [q2] at cK_
        refine dwp_skip ?_
        refine dwp_region ?_
        refine walk_r rfl rfl rfl (op_add' rfl (ev1 rfl) (ev1 rfl) (fun _ => IntWalk.i64_in _ (by omega))) ?_
        refine walk_r rfl rfl rfl (op_move (.inl rfl) (ev1 rfl)) ?_
        refine walk_nil ?_
        refine ⟨k + 1, [0, 1], by omega, by simp only []; omega, rfl, ⟨rfl, rfl, rfl, rfl, rfl, rfl, rfl, trivial⟩, ⟨by rw [gF_no hkl hge hK, gH_ge hge]; rfl, rfl, trivial⟩⟩
  · try simp only [decide_eq_true_eq, decide_eq_false_iff_not, beq_iff_eq, bne_iff_ne, beq_eq_false_iff_ne, bne_eq_false_iff_eq, Bool.not_eq_true', Bool.not_eq_false', Bool.and_eq_true, Bool.or_eq_true, Bool.or_eq_false_iff, ne_eq, Decidable.not_not, Int.not_lt, Int.not_le] at c1
    refine dwp_exit ?_
    refine dwp_seq ?_
    obtain rfl : k = d.w.length := by omega
    refine dwp_region ?_
    refine walk_r rfl rfl rfl (op_ldmw rfl tb26 (ev1 rfl) rfl rfl) ?_
    refine walk_s rfl rfl (op_stam rfl tb26 (ev1 rfl) (ev1 rfl) rfl rfl rfl rfl) (by simp only [upd, List.set_cons_zero, List.set_cons_succ]; exact rfl) ?_
    refine walk_nil ?_
    refine dwp_ret ?_
    refine kend0 (rs1 rfl (rv_mw tb26 rfl rfl rfl)) rfl ?_
    rw [gF_end, gH_end]
    rfl
end Go.Proofs.Ytjecmkaggobcjaa

namespace Go.Proofs.Ytjecmkaggobcjaa
set_option linter.unusedVariables false
set_option linter.unusedSimpArgs false
open Go.RowKit
theorem frz_xm {σ : List Nat} {V : Nat → Bool} {M : List Blk} {x : DSt × List (DOpn × Nat)} {d : DkS} {m i : Nat} (hx : XOk x d) (dn : Bool) (fu : Int) (hpj : pos σ m = none) (hVj : V m = true) (hMj : M[m]? = some (.fam x.1.B)) (hp : pos σ i = none) (hV : V i = true) (hM : M[i]? = some (.arx 44 3 x.2.length (x.2.flatMap (oF m)))) : vw σ V M (.agg (cGm m x.1.g x.1.h (.arr i) dn fu)) = some (.agg (dD d.f d.h d.w dn fu)) := by
  have h2 := vw_oQ hp hV hM hpj hVj hMj hx.g.wait rfl
  rw [hx.w] at h2
  have hl : vwL σ V M (cGm m x.1.g x.1.h (.arr i) dn fu) = some (dD d.f d.h d.w dn fu) := by
    have hh : x.1.h = d.h := hx.h
    have hf : x.1.f = d.f := hx.f
    have hg := hx.g.file
    rw [hf] at hg
    unfold cGm
    rw [hh]
    exact vwL_cons' (vw_fF hpj hVj hMj (hg 0 (by omega))) (vwL_cons' (vw_fF hpj hVj hMj (hg 1 (by omega))) (vwL_cons' (vw_fF hpj hVj hMj (hg 2 (by omega))) (vwL_cons' (vw_fF hpj hVj hMj (hg 3 (by omega))) (vwL_cons' (by rfl) (vwL_cons' h2 (vwL_cons' (by rfl) (vwL_cons' (by rfl) rfl)))))))
  rw [vw, hl]
  rfl
theorem frz_nm {σ : List Nat} {V : Nat → Bool} {M : List Blk} {s : DSt} {f : Nat → List Nat} {m : Nat} (hg : ∀ i, i < 4 → s.B[s.g i]? = some (rowB (f i))) (h : Int) (dn : Bool) (fu : Int) (hpj : pos σ m = none) (hVj : V m = true) (hMj : M[m]? = some (.fam s.B)) : vw σ V M (.agg (cGm m s.g h (.slm 3 0 []) dn fu)) = some (.agg (dD f h [] dn fu)) := by
  have hl : vwL σ V M (cGm m s.g h (.slm 3 0 []) dn fu) = some (dD f h [] dn fu) :=
    vwL_cons' (vw_fF hpj hVj hMj (hg 0 (by omega))) (vwL_cons' (vw_fF hpj hVj hMj (hg 1 (by omega))) (vwL_cons' (vw_fF hpj hVj hMj (hg 2 (by omega))) (vwL_cons' (vw_fF hpj hVj hMj (hg 3 (by omega))) (vwL_cons' (by rfl) (vwL_cons' (by rfl) (vwL_cons' (by rfl) (vwL_cons' (by rfl) rfl)))))))
  rw [vw, hl]
  rfl
def doX (d : DkS) (o : DOpn) : DSt × List (DOpn × Nat) := if opE d o = 0 then stepX (X0 d) o else X0 d
theorem doX_ok {d : DkS} {o : DOpn} (hd : d.ok) (h : opE d o = 0 ∨ opE d o = 321) : XOk (doX d o) (doS d o) := by
  unfold doX
  rcases h with h | h
  · rw [if_pos h, doS_0 h]; exact (X0_ok d).step hd o
  · rw [if_neg (by rw [h]; decide), doS_9 h]
    exact ⟨(X0_ok d).g, (X0_ok d).f, (X0_ok d).h, (X0_ok d).w⟩
theorem doS_ok {d : DkS} {o : DOpn} (hd : d.ok) (h : opE d o = 0 ∨ opE d o = 321) : (doS d o).ok := by
  rcases h with h | h
  · rw [doS_0 h]; exact ok_step hd h
  · rw [doS_9 h]; exact dnS_ok hd
theorem run1M (d : DkS) (o : DOpn) (hd : d.ok) (hob : o.b.length ≤ 10000000) (h : opE d o = 0 ∨ opE d o = 321) : DFun Try.prog 26 [d.d, .slm 3 1 (oD o)] [] (.tup [.agg (cG (doX d o).1.g (doX d o).1.h (.arr 1) (doS d o).dn (doS d o).fu), .val (.int .i64 (if opE d o = 0 then 1 else 0)), .val (.int .i64 (opE d o))]) [.fam (doX d o).1.B, .arx 44 3 (doX d o).2.length ((doX d o).2.flatMap (oF 0))] := by
  unfold doX
  rcases h with h | h
  · rw [if_pos h, if_pos h, doS_0 h, h]
    exact run_ok d [o] hd (by simp) (by simpa using hob) (okK1 h)
  · have h0 : opE d o ≠ 0 := by rw [h]; decide
    rw [if_neg h0, if_neg h0, doS_9 h, h]
    exact run_down d [o] hd (by simp) (by simpa using hob) 0 (by simp) okK0 h
def runX (d : DkS) (l : List DOpn) : DSt × List (DOpn × Nat) := XK d l (run3 d l).2.1
theorem runX_ok {d : DkS} {l : List DOpn} (hd : d.ok) (h : (run3 d l).2.2 = 0 ∨ (run3 d l).2.2 = 321) : XOk (runX d l) (run3 d l).1 ∧ (run3 d l).1.ok := by
  unfold runX
  rcases run3_cases l d with ⟨h1, h2⟩ | ⟨j, hj, h1, h2, h3⟩
  · rw [h2]; exact ⟨XK_ok hd _ (Nat.le_refl _) h1, stK_ok hd _ (Nat.le_refl _) h1⟩
  · rw [h3] at h ⊢
    have h' : opE (stK d l j) l[j] = 321 := h.resolve_left h2
    have hx := XK_ok hd j (by omega) h1
    rw [if_pos h']
    exact ⟨⟨hx.g, hx.f, hx.h, hx.w⟩, dnS_ok (stK_ok hd j (by omega) h1)⟩
theorem runM (d : DkS) (l : List DOpn) (hd : d.ok) (hl : l.length ≤ 10000) (hlb : ∀ o ∈ l, o.b.length ≤ 10000000) (h : (run3 d l).2.2 = 0 ∨ (run3 d l).2.2 = 321) : DFun Try.prog 26 [d.d, .slm 3 l.length (l.flatMap oD)] [] (.tup [.agg (cG (runX d l).1.g (runX d l).1.h (.arr 1) (run3 d l).1.dn (run3 d l).1.fu), .val (.int .i64 ((run3 d l).2.1 : Int)), .val (.int .i64 (run3 d l).2.2)]) [.fam (runX d l).1.B, .arx 44 3 (runX d l).2.length ((runX d l).2.flatMap (oF 0))] := by
  unfold runX
  rcases run3_cases l d with ⟨h1, h2⟩ | ⟨j, hj, h1, h2, h3⟩
  · rw [h2]; exact run_ok d l hd hl hlb h1
  · rw [h3] at h ⊢
    have h' : opE (stK d l j) l[j] = 321 := h.resolve_left h2
    rw [if_pos h']
    show DFun _ _ _ _ (.tup [_, _, .val (.int .i64 (opE (stK d l j) l[j]))]) _
    rw [h']
    exact run_down d l hd hl hlb j hj h1 h'
theorem run3_z {d : DkS} {l : List DOpn} (h : (run3 d l).2.2 ≠ 0) (h9 : (run3 d l).2.2 ≠ 321) : (run3 d l).1 = zDk := by
  rcases run3_cases l d with ⟨_, h2⟩ | ⟨j, hj, _, _, h3⟩
  · rw [h2] at h; exact absurd rfl h
  · rw [h3] at h9 ⊢
    show (if _ then _ else _) = _
    rw [if_neg h9]
theorem runZ_z (d : DkS) (l : List DOpn) (hd : d.ok) (hl : l.length ≤ 10000) (hlb : ∀ o ∈ l, o.b.length ≤ 10000000) (h : (run3 d l).2.2 ≠ 0) (h9 : (run3 d l).2.2 ≠ 321) : DFun Try.prog 26 [d.d, .slm 3 l.length (l.flatMap oD)] [] (.tup [zDk.d, .val (.int .i64 ((run3 d l).2.1 : Int)), .val (.int .i64 (run3 d l).2.2)]) [] := by
  have h1 := runZ3 d l hd hl hlb
  rw [run3_z h h9] at h1
  exact h1
def flX (d : DkS) (K T : Nat) : DSt := match (X0 d).2[K]? with
  | some q => tearS (stGs (X0 d).1 ((X0 d).2.take K)) q.1 q.2 T
  | none => stGs (X0 d).1 (X0 d).2
set_option maxRecDepth 4000 in
set_option maxHeartbeats 1000000 in
theorem doM (d : DkS) (o : DOpn) (hd : d.ok) (hob : o.b.length ≤ 10000000) (h : opE d o = 0 ∨ opE d o = 321) : DFun Try.prog 23 [.agg (dD d.f d.h d.w d.dn d.fu), .agg (oD o)] [] (.tup [.agg (cG (doX d o).1.g (doX d o).1.h (.arr 1) (doS d o).dn (doS d o).fu), .val (.int .i64 (opE d o))]) [.fam (doX d o).1.B, .arx 44 3 (doX d o).2.length ((doX d o).2.flatMap (oF 0))] := by
  refine dcalls_go (N := 19) 0 (by kernel_rfl) Try.func23 rfl rfl rfl (by simp only [fr0, Nat.zero_add, Nat.reduceAdd]; exact rfl) rfl fun s0 hs0 => ?_
  refine dwp_seq ?_
  refine dwp_holes 2 (by simp only [holes, List.cons_append, List.nil_append]; exact rfl) ?_
  refine dwp_region ?_
  refine walk_r rfl rfl rfl (op_boxf rfl rfl (ev1 rfl)) ?_
  refine walk_w rfl rfl rfl (op_boxam 0 rfl (ev1 rfl) rfl) (by simp only [upd, List.set_cons_zero, List.set_cons_succ]; exact rfl) ?_
  refine walk_w rfl rfl rfl (op_alloc 1 rfl zr26 rfl) (by simp only [upd, List.set_cons_zero, List.set_cons_succ]; exact rfl) ?_
  refine walk_r rfl rfl rfl (op_move (.inr rfl) (ev1 rfl)) ?_
  refine walk_nil ?_
  refine dwp_seq ?_
  refine dwp_holes 3 (by simp only [holes, List.cons_append, List.nil_append]; exact rfl) ?_
  refine dwp_region ?_
  refine walk_r rfl rfl rfl (op_lddr rfl tb26 (ev1 rfl) rfl rfl) ?_
  refine walk_r rfl rfl rfl (op_ldmw rfl tb44 (ev1 rfl) rfl rfl) ?_
  refine walk_r rfl rfl rfl (op_bsr (ps := [(0, .tmp 11)]) rfl sl24 zr44 rfl (ec (ev1 rfl) en) rfl rfl rfl (by rfl) rfl (by decide) (by decide)) ?_
  refine walk_w rfl rfl rfl (dop_call [] [] [2, 3] rfl (ev1 rfl) (ec (ev1 rfl) (ec (ev1 rfl) en)) rfl rfl (run1M d o hd hob h) rfl rfl rfl (by exact (wrc rfl (wrc (by first | exact rfl | exact sb_arx (fun _ => rfl) | exact sb_arxr (nlL_flatR (fun _ => rfl) _) | exact sb_arxg (fun _ => rfl) | exact sb_arxs (fun _ => rfl)) rfl))) rfl rfl) (by simp only [upd, List.set_cons_zero, List.set_cons_succ]; exact rfl) ?_
  refine walk_r rfl rfl rfl (op_move (.inl rfl) (ev1 rfl)) ?_
  refine walk_r rfl rfl rfl (op_ext rfl (ev1 rfl) rfl) ?_
  refine walk_r rfl rfl rfl (op_ext rfl (ev1 rfl) rfl) ?_
  refine walk_r rfl rfl rfl (op_ext rfl (ev1 rfl) rfl) ?_
  refine walk_w rfl rfl rfl (op_alloc 4 rfl zr26 rfl) (by simp only [upd, List.set_cons_zero, List.set_cons_succ]; exact rfl) ?_
  refine walk_s rfl rfl (op_stam rfl tb26 (ev1 rfl) (ev1 rfl) rfl rfl rfl rfl) (by simp only [upd, List.set_cons_zero, List.set_cons_succ]; exact rfl) ?_
  refine walk_r rfl rfl rfl (op_move (.inr rfl) (ev1 rfl)) ?_
  refine walk_r rfl rfl rfl (op_move (.inr rfl) (ev1 rfl)) ?_
  refine walk_nil ?_
  refine dwp_seq ?_
  refine dwp_region ?_
  refine walk_r rfl rfl rfl (op_ldmw rfl tb26 (ev1 rfl) rfl rfl) ?_
  refine walk_r rfl rfl rfl (op_move (.inl rfl) (ev1 rfl)) ?_
  refine walk_s rfl rfl (op_stam rfl tb26 (ev1 rfl) (ev1 rfl) rfl rfl rfl rfl) (by simp only [upd, List.set_cons_zero, List.set_cons_succ]; exact rfl) ?_
  refine walk_r rfl rfl rfl (op_move (.inr rfl) (ev1 rfl)) ?_
  refine walk_nil ?_
  refine dwp_ret ?_
  refine kend [2, 3] (rs2 rfl (rv_mw tb26 rfl rfl rfl) (rv_t rfl)) rfl rfl ?_ ⟨?_, ?_, trivial⟩
  rfl
  all_goals first | exact rfl | exact ox_fits rfl rfl rfl
end Go.Proofs.Ytjecmkaggobcjaa

namespace Go.Proofs.Ytjecmkaggobcjaa
set_option linter.unusedVariables false
set_option linter.unusedSimpArgs false
open Go.RowKit
def cutD (d : DkS) : DkS := ownK d.f d.h d.w d.dn d.fu
theorem ownF_id (f : Nat → List Nat) : ownF (ownF f) = ownF f := by
  funext i
  have := ownF_len f i
  show (ownF f i).take (min (ownF f i).length 300) = ownF f i
  rw [Nat.min_eq_left this, List.take_length]
theorem cutO_id (o : DOpn) : cutO (cutO o) = cutO o := by
  have := cutOn o
  show (⟨o.kd, o.fl, (cutO o).b.take (min (cutO o).b.length 100)⟩ : DOpn) = cutO o
  rw [Nat.min_eq_left this, List.take_length]; rfl
theorem opsL_id (w : List DOpn) : opsL (opsL w) = opsL w := by
  have h := opsL_len w
  have e : sixO (opsL w) = opsL w := by unfold sixO; rw [Nat.min_eq_left h, List.take_length]
  show (sixO (opsL w)).map cutO = opsL w
  rw [e]
  unfold opsL
  rw [List.map_map]
  exact List.map_congr_left fun o _ => cutO_id o
theorem cutD_id (d : DkS) : cutD (cutD d) = cutD d := by
  show (⟨ownF (ownF d.f), d.h, opsL (opsL d.w), d.dn, d.fu⟩ : DkS) = ⟨ownF d.f, d.h, opsL d.w, d.dn, d.fu⟩
  rw [ownF_id, opsL_id]
theorem cutD_own (f : Nat → List Nat) (h : Int) (w : List DOpn) (dn : Bool) (fu : Int) : cutD (ownK f h w dn fu) = ownK f h w dn fu := cutD_id ⟨f, h, w, dn, fu⟩
theorem mayW_cut {o : DOpn} (h : mayW o = true) : mayW (cutO o) = true := by
  unfold mayW at h ⊢
  simp only [Bool.and_eq_true] at h ⊢
  refine ⟨h.1, ?_⟩
  have e : decide (0 < ((cutO o).b.length : Int)) = decide (0 < (o.b.length : Int)) := by
    refine decide_eq_decide.2 ?_
    show 0 < (((o.b.take (min o.b.length 100)).length : Nat) : Int) ↔ _
    rw [List.length_take]
    omega
  rw [e]
  exact h.2
theorem cutD_ok {d : DkS} (hd : d.ok) : (cutD d).ok := by
  obtain ⟨h1, h2, h3, h4⟩ := chk_parts hd
  obtain ⟨g1, g2, g3, g4⟩ := chk0_parts h1
  have hl := opsL_len d.w
  have hm : ∀ o ∈ opsL d.w, mayW o = true := fun o ho => by
    obtain ⟨q, hq, rfl⟩ := List.mem_map.1 ho
    exact mayW_cut (h3 q (List.mem_of_mem_take hq))
  refine chk_join (chk0_join g1 g2 g3 (show (opsL d.w).length ≤ 4096 by omega)) (allF_yes fun i hi => by have := ownF_len d.f i; show ((ownF d.f i).length : Int) ≤ _; omega) hm (szB_all fun k hk => ?_)
  have key : ∀ k, k ≤ (opsL d.w).length → ∀ i, (afts (szs (ownF d.f)) ((opsL d.w).take k)).getD i 0 ≤ 300 + k * 100 := by
    intro k
    induction k with
    | zero =>
      intro _ i
      show (szs (ownF d.f)).getD i 0 ≤ _
      by_cases hi : i < 4
      · rw [szs_at hi]; have := ownF_len d.f i; omega
      · rw [szs_out hi]; omega
    | succ k ih =>
      intro hk i
      have hk' : k < (opsL d.w).length := by omega
      rw [afts_succ hk']
      have a1 := aft_le (afts (szs (ownF d.f)) ((opsL d.w).take k)) (opsL d.w)[k] i
      have a2 := ih (by omega) i
      have a3 : ((opsL d.w)[k]).b.length ≤ 100 := by
        obtain ⟨q, _, e⟩ := List.mem_map.1 (List.getElem_mem hk')
        rw [← e]; exact cutOn q
      omega
  have hk' : k < (opsL d.w).length := hk
  have := key (k + 1) (by omega) ((opsL d.w)[k]).fl.toNat
  show (afts (szs (ownF d.f)) ((opsL d.w).take (k + 1))).getD ((opsL d.w)[k]).fl.toNat 0 ≤ 4194304
  omega
def atO (d : DkS) (o : DOpn) : DkS := if opE d o = 0 ∨ opE d o = 321 then cutD (doS d o) else d
def atK (d : DkS) (l : List DOpn) (k : Nat) : DkS := (l.take k).foldl atO d
theorem atK_0 (d : DkS) (l : List DOpn) : atK d l 0 = d := rfl
theorem atK_succ {d : DkS} {l : List DOpn} {k : Nat} (hk : k < l.length) : atK d l (k + 1) = atO (atK d l k) l[k] := by
  unfold atK
  rw [List.take_succ_eq_append_getElem hk, List.foldl_append]
  rfl
theorem atK_y {d : DkS} {l : List DOpn} {k : Nat} (hk : k < l.length) (h : opE (atK d l k) l[k] = 0 ∨ opE (atK d l k) l[k] = 321) : atK d l (k + 1) = cutD (doS (atK d l k) l[k]) := by
  rw [atK_succ hk]; unfold atO; rw [if_pos h]
theorem atK_n {d : DkS} {l : List DOpn} {k : Nat} (hk : k < l.length) (h : ¬ (opE (atK d l k) l[k] = 0 ∨ opE (atK d l k) l[k] = 321)) : atK d l (k + 1) = atK d l k := by
  rw [atK_succ hk]; unfold atO; rw [if_neg h]
theorem atK_ok {d : DkS} {l : List DOpn} (h : d.ok) (hc : cutD d = d) : ∀ k, k ≤ l.length → (atK d l k).ok ∧ cutD (atK d l k) = atK d l k
  | 0, _ => ⟨h, hc⟩
  | k + 1, hk => by
    have hk' : k < l.length := by omega
    have ih := atK_ok (l := l) h hc k (by omega)
    rw [atK_succ hk']
    unfold atO
    split
    · rename_i e; exact ⟨cutD_ok (doS_ok ih.1 e), cutD_id _⟩
    · exact ih
set_option maxRecDepth 4000 in
set_option maxHeartbeats 1000000 in
theorem does1_d (p q : DOpn) : DFun Try.prog 29 [.agg (oD p), .agg (oD q)] [] (.val (.bool (decide (p.b = q.b)))) [] := by
  refine dcalls_go (N := 10) 0 (by kernel_rfl) Try.func29 rfl rfl rfl (by simp only [fr0, Nat.zero_add, Nat.reduceAdd]; exact rfl) rfl fun s0 hs0 => ?_
  refine dwp_seq ?_
  refine dwp_holes 2 (by simp only [holes, List.cons_append, List.nil_append]; exact rfl) ?_
  refine dwp_region ?_
  refine walk_w rfl rfl rfl (op_boxam 0 rfl (ev1 rfl) rfl) (by simp only [upd, List.set_cons_zero, List.set_cons_succ]; exact rfl) ?_
  refine walk_w rfl rfl rfl (op_boxam 1 rfl (ev1 rfl) rfl) (by simp only [upd, List.set_cons_zero, List.set_cons_succ]; exact rfl) ?_
  refine walk_r rfl rfl rfl (op_move (.inr rfl) (ev1 rfl)) ?_
  refine walk_nil ?_
  refine dwp_seq ?_
  refine dwp_region ?_
  refine walk_r rfl rfl rfl (op_fa rfl fo44_2 (ev1 rfl)) ?_
  refine walk_r rfl rfl rfl (op_ldm rfl tb22 (ev1 rfl) rfl rfl) ?_
  refine walk_r rfl rfl rfl (op_fa rfl fo44_2 (ev1 rfl)) ?_
  refine walk_r rfl rfl rfl (op_ldm rfl tb22 (ev1 rfl) rfl rfl) ?_
  refine walk_r rfl rfl rfl (dop_call [] [] [] rfl (ev1 rfl) (ec (ev1 rfl) (ec (ev1 rfl) en)) rfl rfl (equalN p.b q.b) rfl rfl rfl rfl rfl rfl) ?_
  refine walk_r rfl rfl rfl (op_move (.inr rfl) (ev1 rfl)) ?_
  refine walk_nil ?_
  refine dwp_ret ?_
  refine kend0 (rs1 rfl (rv_t rfl)) rfl ?_
  rfl
set_option maxRecDepth 4000 in
set_option maxHeartbeats 1000000 in
theorem eqfD_d (l : List DOpn) : DFun Try.prog 28 [.slm 3 (l).length ((l).flatMap oD), .slm 3 (l).length ((l).flatMap oD), .fn (.func 29) [] []] [] (.val (.bool true)) [] := by
  refine dcalls_go (N := 32) 0 (by kernel_rfl) Try.func28 rfl rfl rfl (by simp only [fr0, Nat.zero_add, Nat.reduceAdd]; exact rfl) rfl fun s0 hs0 => ?_
  refine dwp_lenm (t := 0) rfl fun hl0 hL0 => ?_
  refine dwp_lenm (t := 1) rfl fun hl1 hL1 => ?_
  refine dwp_seq ?_
  refine dwp_region ?_
  refine walk_r rfl rfl rfl (op_move (.inr rfl) (ev1 rfl)) ?_
  refine walk_nil ?_
  refine dwp_seq ?_
  refine dwp_seq ?_
  refine dwp_region ?_
  refine walk_r rfl rfl rfl (op_move (.inl rfl) (ev1 rfl)) ?_
  refine walk_r rfl rfl rfl (op_lenm rfl sl24 (ev1 rfl)) ?_
  refine walk_r rfl rfl rfl (op_move (.inl rfl) (ev1 rfl)) ?_
  refine walk_r rfl rfl rfl (op_lenm rfl sl24 (ev1 rfl)) ?_
  refine walk_r rfl rfl rfl (op_neq rfl (ev1 rfl) (ev1 rfl)) ?_
  refine walk_nil ?_
  refine dwp_if_f rfl (by simp) ?_
  refine dwp_skip ?_
  refine dwp_seq ?_
  refine dwp_seq ?_
  refine dwp_region ?_
  refine walk_r rfl rfl rfl (op_move (.inl rfl) (ev1 rfl)) ?_
  refine walk_r rfl rfl rfl (op_lenm rfl sl24 (ev1 rfl)) ?_
  refine walk_r rfl rfl rfl (op_move (.inl rfl) (ev1 rfl)) ?_
  refine walk_nil ?_
  refine dwp_block ?_
  refine dwp_loopS ⟨hs0, rfl⟩ (α := Nat) (fun k => [(17, .val (.int .i64 (k : Int)))]) [(1, _), (2, _), (15, _), (16, _)] (fun k => []) [] (fun k => k ≤ l.length) (fun k => l.length - k) 0 [] (by simp) rfl ⟨rfl, rfl, rfl, rfl, trivial⟩ ⟨rfl, trivial⟩ trivial ?_
  intro k hx
  simp only [upd, List.set_cons_zero, List.set_cons_succ, List.cons_append, List.nil_append]
  have hk := hx
  refine dwp_seq ?_
  refine dwp_region ?_
  refine walk_r rfl rfl rfl (op_lss rfl (ev1 rfl) (ev1 rfl)) ?_
  refine walk_nil ?_
  refine dwp_seq ?_
  refine dwp_cond rfl (fun c2 => ?_) (fun c2 => ?_)
  · try simp only [decide_eq_true_eq, decide_eq_false_iff_not, beq_iff_eq, bne_iff_ne, beq_eq_false_iff_ne, bne_eq_false_iff_eq, Bool.not_eq_true', Bool.not_eq_false', Bool.and_eq_true, Bool.or_eq_true, Bool.or_eq_false_iff, ne_eq, Decidable.not_not, Int.not_lt, Int.not_le] at c2
    refine dwp_skip ?_
    refine dwp_seq ?_
    refine dwp_block ?_
    refine dwp_seq ?_
    refine dwp_holes 1 (by simp only [holes, List.cons_append, List.nil_append]; exact rfl) ?_
    refine dwp_region ?_
    refine walk_r rfl rfl rfl (op_move (.inl rfl) (ev1 rfl)) ?_
    refine walk_r rfl rfl rfl (op_ixmr (k) (by decide) rfl sl24 (ev1 rfl) (ev1 rfl) (fun _ => rfl) (by omega) (fun _ => rfl)) ?_
    refine walk_r rfl rfl rfl (op_lddr rfl tb44 (ev1 rfl) rfl rfl) ?_
    refine walk_w rfl rfl rfl (op_alloc 0 rfl zr44 rfl) (by simp only [upd, List.set_cons_zero, List.set_cons_succ]; exact rfl) ?_
    refine walk_r rfl rfl rfl (op_move (.inr rfl) (ev1 rfl)) ?_
    refine walk_s rfl rfl (op_stam rfl tb44 (ev1 rfl) (ev1 rfl) rfl rfl rfl rfl) (by simp only [upd, List.set_cons_zero, List.set_cons_succ]; exact rfl) ?_
    refine walk_nil ?_
    refine dwp_seq ?_
    refine dwp_holes 1 (by simp only [holes, List.cons_append, List.nil_append]; exact rfl) ?_
    refine dwp_region ?_
    refine walk_r rfl rfl rfl (op_move (.inl rfl) (ev1 rfl)) ?_
    refine walk_r rfl rfl rfl (op_move (.inl rfl) (ev1 rfl)) ?_
    refine walk_r rfl rfl rfl (op_ixmr (k) (by decide) rfl sl24 (ev1 rfl) (ev1 rfl) (fun _ => rfl) (by omega) (fun _ => rfl)) ?_
    refine walk_r rfl rfl rfl (op_lddr rfl tb44 (ev1 rfl) rfl rfl) ?_
    refine walk_w rfl rfl rfl (op_alloc 1 rfl zr44 rfl) (by simp only [upd, List.set_cons_zero, List.set_cons_succ]; exact rfl) ?_
    refine walk_s rfl rfl (op_stam rfl tb44 (ev1 rfl) (ev1 rfl) rfl rfl rfl rfl) (by simp only [upd, List.set_cons_zero, List.set_cons_succ]; exact rfl) ?_
    refine walk_nil ?_
    refine dwp_seq ?_
    refine dwp_region ?_
    refine walk_r rfl rfl rfl (op_move (.inl rfl) (ev1 rfl)) ?_
    refine walk_r rfl rfl rfl (op_ldmw rfl tb44 (ev1 rfl) rfl rfl) ?_
    refine walk_r rfl rfl rfl (op_ldmw rfl tb44 (ev1 rfl) rfl rfl) ?_
    refine walk_r rfl rfl rfl (dop_call [] [] [] rfl (ev1 rfl) (ec (ev1 rfl) (ec (ev1 rfl) en)) rfl rfl (does1_d _ _) rfl rfl rfl rfl rfl rfl) ?_
    refine walk_r rfl rfl rfl (op_not rfl (ev1 rfl)) ?_
    refine walk_nil ?_
    refine dwp_if_f rfl (by simp) ?_
    refine dwp_skip ?_
    refine dwp_region ?_
    refine walk_r rfl rfl rfl (op_add' rfl (ev1 rfl) (ev1 rfl) (fun _ => IntWalk.i64_in _ (by omega))) ?_
    refine walk_r rfl rfl rfl (op_move (.inl rfl) (ev1 rfl)) ?_
    refine walk_nil ?_
    refine ⟨k + 1, [], by omega, by simp only []; omega, rfl, ⟨rfl, rfl, rfl, rfl, rfl, trivial⟩, trivial⟩
  · try simp only [decide_eq_true_eq, decide_eq_false_iff_not, beq_iff_eq, bne_iff_ne, beq_eq_false_iff_ne, bne_eq_false_iff_eq, Bool.not_eq_true', Bool.not_eq_false', Bool.and_eq_true, Bool.or_eq_true, Bool.or_eq_false_iff, ne_eq, Decidable.not_not, Int.not_lt, Int.not_le] at c2
    refine dwp_exit ?_
    refine dwp_seq ?_
    refine dwp_region ?_
    refine walk_r rfl rfl rfl (op_move (.inr rfl) (ev1 rfl)) ?_
    refine walk_nil ?_
    refine dwp_ret ?_
    refine kend0 (rs1 rfl (rv_t rfl)) rfl ?_
    rfl
end Go.Proofs.Ytjecmkaggobcjaa

namespace Go.Proofs.Ytjecmkaggobcjaa
set_option linter.unusedVariables false
set_option linter.unusedSimpArgs false
open Go.RowKit
theorem clone_G (l : List Nat) (h : l.length ≤ 100000000) (Bs : List Mem) {k : Nat} (hk : Bs.length = k) : DFun Try.prog 38 [rB l] [.fam Bs] (.farr 0 k) [.fam (Bs ++ [rowB l])] := by
  have := clone_F l h Bs hk
  rw [List.take_length] at this
  exact this
def oK (n : Nat) (h : Int) (r : D) (dn : Bool) (fu : Int) (i : Nat) : List D := [if 0 < i then .farr 1 n else .val (.slice none 0 0), if 1 < i then .farr 1 (n + 1) else .val (.slice none 0 0), if 2 < i then .farr 1 (n + 2) else .val (.slice none 0 0), if 3 < i then .farr 1 (n + 3) else .val (.slice none 0 0), .val (.int .i64 h), r, .val (.bool dn), .val (.int .i64 fu)]
theorem oK_set {n : Nat} {h : Int} {r : D} {dn : Bool} {fu : Int} {i : Nat} (hi : i < 4) : (oK n h r dn fu i).set (0 + 0 + ((i : Int)).toNat * 1) (.farr 1 (n + i)) = oK n h r dn fu (i + 1) := by
  have : i = 0 ∨ i = 1 ∨ i = 2 ∨ i = 3 := by omega
  rcases this with rfl | rfl | rfl | rfl <;> rfl
theorem oK_lt (n : Nat) (h : Int) (dn : Bool) (fu : Int) (i : Nat) : D.ltL 4 (oK n h (.arr 2) dn fu i) = true := by
  unfold oK
  simp only [D.ltL, Bool.and_eq_true]
  exact ⟨ite_lt rfl rfl, ite_lt rfl rfl, ite_lt rfl rfl, ite_lt rfl rfl, rfl, rfl, rfl, rfl, trivial⟩
def ownX (d : DkS) : DSt × List (DOpn × Nat) := (⟨famO (opsL d.w) ++ fB (ownF d.f) 4, ownF d.f, fun i => (opsL d.w).length + i, d.h⟩, (opsL d.w).zipIdx 0)
theorem famO_len (w : List DOpn) : (famO w).length = w.length := by unfold famO; rw [List.length_map]
theorem ownX_ok (d : DkS) : XOk (ownX d) (cutD d) := by
  refine ⟨⟨fun i hi => ?_, fun i j _ _ e => ?_, fun q hq => ?_, fun i hi q hq => ?_⟩, rfl, rfl, List.zipIdx_map_fst ..⟩
  · show (famO (opsL d.w) ++ fB (ownF d.f) 4)[(opsL d.w).length + i]? = some (rowB (ownF d.f i))
    rw [List.getElem?_append_right (by rw [famO_len]; omega), famO_len, show (opsL d.w).length + i - (opsL d.w).length = i by omega]
    have : i = 0 ∨ i = 1 ∨ i = 2 ∨ i = 3 := by omega
    rcases this with rfl | rfl | rfl | rfl <;> rfl
  · have e' : (opsL d.w).length + i = (opsL d.w).length + j := e
    omega
  · obtain ⟨p, k⟩ := q
    have hq' : (p, k) ∈ (opsL d.w).zipIdx 0 := hq
    rw [List.mem_zipIdx_iff_le_and_getElem?_sub] at hq'
    have h2 : (opsL d.w)[k - 0]? = some p := hq'.2
    rw [Nat.sub_zero] at h2
    show (famO (opsL d.w) ++ fB (ownF d.f) 4)[k]? = some (rowB p.b)
    rw [List.getElem?_append_left (by rw [famO_len]; exact (List.getElem?_eq_some_iff.1 h2).1)]
    unfold famO
    rw [List.getElem?_map, h2]
    rfl
  · obtain ⟨p, k⟩ := q
    have hq' : (p, k) ∈ (opsL d.w).zipIdx 0 := hq
    rw [List.mem_zipIdx_iff_le_and_getElem?_sub] at hq'
    have h2 : (opsL d.w)[k - 0]? = some p := hq'.2
    have h3 := (List.getElem?_eq_some_iff.1 h2).1
    show (opsL d.w).length + i ≠ k
    omega
theorem frzL_xm {σ : List Nat} {V : Nat → Bool} {M : List Blk} {x : DSt × List (DOpn × Nat)} {d : DkS} {m i : Nat} {T : TypeId} (hx : XOk x d) (dn : Bool) (fu : Int) (hpj : pos σ m = none) (hVj : V m = true) (hMj : M[m]? = some (.fam x.1.B)) (hp : pos σ i = none) (hV : V i = true) (hM : M[i]? = some (.arx 44 3 x.2.length (x.2.flatMap (oF m)))) : (vwL σ V M (cGm m x.1.g x.1.h (.arr i) dn fu)).map (Blk.mix T) = some (.mix T (dD d.f d.h d.w dn fu)) := by
  have h := frz_xm hx dn fu hpj hVj hMj hp hV hM
  rw [vw] at h
  cases e : vwL σ V M (cGm m x.1.g x.1.h (.arr i) dn fu) with
  | none => rw [e] at h; cases h
  | some l =>
    rw [e] at h
    have h2 : D.agg l = .agg (dD d.f d.h d.w dn fu) := Option.some.inj h
    cases h2
    rfl
set_option maxRecDepth 4000 in
set_option maxHeartbeats 1000000 in
theorem ops_F (l : List DOpn) : DFun Try.prog 22 [.slm 3 (l).length ((l).flatMap oD)] [.fam []] (.arr 1) [.fam (famO (opsL l)), .arx 44 3 ((opsL l)).length ((((opsL l)).zipIdx 0).flatMap (oF 0))] := by
  refine dcalls_go (N := 34) 1 (by kernel_rfl) Try.func22 rfl rfl rfl (by simp only [fr0, Nat.zero_add, Nat.reduceAdd]; exact rfl) rfl fun s0 hs0 => ?_
  refine dwp_lenm (t := 0) rfl fun hl0 hL0 => ?_
  refine dwp_seq ?_
  refine dwp_region ?_
  refine walk_r rfl rfl rfl (op_move (.inr rfl) (ev1 rfl)) ?_
  refine walk_nil ?_
  refine dwp_seq ?_
  refine dwp_region ?_
  refine walk_r rfl rfl rfl (op_move (.inr rfl) (ev1 rfl)) ?_
  refine walk_nil ?_
  refine dwp_seq ?_
  refine dwp_seq ?_
  have hs6 := sixO_len l
  have hs6e : (l.take (min l.length 30)).length = (sixO l).length := rfl
  refine dwp_region ?_
  refine walk_r rfl rfl rfl (op_move (.inl rfl) (ev1 rfl)) ?_
  refine walk_r rfl rfl rfl (op_move (.inl rfl) (ev1 rfl)) ?_
  refine walk_r rfl rfl rfl (op_lenm rfl sl24 (ev1 rfl)) ?_
  refine walk_r rfl rfl rfl (op_min rfl (ev1 rfl) (ev1 rfl)) ?_
  refine walk_r rfl rfl rfl (op_slmtk (j := min l.length 30) rfl sl24 (ev1 rfl) (bd_some (ev1 rfl)) (fun _ => by omega) (fun _ => by omega) (fun _ => rfl)) ?_
  refine walk_r rfl rfl rfl (op_lenm rfl sl24 (ev1 rfl)) ?_
  refine walk_r rfl rfl rfl (op_move (.inl rfl) (ev1 rfl)) ?_
  refine walk_nil ?_
  refine dwp_block ?_
  refine dwp_adoptx 3 44 3 rfl rfl rfl ?_
  refine dwp_loopS ⟨hs0, rfl⟩ (α := Nat) (fun k => [(12, .val (.int .i64 (k : Int)))]) [(3, _), (10, _), (11, _)] (fun k => [(0, .fam (famO (fsO l k))), (1, .arx 44 3 ((fsO l k)).length ((((fsO l k)).zipIdx 0).flatMap (oF 0)))]) [.hole, .hole] (fun k => k ≤ (sixO l).length) (fun k => (sixO l).length - k) 0 [0, 1] (by simp) rfl ⟨rfl, rfl, rfl, trivial⟩ ⟨rfl, trivial⟩ ⟨rfl, rfl, trivial⟩ ?_
  intro k hx
  simp only [upd, List.set_cons_zero, List.set_cons_succ, List.cons_append, List.nil_append]
  have hk := hx
  have hfl := fsO_len hk
  refine dwp_seq ?_
  refine dwp_region ?_
  refine walk_r rfl rfl rfl (op_lss rfl (ev1 rfl) (ev1 rfl)) ?_
  refine walk_nil ?_
  refine dwp_seq ?_
  refine dwp_cond rfl (fun c1 => ?_) (fun c1 => ?_)
  · try simp only [decide_eq_true_eq, decide_eq_false_iff_not, beq_iff_eq, bne_iff_ne, beq_eq_false_iff_ne, bne_eq_false_iff_eq, Bool.not_eq_true', Bool.not_eq_false', Bool.and_eq_true, Bool.or_eq_true, Bool.or_eq_false_iff, ne_eq, Decidable.not_not, Int.not_lt, Int.not_le] at c1
    refine dwp_skip ?_
    refine dwp_seq ?_
    refine dwp_block ?_
    refine dwp_seq ?_
    have hk6 : k < (sixO l).length := by omega
    refine dwp_holes 1 (by simp only [holes, List.cons_append, List.nil_append]; exact rfl) ?_
    refine dwp_region ?_
    refine walk_r rfl rfl rfl (op_ixmr (k) (by decide) rfl sl24 (ev1 rfl) (ev1 rfl) (fun _ => rfl) ((show k < (sixO l).length by omega)) (fun _ => rfl)) ?_
    refine walk_r rfl rfl rfl (op_lddr rfl tb44 (ev1 rfl) rfl rfl) ?_
    refine walk_w rfl rfl rfl (op_alloc 2 rfl zr44 rfl) (by simp only [upd, List.set_cons_zero, List.set_cons_succ]; exact rfl) ?_
    refine walk_s rfl rfl (op_stam rfl tb44 (ev1 rfl) (ev1 rfl) rfl rfl rfl rfl) (by simp only [upd, List.set_cons_zero, List.set_cons_succ]; exact rfl) ?_
    refine walk_nil ?_
    refine dwp_holes 2 (by simp only [holes, List.cons_append, List.nil_append]; exact rfl) ?_
    refine dwp_draw [([], []), ([], []), ([2], []), ([], []), ([2], []), ([], []), ([2], []), ([], []), ([2], []), ([], []), ([], []), ([], []), ([0], [0]), ([], []), ([3], [3]), ([1, 4, 3], [1, 4]), ([], [])] mixed (by kernel_rfl) ?_
    refine lex_r rfl rfl (op_move (.inl rfl) (ev1 rfl)) ?_
    refine lex_r rfl rfl (op_fa rfl fo44_0 (ev1 rfl)) ?_
    refine lex_r rfl rfl (op_ldm rfl tb3 (ev1 rfl) rfl rfl) ?_
    refine lex_r rfl rfl (op_fa rfl fo44_1 (ev1 rfl)) ?_
    refine lex_r rfl rfl (op_ldm rfl tb3 (ev1 rfl) rfl rfl) ?_
    refine lex_r rfl rfl (op_fa rfl fo44_2 (ev1 rfl)) ?_
    refine lex_r rfl rfl (op_ldm rfl tb22 (ev1 rfl) rfl rfl) ?_
    refine lex_r rfl rfl (op_fa rfl fo44_2 (ev1 rfl)) ?_
    refine lex_r rfl rfl (op_ldm rfl tb22 (ev1 rfl) rfl rfl) ?_
    refine lex_r rfl rfl (op_len rfl sl22 (ev1 rfl)) ?_
    refine lex_r rfl rfl (op_min rfl (ev1 rfl) (ev1 rfl)) ?_
    refine lex_r rfl rfl (op_sltk (j := min ((sixO l)[k]).b.length 100) rfl sl22 (ev1 rfl) (bd_some (ev1 rfl)) (fun _ => by omega) (fun _ => by omega) (fun _ => rfl)) ?_
    refine lex_w rfl rfl (dop_call [0] [] [] rfl (ev1 rfl) (ec (ev1 rfl) en) rfl rfl (clone_G (cutO (sixO l)[k]).b (by have := cutOn (sixO l)[k]; omega) (famO (fsO l k)) (k := (fsO l k).length) (famO_len _)) rfl rfl rfl rfl rfl rfl) rfl (by simp only [upd, List.set_cons_zero, List.set_cons_succ]; exact rfl) ?_
    refine lex_r rfl rfl (op_bldD (ps := [(0, .tmp 18), (1, .tmp 20), (2, .tmp 28)]) rfl fl44 zr44 (ec (ev1 rfl) (ec (ev1 rfl) (ec (ev1 rfl) en))) rfl rfl rfl) ?_
    refine lex_w rfl rfl (op_bsxs (ps := [(0, .tmp 29)]) 3 rfl sl24 zr44 rfl (ec (ev1 rfl) en) rfl rfl rfl rfl (by decide) (by decide) rfl) rfl (by simp only [upd, List.set_cons_zero, List.set_cons_succ]; exact rfl) ?_
    refine lex_w rfl rfl (op_apprr (j := 4) rfl sl24 zr44 rfl (ev1 rfl) (ev1 rfl) rfl rfl rfl (rfl) (fun _ => ⟨by omega, by omega⟩)) rfl (by simp only [upd, List.set_cons_zero, List.set_cons_succ]; exact rfl) ?_
    refine lex_r rfl rfl (op_move (.inr rfl) (ev1 rfl)) ?_
    refine lex_nil ?_
    refine dwp_region ?_
    refine walk_r rfl rfl rfl (op_add' rfl (ev1 rfl) (ev1 rfl) (fun _ => IntWalk.i64_in _ (by omega))) ?_
    refine walk_r rfl rfl rfl (op_move (.inl rfl) (ev1 rfl)) ?_
    refine walk_nil ?_
    refine ⟨k + 1, [0, 4], by omega, by simp only []; omega, rfl, ⟨rfl, rfl, rfl, rfl, trivial⟩, ⟨congrArg (fun b => some (Blk.fam b)) (by rw [fsO_succ hk6]; unfold famO; rw [List.map_append]; rfl), ox_fits (Q := (fsO l (k + 1)).zipIdx 0) (by rw [fsO_succ hk6]; simp) ((ox_snoc 0 0 (fsO l k) (cutO (sixO l)[k]) (by simp)).trans (by rw [← fsO_succ hk6])) rfl, trivial⟩⟩
  · try simp only [decide_eq_true_eq, decide_eq_false_iff_not, beq_iff_eq, bne_iff_ne, beq_eq_false_iff_ne, bne_eq_false_iff_eq, Bool.not_eq_true', Bool.not_eq_false', Bool.and_eq_true, Bool.or_eq_true, Bool.or_eq_false_iff, ne_eq, Decidable.not_not, Int.not_lt, Int.not_le] at c1
    refine dwp_exit ?_
    refine dwp_seq ?_
    refine dwp_region ?_
    refine walk_r rfl rfl rfl (op_move (.inl rfl) (ev1 rfl)) ?_
    refine walk_r rfl rfl rfl (op_move (.inr rfl) (ev1 rfl)) ?_
    refine walk_nil ?_
    refine dwp_ret ?_
    obtain rfl : k = (sixO l).length := by omega
    rw [fsO_all]
    refine kend [0, 1] (rs1 rfl (rv_t rfl)) rfl rfl ?_ ⟨?_, ?_, trivial⟩
    rfl
    all_goals first | exact rfl | exact ox_fits (Q := (opsL l).zipIdx 0) (by simp) rfl rfl
set_option maxRecDepth 4000 in
set_option maxHeartbeats 1000000 in
theorem own_M (f : Nat → List Nat) (h : Int) (w : List DOpn) (dn : Bool) (fu : Int) : DFun Try.prog 10 [.agg (dD f h w dn fu)] [] (.agg (cG (fun i => (opsL w).length + i) h (.arr 1) dn fu)) [.fam (famO (opsL w) ++ fB (ownF f) 4), .arx 44 3 (opsL w).length (((opsL w).zipIdx 0).flatMap (oF 0))] := by
  refine dcalls_go (N := 33) 0 (by kernel_rfl) Try.func10 rfl rfl rfl (by simp only [fr0, Nat.zero_add, Nat.reduceAdd]; exact rfl) rfl fun s0 hs0 => ?_
  refine dwp_seq ?_
  refine dwp_holes 1 (by simp only [holes, List.cons_append, List.nil_append]; exact rfl) ?_
  refine dwp_region ?_
  refine walk_r rfl rfl rfl (op_boxf rfl rfl (ev1 rfl)) ?_
  refine walk_w rfl rfl rfl (op_alloc 0 rfl zr26 rfl) (by simp only [upd, List.set_cons_zero, List.set_cons_succ]; exact rfl) ?_
  refine walk_nil ?_
  refine dwp_seq ?_
  refine dwp_hole ?_
  refine dwp_fam 1 rfl (by simp only [List.cons_append, List.nil_append, List.set_cons_zero, List.set_cons_succ]; exact rfl) ?_
  refine dwp_holes 2 (by simp only [holes, List.cons_append, List.nil_append]; exact rfl) ?_
  refine dwp_draw [([], []), ([], []), ([], []), ([], []), ([], []), ([], []), ([], []), ([], []), ([1, 2], [1, 2]), ([], []), ([3], [3]), ([3], [3])] mixed (by kernel_rfl) ?_
  refine lex_r rfl rfl (op_fadm rfl fo26_1 (ev1 rfl)) ?_
  refine lex_r rfl rfl (op_lddm rfl tb3 (ev1 rfl) rfl) ?_
  refine lex_r rfl rfl (op_fadm rfl fo26_3 (ev1 rfl)) ?_
  refine lex_r rfl rfl (op_lddm rfl tb4 (ev1 rfl) rfl) ?_
  refine lex_r rfl rfl (op_fadm rfl fo26_4 (ev1 rfl)) ?_
  refine lex_r rfl rfl (op_lddm rfl tb3 (ev1 rfl) rfl) ?_
  refine lex_r rfl rfl (op_fadm rfl fo26_2 (ev1 rfl)) ?_
  refine lex_r rfl rfl (op_lddm rfl tb24 (ev1 rfl) rfl) ?_
  refine lex_w rfl rfl (dop_call [1] [] [2] rfl (ev1 rfl) (ec (ev1 rfl) en) rfl rfl (ops_F w) rfl rfl rfl (by exact (wrc rfl (wrc (by first | exact rfl | exact sb_arx (fun _ => rfl) | exact sb_arxr (nlL_flatR (fun _ => rfl) _) | exact sb_arxg (fun _ => rfl) | exact sb_arxs (fun _ => rfl)) rfl))) rfl rfl) rfl (by simp only [upd, List.set_cons_zero, List.set_cons_succ]; exact rfl) ?_
  refine lex_r rfl rfl (op_bldD (ps := [(1, .tmp 7), (3, .tmp 9), (4, .tmp 11), (2, .tmp 14)]) rfl fl26 zr26 (ec (ev1 rfl) (ec (ev1 rfl) (ec (ev1 rfl) (ec (ev1 rfl) en)))) rfl rfl rfl) ?_
  refine lex_w rfl rfl (op_alloc 3 rfl zr26 rfl) rfl (by simp only [upd, List.set_cons_zero, List.set_cons_succ]; exact rfl) ?_
  refine lex_s rfl rfl (op_stam rfl tb26 (ev1 rfl) (ev1 rfl) rfl rfl rfl rfl) rfl (by simp only [upd, List.set_cons_zero, List.set_cons_succ]; exact rfl) ?_
  refine lex_nil ?_
  refine dwp_seq ?_
  refine dwp_seq ?_
  refine dwp_region ?_
  refine walk_r rfl rfl rfl (op_fadm rfl fo26_0 (ev1 rfl)) ?_
  refine walk_r rfl rfl rfl (op_lddr rfl tb23 (ev1 rfl) rfl rfl) ?_
  refine walk_r rfl rfl rfl (op_move (.inl rfl) (ev1 rfl)) ?_
  refine walk_nil ?_
  refine dwp_block ?_
  refine dwp_loopS ⟨hs0, rfl⟩ (α := Nat) (fun i => [(18, .val (.int .i64 (i : Int)))]) [(2, _), (3, _), (17, _)] (fun i => [(1, .fam (famO (opsL w) ++ fB (ownF f) i)), (3, .mix 26 (oK (opsL w).length h (.arr 2) dn fu i))]) [_, .hole, _, .hole] (fun i => i ≤ 4) (fun i => 4 - i) 0 [0, 1, 2, 3] (by simp) rfl ⟨rfl, rfl, rfl, trivial⟩ ⟨rfl, trivial⟩ ⟨rfl, congrArg (fun b => some (Blk.fam b)) (by show _ = famO (opsL w) ++ []; rw [List.append_nil]), arxs_fits rfl rfl (fun _ => rfl), rfl, trivial⟩ ?_
  intro i hx
  simp only [upd, List.set_cons_zero, List.set_cons_succ, List.cons_append, List.nil_append]
  have hi := hx
  refine dwp_seq ?_
  refine dwp_region ?_
  refine walk_r rfl rfl rfl (op_lss rfl (ev1 rfl) (ev1 rfl)) ?_
  refine walk_nil ?_
  refine dwp_seq ?_
  refine dwp_cond rfl (fun c1 => ?_) (fun c1 => ?_)
  · try simp only [decide_eq_true_eq, decide_eq_false_iff_not, beq_iff_eq, bne_iff_ne, beq_eq_false_iff_ne, bne_eq_false_iff_eq, Bool.not_eq_true', Bool.not_eq_false', Bool.and_eq_true, Bool.or_eq_true, Bool.or_eq_false_iff, ne_eq, Decidable.not_not, Int.not_lt, Int.not_le] at c1
    refine dwp_skip ?_
    refine dwp_seq ?_
    refine dwp_block ?_
    refine dwp_seq ?_
    have hi4 : i < 4 := by omega
    refine dwp_region ?_
    refine walk_r rfl rfl rfl (op_move (.inl rfl) (ev1 rfl)) ?_
    refine walk_r rfl rfl rfl (op_ixw (i) rfl aw23 (ev1 rfl) (ev1 rfl) (fun _ => rfl) (by omega) (fcell hi4)) ?_
    refine walk_r rfl rfl rfl (op_move (.inr rfl) (ev1 rfl)) ?_
    refine walk_r rfl rfl rfl (op_move (.inr rfl) (ev1 rfl)) ?_
    refine walk_nil ?_
    refine dwp_region ?_
    refine walk_r rfl rfl rfl (op_move (.inl rfl) (ev1 rfl)) ?_
    refine walk_r rfl rfl rfl (op_move (.inl rfl) (ev1 rfl)) ?_
    refine walk_r rfl rfl rfl (op_move (.inl rfl) (ev1 rfl)) ?_
    refine walk_r rfl rfl rfl (op_len rfl sl22 (ev1 rfl)) ?_
    refine walk_r rfl rfl rfl (op_min rfl (ev1 rfl) (ev1 rfl)) ?_
    refine walk_r rfl rfl rfl (op_sltk (j := min (f i).length 300) rfl sl22 (ev1 rfl) (bd_some (ev1 rfl)) (fun _ => by omega) (fun _ => by omega) (fun _ => rfl)) ?_
    refine walk_w rfl rfl rfl (dop_call [1] [] [] rfl (ev1 rfl) (ec (ev1 rfl) en) rfl rfl (clone_G (ownF f i) (by have := ownF_len f i; omega) (famO (opsL w) ++ fB (ownF f) i) (k := (opsL w).length + i) (by rw [List.length_append, famO_len, fB_len (by omega)])) rfl rfl rfl rfl rfl rfl) (by simp only [upd, List.set_cons_zero, List.set_cons_succ]; exact rfl) ?_
    refine walk_r rfl rfl rfl (op_fa rfl fo26_0 (ev1 rfl)) ?_
    refine walk_r rfl rfl rfl (op_ixl rfl ar23 (ev1 rfl) (ev1 rfl) (fun _ => by omega)) ?_
    refine walk_s rfl rfl (op_stm rfl tb22 (ev1 rfl) (ev1 rfl) (fun s v h => by cases h <;> exact ⟨rfl, rfl⟩) rfl (by show 0 + 0 + ((i : Int)).toNat * 1 < 8; omega)) (by simp only [upd, List.set_cons_zero, List.set_cons_succ]; exact rfl) ?_
    refine walk_nil ?_
    refine dwp_region ?_
    refine walk_r rfl rfl rfl (op_add' rfl (ev1 rfl) (ev1 rfl) (fun _ => IntWalk.i64_in _ (by omega))) ?_
    refine walk_r rfl rfl rfl (op_move (.inl rfl) (ev1 rfl)) ?_
    refine walk_nil ?_
    refine ⟨i + 1, [0, 1, 2, 3], by omega, by simp only []; omega, rfl, ⟨rfl, rfl, rfl, rfl, trivial⟩, ⟨rfl, congrArg (fun b => some (Blk.fam b)) (by rw [List.append_assoc, fB_succ hi4]), arxs_fits rfl rfl (fun _ => rfl), mixl_fits (m := 4) rfl (oK_set hi4) (oK_lt _ _ _ _ _), trivial⟩⟩
  · try simp only [decide_eq_true_eq, decide_eq_false_iff_not, beq_iff_eq, bne_iff_ne, beq_eq_false_iff_ne, bne_eq_false_iff_eq, Bool.not_eq_true', Bool.not_eq_false', Bool.and_eq_true, Bool.or_eq_true, Bool.or_eq_false_iff, ne_eq, Decidable.not_not, Int.not_lt, Int.not_le] at c1
    refine dwp_exit ?_
    refine dwp_seq ?_
    obtain rfl : i = 4 := by omega
    rw [show oK (opsL w).length h (.arr 2) dn fu 4 = [.farr 1 (opsL w).length, .farr 1 ((opsL w).length + 1), .farr 1 ((opsL w).length + 2), .farr 1 ((opsL w).length + 3), .val (.int .i64 h), .arr 2, .val (.bool dn), .val (.int .i64 fu)] from rfl]
    refine dwp_region ?_
    refine walk_r rfl rfl rfl (op_ldmw rfl tb26 (ev1 rfl) rfl rfl) ?_
    refine walk_s rfl rfl (op_stam rfl tb26 (ev1 rfl) (ev1 rfl) rfl rfl rfl rfl) (by simp only [upd, List.set_cons_zero, List.set_cons_succ]; exact rfl) ?_
    refine walk_nil ?_
    refine dwp_ret ?_
    refine kend [1, 2] (rs1 rfl (rv_mw tb26 rfl rfl rfl)) rfl rfl ?_ ⟨?_, ?_, trivial⟩
    rfl
    all_goals first | exact rfl | exact ox_fits (Q := (opsL w).zipIdx 0) (by simp) rfl rfl
theorem own_MX (d : DkS) : DFun Try.prog 10 [d.d] [] (.agg (cG (ownX d).1.g (ownX d).1.h (.arr 1) d.dn d.fu)) [.fam (ownX d).1.B, .arx 44 3 (ownX d).2.length ((ownX d).2.flatMap (oF 0))] := by
  show DFun _ _ _ _ _ [_, .arx 44 3 ((opsL d.w).zipIdx 0).length _]
  rw [List.length_zipIdx]
  exact own_M d.f d.h d.w d.dn d.fu
theorem flQ (i : Nat) : ∀ Q : List (DOpn × Nat), D.flL (Q.flatMap (oF i)) = true
  | [] => rfl
  | q :: Q => by
    rw [List.flatMap_cons]
    show (true && (true && (true && D.flL (Q.flatMap (oF i))))) = true
    rw [flQ i Q]; rfl
theorem own_fl (x : DSt × List (DOpn × Nat)) (h : Int) (dn : Bool) (fu : Int) (T : TypeId) (n : Nat) : ((D.agg (cG x.1.g h (.arr 1) dn fu)).fl && [Blk.fam x.1.B, .arx T 3 n (x.2.flatMap (oF 0))].all (·.fl)) = true := by
  show (true && (true && (D.flL (x.2.flatMap (oF 0)) && true))) = true
  rw [flQ]; rfl
end Go.Proofs.Ytjecmkaggobcjaa

namespace Go.Proofs.Ytjecmkaggobcjaa
set_option linter.unusedVariables false
set_option linter.unusedSimpArgs false
open Go.RowKit
attribute [local irreducible] ownX doX runX doS atK run3
set_option maxRecDepth 4000 in
set_option maxHeartbeats 1000000 in
theorem does_law (f : Nat → List Nat) (h : Int) (w : List DOpn) (dn : Bool) (fu : Int) (y : List DOpn) : DFun Try.prog 4 [.agg (dD f h w dn fu), .slm 3 (y).length ((y).flatMap oD)] [] (.val (.bool true)) [] := by
  refine dcalls_go (N := 123) 0 (by kernel_rfl) Try.func4 rfl rfl rfl (by simp only [fr0, Nat.zero_add, Nat.reduceAdd]; exact rfl) rfl fun s0 hs0 => ?_
  refine dwp_lenm (t := 1) rfl fun hl1 hL1 => ?_
  refine dwp_seq ?_
  refine dwp_region ?_
  refine walk_r rfl rfl rfl (op_boxf rfl rfl (ev1 rfl)) ?_
  refine walk_r rfl rfl rfl (op_move (.inr rfl) (ev1 rfl)) ?_
  refine walk_nil ?_
  refine dwp_seq ?_
  refine dwp_seq ?_
  refine dwp_region ?_
  refine walk_r rfl rfl rfl (dop_call [] [] [] rfl (ev1 rfl) en rfl rfl (wakes_d) rfl rfl rfl rfl rfl rfl) ?_
  refine walk_r rfl rfl rfl (op_not rfl (ev1 rfl)) ?_
  refine walk_nil ?_
  refine dwp_if_f rfl (rfl) ?_
  refine dwp_skip ?_
  refine dwp_seq ?_
  have hyl := opsL_len y
  have hys := ops_small (w := y)
  refine dwp_holes 1 (by simp only [holes, List.cons_append, List.nil_append]; exact rfl) ?_
  refine dwp_region ?_
  refine walk_r rfl rfl rfl (op_lddr rfl tb26 (ev1 rfl) rfl rfl) ?_
  refine walk_r rfl rfl rfl (dop_call [] [] [] rfl (ev1 rfl) (ec (ev1 rfl) en) rfl rfl (own_d f h w dn fu) rfl rfl rfl rfl rfl rfl) ?_
  refine walk_r rfl rfl rfl (op_move (.inl rfl) (ev1 rfl)) ?_
  refine walk_r rfl rfl rfl (dop_call [] [] [] rfl (ev1 rfl) (ec (ev1 rfl) en) rfl rfl (ops_f y) rfl rfl rfl rfl rfl rfl) ?_
  refine walk_w rfl rfl rfl (op_alloc 0 rfl zr26 rfl) (by simp only [upd, List.set_cons_zero, List.set_cons_succ]; exact rfl) ?_
  refine walk_s rfl rfl (op_stam rfl tb26 (ev1 rfl) (ev1 rfl) rfl rfl rfl rfl) (by simp only [upd, List.set_cons_zero, List.set_cons_succ]; exact rfl) ?_
  refine walk_r rfl rfl rfl (op_move (.inr rfl) (ev1 rfl)) ?_
  refine walk_nil ?_
  refine dwp_seq ?_
  refine dwp_region ?_
  refine walk_r rfl rfl rfl (op_ldmw rfl tb26 (ev1 rfl) rfl rfl) ?_
  refine walk_r rfl rfl rfl (dop_call [] [] [] rfl (ev1 rfl) (ec (ev1 rfl) en) rfl rfl (rright_d (ownF f) h (opsL w) dn fu (own_few f w)) rfl rfl rfl rfl rfl rfl) ?_
  refine walk_r rfl rfl rfl (op_move (.inr rfl) (ev1 rfl)) ?_
  refine walk_nil ?_
  refine dwp_seq ?_
  refine dwp_holes 1 (by simp only [holes, List.cons_append, List.nil_append]; exact rfl) ?_
  refine dwp_region ?_
  refine walk_r rfl rfl rfl (op_lddr rfl tb26 (ev1 rfl) rfl rfl) ?_
  refine walk_r rfl rfl rfl (dop_call [] [] [] rfl (ev1 rfl) (ec (ev1 rfl) en) rfl rfl (own_d f h w dn fu) rfl rfl rfl rfl rfl rfl) ?_
  refine walk_w rfl rfl rfl (op_alloc 1 rfl zr26 rfl) (by simp only [upd, List.set_cons_zero, List.set_cons_succ]; exact rfl) ?_
  refine walk_s rfl rfl (op_stam rfl tb26 (ev1 rfl) (ev1 rfl) rfl rfl rfl rfl) (by simp only [upd, List.set_cons_zero, List.set_cons_succ]; exact rfl) ?_
  refine walk_nil ?_
  refine dwp_seq ?_
  refine dwp_seq ?_
  by_cases hd : chkB (ownF f) h (opsL w) dn fu = true
  · replace hd : (ownK f h w dn fu).ok := hd
    refine dwp_region ?_
    refine walk_r rfl rfl rfl (op_move (.inl rfl) (ev1 rfl)) ?_
    refine walk_r rfl rfl rfl (op_lenm rfl sl24 (ev1 rfl)) ?_
    refine walk_r rfl rfl rfl (op_move (.inl rfl) (ev1 rfl)) ?_
    refine walk_nil ?_
    refine dwp_block ?_
    refine dwp_loopS ⟨hs0, rfl⟩ (α := Nat) (fun k => [(35, .val (.int .i64 (k : Int)))]) [(1, _), (2, _), (5, _), (6, _), (7, _), (8, _), (33, _), (34, _)] (fun k => [(1, .mix 26 (dD (atK (ownK f h w dn fu) (opsL y) k).f (atK (ownK f h w dn fu) (opsL y) k).h (atK (ownK f h w dn fu) (opsL y) k).w (atK (ownK f h w dn fu) (opsL y) k).dn (atK (ownK f h w dn fu) (opsL y) k).fu))]) [_, .hole] (fun k => k ≤ (opsL y).length) (fun k => (opsL y).length - k) 0 [0, 1] (by simp) rfl ⟨rfl, rfl, rfl, rfl, rfl, rfl, rfl, rfl, trivial⟩ ⟨rfl, trivial⟩ ⟨rfl, by rw [atK_0]; rfl, trivial⟩ ?_
    intro k hx
    simp only [upd, List.set_cons_zero, List.set_cons_succ, List.cons_append, List.nil_append]
    have hk := hx
    obtain ⟨hAT, hcut⟩ := atK_ok (l := opsL y) hd (cutD_own f h w dn fu) k hk
    have hcf : ownF (atK (ownK f h w dn fu) (opsL y) k).f = (atK (ownK f h w dn fu) (opsL y) k).f := congrArg DkS.f hcut
    have hcw : opsL (atK (ownK f h w dn fu) (opsL y) k).w = (atK (ownK f h w dn fu) (opsL y) k).w := congrArg DkS.w hcut
    refine dwp_seq ?_
    refine dwp_region ?_
    refine walk_r rfl rfl rfl (op_lss rfl (ev1 rfl) (ev1 rfl)) ?_
    refine walk_nil ?_
    refine dwp_seq ?_
    refine dwp_cond rfl (fun c2 => ?_) (fun c2 => ?_)
    · try simp only [decide_eq_true_eq, decide_eq_false_iff_not, beq_iff_eq, bne_iff_ne, beq_eq_false_iff_ne, bne_eq_false_iff_eq, Bool.not_eq_true', Bool.not_eq_false', Bool.and_eq_true, Bool.or_eq_true, Bool.or_eq_false_iff, ne_eq, Decidable.not_not, Int.not_lt, Int.not_le] at c2
      refine dwp_skip ?_
      refine dwp_seq ?_
      refine dwp_block ?_
      refine dwp_seq ?_
      have hkl : k < (opsL y).length := by omega
      have hob := hys _ (List.getElem_mem hkl)
      refine dwp_holes 1 (by simp only [holes, List.cons_append, List.nil_append]; exact rfl) ?_
      refine dwp_region ?_
      refine walk_r rfl rfl rfl (op_ixmr (k) (by decide) rfl sl24 (ev1 rfl) (ev1 rfl) (fun _ => rfl) (by omega) (fun _ => rfl)) ?_
      refine walk_r rfl rfl rfl (op_lddr rfl tb44 (ev1 rfl) rfl rfl) ?_
      refine walk_w rfl rfl rfl (op_alloc 2 rfl zr44 rfl) (by simp only [upd, List.set_cons_zero, List.set_cons_succ]; exact rfl) ?_
      refine walk_s rfl rfl (op_stam rfl tb44 (ev1 rfl) (ev1 rfl) rfl rfl rfl rfl) (by simp only [upd, List.set_cons_zero, List.set_cons_succ]; exact rfl) ?_
      refine walk_nil ?_
      refine dwp_seq ?_
      by_cases hE : opE (atK (ownK f h w dn fu) (opsL y) k) ((opsL y)[k]'hkl) = 0 ∨ opE (atK (ownK f h w dn fu) (opsL y) k) ((opsL y)[k]'hkl) = 321
      · have hxX := doX_ok hAT hE
        have hSo := doS_ok hAT hE
        have hPB := PB_x hxX hSo
        have hwS := (chk0_parts (chk_parts hSo).1).2.2.2
        have hwX : (doX (atK (ownK f h w dn fu) (opsL y) k) ((opsL y)[k]'hkl)).2.length = (doS (atK (ownK f h w dn fu) (opsL y) k) ((opsL y)[k]'hkl)).w.length := hxX.len
        refine dwp_holes 3 (by simp only [holes, List.cons_append, List.nil_append]; exact rfl) ?_
        refine dwp_region ?_
        refine walk_r rfl rfl rfl (op_ldmw rfl tb26 (ev1 rfl) rfl rfl) ?_
        refine walk_r rfl rfl rfl (op_ldmw rfl tb44 (ev1 rfl) rfl rfl) ?_
        refine walk_w rfl rfl rfl (dop_call [] [] [3, 4] rfl (ev1 rfl) (ec (ev1 rfl) (ec (ev1 rfl) en)) rfl rfl (doM (atK (ownK f h w dn fu) (opsL y) k) ((opsL y)[k]'hkl) hAT hob hE) rfl rfl rfl (by exact (wrc rfl (wrc (by first | exact rfl | exact sb_arx (fun _ => rfl) | exact sb_arxr (nlL_flatR (fun _ => rfl) _) | exact sb_arxg (fun _ => rfl) | exact sb_arxs (fun _ => rfl)) rfl))) rfl rfl) (by simp only [upd, List.set_cons_zero, List.set_cons_succ]; exact rfl) ?_
        refine walk_r rfl rfl rfl (op_move (.inl rfl) (ev1 rfl)) ?_
        refine walk_r rfl rfl rfl (op_ext rfl (ev1 rfl) rfl) ?_
        refine walk_r rfl rfl rfl (op_ext rfl (ev1 rfl) rfl) ?_
        refine walk_w rfl rfl rfl (op_alloc 5 rfl zr26 rfl) (by simp only [upd, List.set_cons_zero, List.set_cons_succ]; exact rfl) ?_
        refine walk_s rfl rfl (op_stam rfl tb26 (ev1 rfl) (ev1 rfl) rfl rfl rfl rfl) (by simp only [upd, List.set_cons_zero, List.set_cons_succ]; exact rfl) ?_
        refine walk_r rfl rfl rfl (op_move (.inr rfl) (ev1 rfl)) ?_
        refine walk_nil ?_
        refine dwp_seq ?_
        refine dwp_holes 1 (by simp only [holes, List.cons_append, List.nil_append]; exact rfl) ?_
        refine dwp_region ?_
        refine walk_w rfl rfl rfl (op_alloc 6 rfl zr26 rfl) (by simp only [upd, List.set_cons_zero, List.set_cons_succ]; exact rfl) ?_
        refine walk_nil ?_
        refine dwp_seq ?_
        refine dwp_region ?_
        refine walk_r rfl rfl rfl (op_move (.inr rfl) (ev1 rfl)) ?_
        refine walk_nil ?_
        refine dwp_seq ?_
        refine dwp_seq ?_
        refine dwp_region ?_
        refine walk_r rfl rfl rfl (op_move (.inl rfl) (ev1 rfl)) ?_
        refine walk_nil ?_
        refine dwp_if_t rfl (hd) ?_
        refine dwp_draw [([1], []), ([], []), ([2], []), ([], []), ([], []), ([], []), ([], []), ([6], [6]), ([], [])] mixed (by kernel_rfl) ?_
        refine lex_r rfl rfl (op_ldmw rfl tb26 (ev1 rfl) rfl rfl) ?_
        refine lex_r rfl rfl (dop_call [] [] [] rfl (ev1 rfl) (ec (ev1 rfl) en) rfl rfl (own_d (atK (ownK f h w dn fu) (opsL y) k).f (atK (ownK f h w dn fu) (opsL y) k).h (atK (ownK f h w dn fu) (opsL y) k).w (atK (ownK f h w dn fu) (opsL y) k).dn (atK (ownK f h w dn fu) (opsL y) k).fu) rfl rfl rfl rfl rfl rfl) ?_
        refine lex_r rfl rfl (op_ldmw rfl tb44 (ev1 rfl) rfl rfl) ?_
        refine lex_r rfl rfl (dop_call [] [] [] rfl (ev1 rfl) (ec (ev1 rfl) (ec (ev1 rfl) en)) rfl rfl (rdo_d (cutD (atK (ownK f h w dn fu) (opsL y) k)) ((opsL y)[k]'hkl) (by rw [hcut]; exact hAT) hob) rfl rfl rfl rfl rfl rfl) ?_
        refine lex_r rfl rfl (op_move (.inl rfl) (ev1 rfl)) ?_
        refine lex_r rfl rfl (op_ext rfl (ev1 rfl) rfl) ?_
        refine lex_r rfl rfl (op_ext rfl (ev1 rfl) rfl) ?_
        refine lex_s rfl rfl (op_stam rfl tb26 (ev1 rfl) (ev1 rfl) rfl rfl rfl rfl) rfl (by simp only [upd, List.set_cons_zero, List.set_cons_succ]; exact rfl) ?_
        refine lex_r rfl rfl (op_move (.inr rfl) (ev1 rfl)) ?_
        refine lex_nil ?_
        refine dwp_seq ?_
        refine dwp_seq ?_
        refine dwp_region ?_
        refine walk_r rfl rfl rfl (op_move (.inl rfl) (ev1 rfl)) ?_
        refine walk_r rfl rfl rfl (op_move (.inl rfl) (ev1 rfl)) ?_
        refine walk_r rfl rfl rfl (op_neq rfl (ev1 rfl) (ev1 rfl)) ?_
        refine walk_r rfl rfl rfl (op_move (.inl rfl) (ev1 rfl)) ?_
        refine walk_gr (gd_f rfl rfl rfl) rfl rfl rfl (op_ldmw rfl tb26 (ev1 rfl) rfl rfl) ?_
        refine walk_gr (gd_f rfl rfl rfl) rfl rfl rfl (op_ldmw rfl tb26 (ev1 rfl) rfl rfl) ?_
        refine walk_gr (gd_f rfl rfl rfl) rfl rfl rfl (dop_call [] [3, 4] [] rfl (ev1 rfl) (ec (ev2 rfl) (ec (ev2 rfl) en)) (vwL_cons' (frz_xm (m := 3) (i := 4) hxX _ _ rfl rfl rfl rfl rfl rfl) (vwL_cons' rfl rfl)) rfl (rsame_d (doS (atK (ownK f h w dn fu) (opsL y) k) ((opsL y)[k]'hkl)).f (doS (atK (ownK f h w dn fu) (opsL y) k) ((opsL y)[k]'hkl)).h (doS (atK (ownK f h w dn fu) (opsL y) k) ((opsL y)[k]'hkl)).w (doS (atK (ownK f h w dn fu) (opsL y) k) ((opsL y)[k]'hkl)).dn (doS (atK (ownK f h w dn fu) (opsL y) k) ((opsL y)[k]'hkl)).fu (doS (cutD (atK (ownK f h w dn fu) (opsL y) k)) ((opsL y)[k]'hkl)).f (doS (cutD (atK (ownK f h w dn fu) (opsL y) k)) ((opsL y)[k]'hkl)).h (doS (cutD (atK (ownK f h w dn fu) (opsL y) k)) ((opsL y)[k]'hkl)).w (doS (cutD (atK (ownK f h w dn fu) (opsL y) k)) ((opsL y)[k]'hkl)).dn (doS (cutD (atK (ownK f h w dn fu) (opsL y) k)) ((opsL y)[k]'hkl)).fu (by omega)) rfl rfl rfl rfl rfl rfl) ?_
        refine walk_gr (gd_f rfl rfl rfl) rfl rfl rfl (op_not rfl (ev2 rfl)) ?_
        refine walk_r rfl rfl rfl (op_or rfl (ev1 rfl) (ev3 rfl id)) ?_
        refine walk_nil ?_
        refine dwp_if_f rfl (by rw [hcut, sameB_refl]; simp) ?_
        refine dwp_skip ?_
        refine dwp_seq ?_
        refine dwp_holes 1 (by simp only [holes, List.cons_append, List.nil_append]; exact rfl) ?_
        refine dwp_region ?_
        refine walk_r rfl rfl rfl (op_ldmw rfl tb26 (ev1 rfl) rfl rfl) ?_
        refine walk_r rfl rfl rfl (dop_call [] [] [] rfl (ev1 rfl) (ec (ev1 rfl) en) rfl rfl (own_d (atK (ownK f h w dn fu) (opsL y) k).f (atK (ownK f h w dn fu) (opsL y) k).h (atK (ownK f h w dn fu) (opsL y) k).w (atK (ownK f h w dn fu) (opsL y) k).dn (atK (ownK f h w dn fu) (opsL y) k).fu) rfl rfl rfl rfl rfl rfl) ?_
        refine walk_w rfl rfl rfl (op_alloc 7 rfl zr26 rfl) (by simp only [upd, List.set_cons_zero, List.set_cons_succ]; exact rfl) ?_
        refine walk_s rfl rfl (op_stam rfl tb26 (ev1 rfl) (ev1 rfl) rfl rfl rfl rfl) (by simp only [upd, List.set_cons_zero, List.set_cons_succ]; exact rfl) ?_
        refine walk_nil ?_
        refine dwp_seq ?_
        refine dwp_holes 1 (by simp only [holes, List.cons_append, List.nil_append]; exact rfl) ?_
        refine dwp_region ?_
        refine walk_r rfl rfl rfl (op_ldmw rfl tb26 (ev1 rfl) rfl rfl) ?_
        refine walk_w rfl rfl rfl (op_alloc 8 rfl zr26 rfl) (by simp only [upd, List.set_cons_zero, List.set_cons_succ]; exact rfl) ?_
        refine walk_s rfl rfl (op_stam rfl tb26 (ev1 rfl) (ev1 rfl) rfl rfl rfl rfl) (by simp only [upd, List.set_cons_zero, List.set_cons_succ]; exact rfl) ?_
        refine walk_nil ?_
        refine dwp_seq ?_
        refine dwp_seq ?_
        refine dwp_region ?_
        refine walk_r rfl rfl rfl (op_move (.inl rfl) (ev1 rfl)) ?_
        refine walk_r rfl rfl rfl (op_eql rfl (ev1 rfl) (ev1 rfl)) ?_
        refine walk_r rfl rfl rfl (op_move (.inl rfl) (ev1 rfl)) ?_
        refine walk_gr (gd_f rfl rfl rfl) rfl rfl rfl (op_move (.inl rfl) (ev1 rfl)) ?_
        refine walk_gr (gd_f rfl rfl rfl) rfl rfl rfl (op_eql rfl (ev2 rfl) (ev1 rfl)) ?_
        refine walk_r rfl rfl rfl (op_or rfl (ev1 rfl) (ev3 rfl id)) ?_
        refine walk_nil ?_
        refine dwp_if_t rfl (by rcases hE with e | e <;> rw [e] <;> rfl) ?_
        refine dwp_holes 2 (by simp only [holes, List.cons_append, List.nil_append]; exact rfl) ?_
        refine dwp_region ?_
        refine walk_r rfl rfl rfl (op_ldmw rfl tb26 (ev1 rfl) rfl rfl) ?_
        refine walk_w rfl rfl rfl (dop_call [] [3, 4] [9, 10] rfl (ev1 rfl) (ec (ev1 rfl) en) (vwL_cons' (frz_xm (m := 3) (i := 4) hxX _ _ rfl rfl rfl rfl rfl rfl) rfl) rfl (own_MX (doS (atK (ownK f h w dn fu) (opsL y) k) ((opsL y)[k]'hkl))) rfl rfl rfl (by exact (wrc rfl (wrc (by first | exact rfl | exact sb_arx (fun _ => rfl) | exact sb_arxr (nlL_flatR (fun _ => rfl) _) | exact sb_arxg (fun _ => rfl) | exact sb_arxs (fun _ => rfl)) rfl))) rfl (own_fl (ownX (doS (atK (ownK f h w dn fu) (opsL y) k) ((opsL y)[k]'hkl))) (ownX (doS (atK (ownK f h w dn fu) (opsL y) k) ((opsL y)[k]'hkl))).1.h (doS (atK (ownK f h w dn fu) (opsL y) k) ((opsL y)[k]'hkl)).dn (doS (atK (ownK f h w dn fu) (opsL y) k) ((opsL y)[k]'hkl)).fu 44 (ownX (doS (atK (ownK f h w dn fu) (opsL y) k) ((opsL y)[k]'hkl))).2.length)) (by simp only [upd, List.set_cons_zero, List.set_cons_succ]; exact rfl) ?_
        refine walk_s rfl rfl (op_stmw rfl tb26 (ev1 rfl) (ev1 rfl) rfl rfl rfl rfl) (by simp only [upd, List.set_cons_zero, List.set_cons_succ]; exact rfl) ?_
        refine walk_nil ?_
        refine dwp_seq ?_
        refine dwp_view ⟨hs0, rfl⟩ [0, 1, 2, 3, 4, 5, 6, 7, 8] [9, 10] [(1, _), (2, _), (5, _), (6, _), (7, _), (8, _), (11, _), (15, _), (16, _), (33, _), (34, _), (35, _)] [_, _, _, _, _, _, _, _, _] rfl ⟨rfl, rfl, rfl, rfl, rfl, rfl, rfl, rfl, rfl, rfl, rfl, rfl, trivial⟩ ⟨rfl, rfl, rfl, rfl, ox_fits (i := 3) (j := 3) rfl rfl rfl, rfl, rfl, rfl, frzL_xm (m := 9) (i := 10) (ownX_ok (doS (atK (ownK f h w dn fu) (opsL y) k) ((opsL y)[k]'hkl))) _ _ rfl rfl rfl rfl rfl rfl, trivial⟩ ?_
        refine dwp_region ?_
        refine walk_r rfl rfl rfl (op_ldmw rfl tb26 (ev1 rfl) rfl rfl) ?_
        refine walk_w rfl rfl rfl (dop_call [3, 4] [] [] rfl (ev1 rfl) (ec (ev1 rfl) en) rfl (by exact mfits _ _ ⟨rfl, (by first | exact rfl | exact arx_fits rfl rfl (vwL_flat (fun _ => rfl) _) | exact arxr_fits rfl rfl (nlL_flatR (fun _ => rfl) _) | exact arxg_fits rfl rfl (fun _ => rfl) | exact arxs_fits rfl rfl (fun _ => rfl)), trivial⟩) (spoil_F (doX (atK (ownK f h w dn fu) (opsL y) k) ((opsL y)[k]'hkl)).1.B (doX (atK (ownK f h w dn fu) (opsL y) k) ((opsL y)[k]'hkl)).1.g (doX (atK (ownK f h w dn fu) (opsL y) k) ((opsL y)[k]'hkl)).1.h (doS (atK (ownK f h w dn fu) (opsL y) k) ((opsL y)[k]'hkl)).dn (doS (atK (ownK f h w dn fu) (opsL y) k) ((opsL y)[k]'hkl)).fu (doX (atK (ownK f h w dn fu) (opsL y) k) ((opsL y)[k]'hkl)).2 (by omega) hPB.1 hPB.2) rfl rfl rfl rfl rfl rfl) (by simp only [upd, List.set_cons_zero, List.set_cons_succ]; exact rfl) ?_
        refine walk_nil ?_
        refine dwp_seq ?_
        refine dwp_seq ?_
        refine dwp_region ?_
        refine walk_r rfl rfl rfl (op_ldmw rfl tb26 (ev1 rfl) rfl rfl) ?_
        refine walk_r rfl rfl rfl (op_ldmw rfl tb26 (ev1 rfl) rfl rfl) ?_
        refine walk_r rfl rfl rfl (dop_call [] [] [] rfl (ev1 rfl) (ec (ev1 rfl) (ec (ev1 rfl) en)) rfl rfl (rsame_d (atK (ownK f h w dn fu) (opsL y) k).f (atK (ownK f h w dn fu) (opsL y) k).h (atK (ownK f h w dn fu) (opsL y) k).w (atK (ownK f h w dn fu) (opsL y) k).dn (atK (ownK f h w dn fu) (opsL y) k).fu (ownF (atK (ownK f h w dn fu) (opsL y) k).f) (atK (ownK f h w dn fu) (opsL y) k).h (opsL (atK (ownK f h w dn fu) (opsL y) k).w) (atK (ownK f h w dn fu) (opsL y) k).dn (atK (ownK f h w dn fu) (opsL y) k).fu (by have := (chk0_parts (chk_parts hAT).1).2.2.2; omega)) rfl rfl rfl rfl rfl rfl) ?_
        refine walk_r rfl rfl rfl (op_not rfl (ev1 rfl)) ?_
        refine walk_nil ?_
        refine dwp_if_f rfl (by rw [hcf, hcw, sameB_refl]; rfl) ?_
        refine dwp_skip ?_
        refine dwp_region ?_
        refine walk_r rfl rfl rfl (op_ldmw rfl tb26 (ev1 rfl) rfl rfl) ?_
        refine walk_s rfl rfl (op_stmw rfl tb26 (ev1 rfl) (ev1 rfl) rfl rfl rfl rfl) (by simp only [upd, List.set_cons_zero, List.set_cons_succ]; exact rfl) ?_
        refine walk_nil ?_
        refine dwp_region ?_
        refine walk_r rfl rfl rfl (op_add' rfl (ev1 rfl) (ev1 rfl) (fun _ => IntWalk.i64_in _ (by omega))) ?_
        refine walk_r rfl rfl rfl (op_move (.inl rfl) (ev1 rfl)) ?_
        refine walk_nil ?_
        refine ⟨k + 1, [0, 1], by omega, by simp only []; omega, rfl, ⟨rfl, rfl, rfl, rfl, rfl, rfl, rfl, rfl, rfl, trivial⟩, ⟨rfl, by rw [atK_y hkl hE]; rfl, trivial⟩⟩
      · have h0 : opE (atK (ownK f h w dn fu) (opsL y) k) ((opsL y)[k]'hkl) ≠ 0 := fun e => hE (.inl e)
        have h9 : opE (atK (ownK f h w dn fu) (opsL y) k) ((opsL y)[k]'hkl) ≠ 321 := fun e => hE (.inr e)
        refine dwp_holes 1 (by simp only [holes, List.cons_append, List.nil_append]; exact rfl) ?_
        refine dwp_region ?_
        refine walk_r rfl rfl rfl (op_ldmw rfl tb26 (ev1 rfl) rfl rfl) ?_
        refine walk_r rfl rfl rfl (op_ldmw rfl tb44 (ev1 rfl) rfl rfl) ?_
        refine walk_r rfl rfl rfl (dop_call [] [] [] rfl (ev1 rfl) (ec (ev1 rfl) (ec (ev1 rfl) en)) rfl rfl (doZ_bad (atK (ownK f h w dn fu) (opsL y) k) ((opsL y)[k]'hkl) hAT hob h0 h9) rfl rfl rfl rfl rfl rfl) ?_
        refine walk_r rfl rfl rfl (op_move (.inl rfl) (ev1 rfl)) ?_
        refine walk_r rfl rfl rfl (op_ext rfl (ev1 rfl) rfl) ?_
        refine walk_r rfl rfl rfl (op_ext rfl (ev1 rfl) rfl) ?_
        refine walk_w rfl rfl rfl (op_alloc 3 rfl zr26 rfl) (by simp only [upd, List.set_cons_zero, List.set_cons_succ]; exact rfl) ?_
        refine walk_s rfl rfl (op_stam rfl tb26 (ev1 rfl) (ev1 rfl) rfl rfl rfl rfl) (by simp only [upd, List.set_cons_zero, List.set_cons_succ]; exact rfl) ?_
        refine walk_r rfl rfl rfl (op_move (.inr rfl) (ev1 rfl)) ?_
        refine walk_nil ?_
        refine dwp_seq ?_
        refine dwp_holes 1 (by simp only [holes, List.cons_append, List.nil_append]; exact rfl) ?_
        refine dwp_region ?_
        refine walk_w rfl rfl rfl (op_alloc 4 rfl zr26 rfl) (by simp only [upd, List.set_cons_zero, List.set_cons_succ]; exact rfl) ?_
        refine walk_nil ?_
        refine dwp_seq ?_
        refine dwp_region ?_
        refine walk_r rfl rfl rfl (op_move (.inr rfl) (ev1 rfl)) ?_
        refine walk_nil ?_
        refine dwp_seq ?_
        refine dwp_seq ?_
        refine dwp_region ?_
        refine walk_r rfl rfl rfl (op_move (.inl rfl) (ev1 rfl)) ?_
        refine walk_nil ?_
        refine dwp_if_t rfl (hd) ?_
        refine dwp_draw [([1], []), ([], []), ([2], []), ([], []), ([], []), ([], []), ([], []), ([4], [4]), ([], [])] mixed (by kernel_rfl) ?_
        refine lex_r rfl rfl (op_ldmw rfl tb26 (ev1 rfl) rfl rfl) ?_
        refine lex_r rfl rfl (dop_call [] [] [] rfl (ev1 rfl) (ec (ev1 rfl) en) rfl rfl (own_d (atK (ownK f h w dn fu) (opsL y) k).f (atK (ownK f h w dn fu) (opsL y) k).h (atK (ownK f h w dn fu) (opsL y) k).w (atK (ownK f h w dn fu) (opsL y) k).dn (atK (ownK f h w dn fu) (opsL y) k).fu) rfl rfl rfl rfl rfl rfl) ?_
        refine lex_r rfl rfl (op_ldmw rfl tb44 (ev1 rfl) rfl rfl) ?_
        refine lex_r rfl rfl (dop_call [] [] [] rfl (ev1 rfl) (ec (ev1 rfl) (ec (ev1 rfl) en)) rfl rfl (rdo_d (cutD (atK (ownK f h w dn fu) (opsL y) k)) ((opsL y)[k]'hkl) (by rw [hcut]; exact hAT) hob) rfl rfl rfl rfl rfl rfl) ?_
        refine lex_r rfl rfl (op_move (.inl rfl) (ev1 rfl)) ?_
        refine lex_r rfl rfl (op_ext rfl (ev1 rfl) rfl) ?_
        refine lex_r rfl rfl (op_ext rfl (ev1 rfl) rfl) ?_
        refine lex_s rfl rfl (op_stam rfl tb26 (ev1 rfl) (ev1 rfl) rfl rfl rfl rfl) rfl (by simp only [upd, List.set_cons_zero, List.set_cons_succ]; exact rfl) ?_
        refine lex_r rfl rfl (op_move (.inr rfl) (ev1 rfl)) ?_
        refine lex_nil ?_
        refine dwp_seq ?_
        refine dwp_seq ?_
        refine dwp_region ?_
        refine walk_r rfl rfl rfl (op_move (.inl rfl) (ev1 rfl)) ?_
        refine walk_r rfl rfl rfl (op_move (.inl rfl) (ev1 rfl)) ?_
        refine walk_r rfl rfl rfl (op_neq rfl (ev1 rfl) (ev1 rfl)) ?_
        refine walk_r rfl rfl rfl (op_move (.inl rfl) (ev1 rfl)) ?_
        refine walk_gr (gd_f rfl rfl rfl) rfl rfl rfl (op_ldmw rfl tb26 (ev1 rfl) rfl rfl) ?_
        refine walk_gr (gd_f rfl rfl rfl) rfl rfl rfl (op_ldmw rfl tb26 (ev1 rfl) rfl rfl) ?_
        refine walk_gr (gd_f rfl rfl rfl) rfl rfl rfl (dop_call [] [] [] rfl (ev1 rfl) (ec (ev2 rfl) (ec (ev2 rfl) en)) rfl rfl (rsame_d zDk.f zDk.h zDk.w zDk.dn zDk.fu (doS (cutD (atK (ownK f h w dn fu) (opsL y) k)) ((opsL y)[k]'hkl)).f (doS (cutD (atK (ownK f h w dn fu) (opsL y) k)) ((opsL y)[k]'hkl)).h (doS (cutD (atK (ownK f h w dn fu) (opsL y) k)) ((opsL y)[k]'hkl)).w (doS (cutD (atK (ownK f h w dn fu) (opsL y) k)) ((opsL y)[k]'hkl)).dn (doS (cutD (atK (ownK f h w dn fu) (opsL y) k)) ((opsL y)[k]'hkl)).fu (by decide)) rfl rfl rfl rfl rfl rfl) ?_
        refine walk_gr (gd_f rfl rfl rfl) rfl rfl rfl (op_not rfl (ev2 rfl)) ?_
        refine walk_r rfl rfl rfl (op_or rfl (ev1 rfl) (ev3 rfl id)) ?_
        refine walk_nil ?_
        refine dwp_if_f rfl (by rw [hcut, doS_z h0 h9, sameB_refl]; simp) ?_
        refine dwp_skip ?_
        refine dwp_seq ?_
        refine dwp_holes 1 (by simp only [holes, List.cons_append, List.nil_append]; exact rfl) ?_
        refine dwp_region ?_
        refine walk_r rfl rfl rfl (op_ldmw rfl tb26 (ev1 rfl) rfl rfl) ?_
        refine walk_r rfl rfl rfl (dop_call [] [] [] rfl (ev1 rfl) (ec (ev1 rfl) en) rfl rfl (own_d (atK (ownK f h w dn fu) (opsL y) k).f (atK (ownK f h w dn fu) (opsL y) k).h (atK (ownK f h w dn fu) (opsL y) k).w (atK (ownK f h w dn fu) (opsL y) k).dn (atK (ownK f h w dn fu) (opsL y) k).fu) rfl rfl rfl rfl rfl rfl) ?_
        refine walk_w rfl rfl rfl (op_alloc 5 rfl zr26 rfl) (by simp only [upd, List.set_cons_zero, List.set_cons_succ]; exact rfl) ?_
        refine walk_s rfl rfl (op_stam rfl tb26 (ev1 rfl) (ev1 rfl) rfl rfl rfl rfl) (by simp only [upd, List.set_cons_zero, List.set_cons_succ]; exact rfl) ?_
        refine walk_nil ?_
        refine dwp_seq ?_
        refine dwp_holes 1 (by simp only [holes, List.cons_append, List.nil_append]; exact rfl) ?_
        refine dwp_region ?_
        refine walk_r rfl rfl rfl (op_ldmw rfl tb26 (ev1 rfl) rfl rfl) ?_
        refine walk_w rfl rfl rfl (op_alloc 6 rfl zr26 rfl) (by simp only [upd, List.set_cons_zero, List.set_cons_succ]; exact rfl) ?_
        refine walk_s rfl rfl (op_stam rfl tb26 (ev1 rfl) (ev1 rfl) rfl rfl rfl rfl) (by simp only [upd, List.set_cons_zero, List.set_cons_succ]; exact rfl) ?_
        refine walk_nil ?_
        refine dwp_seq ?_
        refine dwp_seq ?_
        refine dwp_region ?_
        refine walk_r rfl rfl rfl (op_move (.inl rfl) (ev1 rfl)) ?_
        refine walk_r rfl rfl rfl (op_eql rfl (ev1 rfl) (ev1 rfl)) ?_
        refine walk_r rfl rfl rfl (op_move (.inl rfl) (ev1 rfl)) ?_
        refine walk_gr (gd_f rfl rfl rfl) rfl rfl rfl (op_move (.inl rfl) (ev1 rfl)) ?_
        refine walk_gr (gd_f rfl rfl rfl) rfl rfl rfl (op_eql rfl (ev2 rfl) (ev1 rfl)) ?_
        refine walk_r rfl rfl rfl (op_or rfl (ev1 rfl) (ev3 rfl id)) ?_
        refine walk_nil ?_
        refine dwp_if_f rfl (by simp [h0, h9]) ?_
        refine dwp_skip ?_
        refine dwp_seq ?_
        refine dwp_region ?_
        refine walk_r rfl rfl rfl (op_ldmw rfl tb26 (ev1 rfl) rfl rfl) ?_
        refine walk_r rfl rfl rfl (dop_call [] [] [] rfl (ev1 rfl) (ec (ev1 rfl) en) rfl rfl (spoil_D) rfl rfl rfl rfl rfl rfl) ?_
        refine walk_nil ?_
        refine dwp_seq ?_
        refine dwp_seq ?_
        refine dwp_region ?_
        refine walk_r rfl rfl rfl (op_ldmw rfl tb26 (ev1 rfl) rfl rfl) ?_
        refine walk_r rfl rfl rfl (op_ldmw rfl tb26 (ev1 rfl) rfl rfl) ?_
        refine walk_r rfl rfl rfl (dop_call [] [] [] rfl (ev1 rfl) (ec (ev1 rfl) (ec (ev1 rfl) en)) rfl rfl (rsame_d (atK (ownK f h w dn fu) (opsL y) k).f (atK (ownK f h w dn fu) (opsL y) k).h (atK (ownK f h w dn fu) (opsL y) k).w (atK (ownK f h w dn fu) (opsL y) k).dn (atK (ownK f h w dn fu) (opsL y) k).fu (ownF (atK (ownK f h w dn fu) (opsL y) k).f) (atK (ownK f h w dn fu) (opsL y) k).h (opsL (atK (ownK f h w dn fu) (opsL y) k).w) (atK (ownK f h w dn fu) (opsL y) k).dn (atK (ownK f h w dn fu) (opsL y) k).fu (by have := (chk0_parts (chk_parts hAT).1).2.2.2; omega)) rfl rfl rfl rfl rfl rfl) ?_
        refine walk_r rfl rfl rfl (op_not rfl (ev1 rfl)) ?_
        refine walk_nil ?_
        refine dwp_if_f rfl (by rw [hcf, hcw, sameB_refl]; rfl) ?_
        refine dwp_skip ?_
        refine dwp_region ?_
        refine walk_r rfl rfl rfl (op_ldmw rfl tb26 (ev1 rfl) rfl rfl) ?_
        refine walk_s rfl rfl (op_stmw rfl tb26 (ev1 rfl) (ev1 rfl) rfl rfl rfl rfl) (by simp only [upd, List.set_cons_zero, List.set_cons_succ]; exact rfl) ?_
        refine walk_nil ?_
        refine dwp_region ?_
        refine walk_r rfl rfl rfl (op_add' rfl (ev1 rfl) (ev1 rfl) (fun _ => IntWalk.i64_in _ (by omega))) ?_
        refine walk_r rfl rfl rfl (op_move (.inl rfl) (ev1 rfl)) ?_
        refine walk_nil ?_
        refine ⟨k + 1, [0, 1], by omega, by simp only []; omega, rfl, ⟨rfl, rfl, rfl, rfl, rfl, rfl, rfl, rfl, rfl, trivial⟩, ⟨rfl, by rw [atK_n hkl hE]; rfl, trivial⟩⟩
    · try simp only [decide_eq_true_eq, decide_eq_false_iff_not, beq_iff_eq, bne_iff_ne, beq_eq_false_iff_ne, bne_eq_false_iff_eq, Bool.not_eq_true', Bool.not_eq_false', Bool.and_eq_true, Bool.or_eq_true, Bool.or_eq_false_iff, ne_eq, Decidable.not_not, Int.not_lt, Int.not_le] at c2
      refine dwp_exit ?_
      refine dwp_seq ?_
      by_cases hE3 : (run3 (ownK f h w dn fu) (opsL y)).2.2 = 0 ∨ (run3 (ownK f h w dn fu) (opsL y)).2.2 = 321
      · obtain ⟨hxR, hRo⟩ := runX_ok hd hE3
        have hPR := PB_x hxR hRo
        have hwR := (chk0_parts (chk_parts hRo).1).2.2.2
        have hwY : (runX (ownK f h w dn fu) (opsL y)).2.length = (run3 (ownK f h w dn fu) (opsL y)).1.w.length := hxR.len
        refine dwp_holes 3 (by simp only [holes, List.cons_append, List.nil_append]; exact rfl) ?_
        refine dwp_region ?_
        refine walk_r rfl rfl rfl (op_ldmw rfl tb26 (ev1 rfl) rfl rfl) ?_
        refine walk_r rfl rfl rfl (op_move (.inl rfl) (ev1 rfl)) ?_
        refine walk_w rfl rfl rfl (dop_call [] [] [2, 3] rfl (ev1 rfl) (ec (ev1 rfl) (ec (ev1 rfl) en)) rfl rfl (runM (ownK f h w dn fu) (opsL y) hd (by omega) hys hE3) rfl rfl rfl (by exact (wrc rfl (wrc (by first | exact rfl | exact sb_arx (fun _ => rfl) | exact sb_arxr (nlL_flatR (fun _ => rfl) _) | exact sb_arxg (fun _ => rfl) | exact sb_arxs (fun _ => rfl)) rfl))) rfl rfl) (by simp only [upd, List.set_cons_zero, List.set_cons_succ]; exact rfl) ?_
        refine walk_r rfl rfl rfl (op_move (.inl rfl) (ev1 rfl)) ?_
        refine walk_r rfl rfl rfl (op_ext rfl (ev1 rfl) rfl) ?_
        refine walk_r rfl rfl rfl (op_ext rfl (ev1 rfl) rfl) ?_
        refine walk_r rfl rfl rfl (op_ext rfl (ev1 rfl) rfl) ?_
        refine walk_w rfl rfl rfl (op_alloc 4 rfl zr26 rfl) (by simp only [upd, List.set_cons_zero, List.set_cons_succ]; exact rfl) ?_
        refine walk_s rfl rfl (op_stam rfl tb26 (ev1 rfl) (ev1 rfl) rfl rfl rfl rfl) (by simp only [upd, List.set_cons_zero, List.set_cons_succ]; exact rfl) ?_
        refine walk_r rfl rfl rfl (op_move (.inr rfl) (ev1 rfl)) ?_
        refine walk_r rfl rfl rfl (op_move (.inr rfl) (ev1 rfl)) ?_
        refine walk_nil ?_
        refine dwp_seq ?_
        refine dwp_holes 1 (by simp only [holes, List.cons_append, List.nil_append]; exact rfl) ?_
        refine dwp_region ?_
        refine walk_w rfl rfl rfl (op_alloc 5 rfl zr26 rfl) (by simp only [upd, List.set_cons_zero, List.set_cons_succ]; exact rfl) ?_
        refine walk_nil ?_
        refine dwp_seq ?_
        refine dwp_region ?_
        refine walk_r rfl rfl rfl (op_move (.inr rfl) (ev1 rfl)) ?_
        refine walk_r rfl rfl rfl (op_move (.inr rfl) (ev1 rfl)) ?_
        refine walk_nil ?_
        refine dwp_seq ?_
        refine dwp_seq ?_
        refine dwp_region ?_
        refine walk_r rfl rfl rfl (op_move (.inl rfl) (ev1 rfl)) ?_
        refine walk_nil ?_
        refine dwp_if_t rfl (hd) ?_
        refine dwp_region ?_
        refine walk_r rfl rfl rfl (op_lddr rfl tb26 (ev1 rfl) rfl rfl) ?_
        refine walk_r rfl rfl rfl (dop_call [] [] [] rfl (ev1 rfl) (ec (ev1 rfl) en) rfl rfl (own_d f h w dn fu) rfl rfl rfl rfl rfl rfl) ?_
        refine walk_r rfl rfl rfl (op_move (.inl rfl) (ev1 rfl)) ?_
        refine walk_r rfl rfl rfl (dop_call [] [] [] rfl (ev1 rfl) (ec (ev1 rfl) (ec (ev1 rfl) en)) rfl rfl (rrun_d (ownK f h w dn fu) (opsL y) hd (by omega) hys) rfl rfl rfl rfl rfl rfl) ?_
        refine walk_r rfl rfl rfl (op_move (.inl rfl) (ev1 rfl)) ?_
        refine walk_r rfl rfl rfl (op_ext rfl (ev1 rfl) rfl) ?_
        refine walk_r rfl rfl rfl (op_ext rfl (ev1 rfl) rfl) ?_
        refine walk_r rfl rfl rfl (op_ext rfl (ev1 rfl) rfl) ?_
        refine walk_s rfl rfl (op_stam rfl tb26 (ev1 rfl) (ev1 rfl) rfl rfl rfl rfl) (by simp only [upd, List.set_cons_zero, List.set_cons_succ]; exact rfl) ?_
        refine walk_r rfl rfl rfl (op_move (.inr rfl) (ev1 rfl)) ?_
        refine walk_r rfl rfl rfl (op_move (.inr rfl) (ev1 rfl)) ?_
        refine walk_nil ?_
        refine dwp_seq ?_
        refine dwp_seq ?_
        refine dwp_region ?_
        refine walk_r rfl rfl rfl (op_move (.inl rfl) (ev1 rfl)) ?_
        refine walk_r rfl rfl rfl (op_move (.inl rfl) (ev1 rfl)) ?_
        refine walk_r rfl rfl rfl (op_neq rfl (ev1 rfl) (ev1 rfl)) ?_
        refine walk_r rfl rfl rfl (op_move (.inl rfl) (ev1 rfl)) ?_
        refine walk_gr (gd_f rfl rfl rfl) rfl rfl rfl (op_move (.inl rfl) (ev1 rfl)) ?_
        refine walk_gr (gd_f rfl rfl rfl) rfl rfl rfl (op_move (.inl rfl) (ev1 rfl)) ?_
        refine walk_gr (gd_f rfl rfl rfl) rfl rfl rfl (op_neq rfl (ev2 rfl) (ev2 rfl)) ?_
        refine walk_r rfl rfl rfl (op_or rfl (ev1 rfl) (ev3 rfl id)) ?_
        refine walk_r rfl rfl rfl (op_move (.inl rfl) (ev1 rfl)) ?_
        refine walk_gr (gd_f rfl rfl rfl) rfl rfl rfl (op_ldmw rfl tb26 (ev1 rfl) rfl rfl) ?_
        refine walk_gr (gd_f rfl rfl rfl) rfl rfl rfl (op_ldmw rfl tb26 (ev1 rfl) rfl rfl) ?_
        refine walk_gr (gd_f rfl rfl rfl) rfl rfl rfl (dop_call [] [2, 3] [] rfl (ev1 rfl) (ec (ev2 rfl) (ec (ev2 rfl) en)) (vwL_cons' (frz_xm (m := 2) (i := 3) hxR _ _ rfl rfl rfl rfl rfl rfl) (vwL_cons' rfl rfl)) rfl (rsame_d (run3 (ownK f h w dn fu) (opsL y)).1.f (run3 (ownK f h w dn fu) (opsL y)).1.h (run3 (ownK f h w dn fu) (opsL y)).1.w (run3 (ownK f h w dn fu) (opsL y)).1.dn (run3 (ownK f h w dn fu) (opsL y)).1.fu (run3 (ownK f h w dn fu) (opsL y)).1.f (run3 (ownK f h w dn fu) (opsL y)).1.h (run3 (ownK f h w dn fu) (opsL y)).1.w (run3 (ownK f h w dn fu) (opsL y)).1.dn (run3 (ownK f h w dn fu) (opsL y)).1.fu (by omega)) rfl rfl rfl rfl rfl rfl) ?_
        refine walk_gr (gd_f rfl rfl rfl) rfl rfl rfl (op_not rfl (ev2 rfl)) ?_
        refine walk_r rfl rfl rfl (op_or rfl (ev1 rfl) (ev3 rfl id)) ?_
        refine walk_nil ?_
        refine dwp_if_f rfl (by rw [sameB_refl]; simp) ?_
        refine dwp_skip ?_
        refine dwp_seq ?_
        refine dwp_region ?_
        refine walk_r rfl rfl rfl (op_ldmw rfl tb26 (ev1 rfl) rfl rfl) ?_
        refine walk_w rfl rfl rfl (dop_call [2, 3] [] [] rfl (ev1 rfl) (ec (ev1 rfl) en) rfl (by exact mfits _ _ ⟨rfl, (by first | exact rfl | exact arx_fits rfl rfl (vwL_flat (fun _ => rfl) _) | exact arxr_fits rfl rfl (nlL_flatR (fun _ => rfl) _) | exact arxg_fits rfl rfl (fun _ => rfl) | exact arxs_fits rfl rfl (fun _ => rfl)), trivial⟩) (spoil_F (runX (ownK f h w dn fu) (opsL y)).1.B (runX (ownK f h w dn fu) (opsL y)).1.g (runX (ownK f h w dn fu) (opsL y)).1.h (run3 (ownK f h w dn fu) (opsL y)).1.dn (run3 (ownK f h w dn fu) (opsL y)).1.fu (runX (ownK f h w dn fu) (opsL y)).2 (by omega) hPR.1 hPR.2) rfl rfl rfl rfl rfl rfl) (by simp only [upd, List.set_cons_zero, List.set_cons_succ]; exact rfl) ?_
        refine walk_nil ?_
        refine dwp_seq ?_
        refine dwp_draw [([0], []), ([], []), ([], []), ([], []), ([], []), ([], []), ([], []), ([], []), ([], []), ([], []), ([], [])] mixed (by kernel_rfl) ?_
        refine lex_r rfl rfl (op_ldmw rfl tb26 (ev1 rfl) rfl rfl) ?_
        refine lex_r rfl rfl (op_lddr rfl tb26 (ev1 rfl) rfl rfl) ?_
        refine lex_r rfl rfl (dop_call [] [] [] rfl (ev1 rfl) (ec (ev1 rfl) en) rfl rfl (own_d f h w dn fu) rfl rfl rfl rfl rfl rfl) ?_
        refine lex_r rfl rfl (dop_call [] [] [] rfl (ev1 rfl) (ec (ev1 rfl) (ec (ev1 rfl) en)) rfl rfl (rsame_d (ownF f) h (opsL w) dn fu (ownF f) h (opsL w) dn fu (by have := opsL_len w; omega)) rfl rfl rfl rfl rfl rfl) ?_
        refine lex_r rfl rfl (op_move (.inl rfl) (ev1 rfl)) ?_
        refine lex_gr (gd_t rfl rfl rfl) rfl rfl (op_move (.inl rfl) (ev1 rfl)) ?_
        refine lex_gr (gd_t rfl rfl rfl) rfl rfl (op_move (.inl rfl) (ev1 rfl)) ?_
        refine lex_gr (gd_t rfl rfl rfl) rfl rfl (dop_call [] [] [] rfl (ev1 rfl) (ec (ev2 rfl) en) rfl rfl (ops_f y) rfl rfl rfl rfl rfl rfl) ?_
        refine lex_gr (gd_t rfl rfl rfl) rfl rfl (dop_call [] [] [] rfl (ev1 rfl) (ec (ev2 rfl) (ec (ev2 rfl) (ec (ev1 rfl) en))) rfl rfl (eqfD_d (opsL y)) rfl rfl rfl rfl rfl rfl) ?_
        refine lex_r rfl rfl (op_and rfl (ev1 rfl) (ev3 rfl id)) ?_
        refine lex_r rfl rfl (op_move (.inr rfl) (ev1 rfl)) ?_
        refine lex_nil ?_
        refine dwp_ret ?_
        refine kend0 (rs1 rfl (rv_t rfl)) rfl ?_
        first | rfl | (refine congrArg (fun b => D.val (.bool b)) ?_; simp [sameB_refl])
      · have h0 : (run3 (ownK f h w dn fu) (opsL y)).2.2 ≠ 0 := fun e => hE3 (.inl e)
        have h9 : (run3 (ownK f h w dn fu) (opsL y)).2.2 ≠ 321 := fun e => hE3 (.inr e)
        have hz := run3_z h0 h9
        refine dwp_holes 1 (by simp only [holes, List.cons_append, List.nil_append]; exact rfl) ?_
        refine dwp_region ?_
        refine walk_r rfl rfl rfl (op_ldmw rfl tb26 (ev1 rfl) rfl rfl) ?_
        refine walk_r rfl rfl rfl (op_move (.inl rfl) (ev1 rfl)) ?_
        refine walk_r rfl rfl rfl (dop_call [] [] [] rfl (ev1 rfl) (ec (ev1 rfl) (ec (ev1 rfl) en)) rfl rfl (runZ_z (ownK f h w dn fu) (opsL y) hd (by omega) hys h0 h9) rfl rfl rfl rfl rfl rfl) ?_
        refine walk_r rfl rfl rfl (op_move (.inl rfl) (ev1 rfl)) ?_
        refine walk_r rfl rfl rfl (op_ext rfl (ev1 rfl) rfl) ?_
        refine walk_r rfl rfl rfl (op_ext rfl (ev1 rfl) rfl) ?_
        refine walk_r rfl rfl rfl (op_ext rfl (ev1 rfl) rfl) ?_
        refine walk_w rfl rfl rfl (op_alloc 2 rfl zr26 rfl) (by simp only [upd, List.set_cons_zero, List.set_cons_succ]; exact rfl) ?_
        refine walk_s rfl rfl (op_stam rfl tb26 (ev1 rfl) (ev1 rfl) rfl rfl rfl rfl) (by simp only [upd, List.set_cons_zero, List.set_cons_succ]; exact rfl) ?_
        refine walk_r rfl rfl rfl (op_move (.inr rfl) (ev1 rfl)) ?_
        refine walk_r rfl rfl rfl (op_move (.inr rfl) (ev1 rfl)) ?_
        refine walk_nil ?_
        refine dwp_seq ?_
        refine dwp_holes 1 (by simp only [holes, List.cons_append, List.nil_append]; exact rfl) ?_
        refine dwp_region ?_
        refine walk_w rfl rfl rfl (op_alloc 3 rfl zr26 rfl) (by simp only [upd, List.set_cons_zero, List.set_cons_succ]; exact rfl) ?_
        refine walk_nil ?_
        refine dwp_seq ?_
        refine dwp_region ?_
        refine walk_r rfl rfl rfl (op_move (.inr rfl) (ev1 rfl)) ?_
        refine walk_r rfl rfl rfl (op_move (.inr rfl) (ev1 rfl)) ?_
        refine walk_nil ?_
        refine dwp_seq ?_
        refine dwp_seq ?_
        refine dwp_region ?_
        refine walk_r rfl rfl rfl (op_move (.inl rfl) (ev1 rfl)) ?_
        refine walk_nil ?_
        refine dwp_if_t rfl (hd) ?_
        refine dwp_region ?_
        refine walk_r rfl rfl rfl (op_lddr rfl tb26 (ev1 rfl) rfl rfl) ?_
        refine walk_r rfl rfl rfl (dop_call [] [] [] rfl (ev1 rfl) (ec (ev1 rfl) en) rfl rfl (own_d f h w dn fu) rfl rfl rfl rfl rfl rfl) ?_
        refine walk_r rfl rfl rfl (op_move (.inl rfl) (ev1 rfl)) ?_
        refine walk_r rfl rfl rfl (dop_call [] [] [] rfl (ev1 rfl) (ec (ev1 rfl) (ec (ev1 rfl) en)) rfl rfl (rrun_d (ownK f h w dn fu) (opsL y) hd (by omega) hys) rfl rfl rfl rfl rfl rfl) ?_
        refine walk_r rfl rfl rfl (op_move (.inl rfl) (ev1 rfl)) ?_
        refine walk_r rfl rfl rfl (op_ext rfl (ev1 rfl) rfl) ?_
        refine walk_r rfl rfl rfl (op_ext rfl (ev1 rfl) rfl) ?_
        refine walk_r rfl rfl rfl (op_ext rfl (ev1 rfl) rfl) ?_
        refine walk_s rfl rfl (op_stam rfl tb26 (ev1 rfl) (ev1 rfl) rfl rfl rfl rfl) (by simp only [upd, List.set_cons_zero, List.set_cons_succ]; exact rfl) ?_
        refine walk_r rfl rfl rfl (op_move (.inr rfl) (ev1 rfl)) ?_
        refine walk_r rfl rfl rfl (op_move (.inr rfl) (ev1 rfl)) ?_
        refine walk_nil ?_
        refine dwp_seq ?_
        refine dwp_seq ?_
        refine dwp_region ?_
        refine walk_r rfl rfl rfl (op_move (.inl rfl) (ev1 rfl)) ?_
        refine walk_r rfl rfl rfl (op_move (.inl rfl) (ev1 rfl)) ?_
        refine walk_r rfl rfl rfl (op_neq rfl (ev1 rfl) (ev1 rfl)) ?_
        refine walk_r rfl rfl rfl (op_move (.inl rfl) (ev1 rfl)) ?_
        refine walk_gr (gd_f rfl rfl rfl) rfl rfl rfl (op_move (.inl rfl) (ev1 rfl)) ?_
        refine walk_gr (gd_f rfl rfl rfl) rfl rfl rfl (op_move (.inl rfl) (ev1 rfl)) ?_
        refine walk_gr (gd_f rfl rfl rfl) rfl rfl rfl (op_neq rfl (ev2 rfl) (ev2 rfl)) ?_
        refine walk_r rfl rfl rfl (op_or rfl (ev1 rfl) (ev3 rfl id)) ?_
        refine walk_r rfl rfl rfl (op_move (.inl rfl) (ev1 rfl)) ?_
        refine walk_gr (gd_f rfl rfl rfl) rfl rfl rfl (op_ldmw rfl tb26 (ev1 rfl) rfl rfl) ?_
        refine walk_gr (gd_f rfl rfl rfl) rfl rfl rfl (op_ldmw rfl tb26 (ev1 rfl) rfl rfl) ?_
        refine walk_gr (gd_f rfl rfl rfl) rfl rfl rfl (dop_call [] [] [] rfl (ev1 rfl) (ec (ev2 rfl) (ec (ev2 rfl) en)) rfl rfl (rsame_d zDk.f zDk.h zDk.w zDk.dn zDk.fu (run3 (ownK f h w dn fu) (opsL y)).1.f (run3 (ownK f h w dn fu) (opsL y)).1.h (run3 (ownK f h w dn fu) (opsL y)).1.w (run3 (ownK f h w dn fu) (opsL y)).1.dn (run3 (ownK f h w dn fu) (opsL y)).1.fu (by decide)) rfl rfl rfl rfl rfl rfl) ?_
        refine walk_gr (gd_f rfl rfl rfl) rfl rfl rfl (op_not rfl (ev2 rfl)) ?_
        refine walk_r rfl rfl rfl (op_or rfl (ev1 rfl) (ev3 rfl id)) ?_
        refine walk_nil ?_
        refine dwp_if_f rfl (by rw [hz, sameB_refl]; simp) ?_
        refine dwp_skip ?_
        refine dwp_seq ?_
        refine dwp_region ?_
        refine walk_r rfl rfl rfl (op_ldmw rfl tb26 (ev1 rfl) rfl rfl) ?_
        refine walk_r rfl rfl rfl (dop_call [] [] [] rfl (ev1 rfl) (ec (ev1 rfl) en) rfl rfl (spoil_D) rfl rfl rfl rfl rfl rfl) ?_
        refine walk_nil ?_
        refine dwp_seq ?_
        refine dwp_draw [([0], []), ([], []), ([], []), ([], []), ([], []), ([], []), ([], []), ([], []), ([], []), ([], []), ([], [])] mixed (by kernel_rfl) ?_
        refine lex_r rfl rfl (op_ldmw rfl tb26 (ev1 rfl) rfl rfl) ?_
        refine lex_r rfl rfl (op_lddr rfl tb26 (ev1 rfl) rfl rfl) ?_
        refine lex_r rfl rfl (dop_call [] [] [] rfl (ev1 rfl) (ec (ev1 rfl) en) rfl rfl (own_d f h w dn fu) rfl rfl rfl rfl rfl rfl) ?_
        refine lex_r rfl rfl (dop_call [] [] [] rfl (ev1 rfl) (ec (ev1 rfl) (ec (ev1 rfl) en)) rfl rfl (rsame_d (ownF f) h (opsL w) dn fu (ownF f) h (opsL w) dn fu (by have := opsL_len w; omega)) rfl rfl rfl rfl rfl rfl) ?_
        refine lex_r rfl rfl (op_move (.inl rfl) (ev1 rfl)) ?_
        refine lex_gr (gd_t rfl rfl rfl) rfl rfl (op_move (.inl rfl) (ev1 rfl)) ?_
        refine lex_gr (gd_t rfl rfl rfl) rfl rfl (op_move (.inl rfl) (ev1 rfl)) ?_
        refine lex_gr (gd_t rfl rfl rfl) rfl rfl (dop_call [] [] [] rfl (ev1 rfl) (ec (ev2 rfl) en) rfl rfl (ops_f y) rfl rfl rfl rfl rfl rfl) ?_
        refine lex_gr (gd_t rfl rfl rfl) rfl rfl (dop_call [] [] [] rfl (ev1 rfl) (ec (ev2 rfl) (ec (ev2 rfl) (ec (ev1 rfl) en))) rfl rfl (eqfD_d (opsL y)) rfl rfl rfl rfl rfl rfl) ?_
        refine lex_r rfl rfl (op_and rfl (ev1 rfl) (ev3 rfl id)) ?_
        refine lex_r rfl rfl (op_move (.inr rfl) (ev1 rfl)) ?_
        refine lex_nil ?_
        refine dwp_ret ?_
        refine kend0 (rs1 rfl (rv_t rfl)) rfl ?_
        first | rfl | (refine congrArg (fun b => D.val (.bool b)) ?_; simp [sameB_refl])
  · have hcn : ¬ (ownK f h w dn fu).ok := hd
    have hcf : chkB (ownF f) h (opsL w) dn fu = false := by simpa using hd
    refine dwp_region ?_
    refine walk_r rfl rfl rfl (op_move (.inl rfl) (ev1 rfl)) ?_
    refine walk_r rfl rfl rfl (op_lenm rfl sl24 (ev1 rfl)) ?_
    refine walk_r rfl rfl rfl (op_move (.inl rfl) (ev1 rfl)) ?_
    refine walk_nil ?_
    refine dwp_block ?_
    refine dwp_loopS ⟨hs0, rfl⟩ (α := Nat) (fun k => [(35, .val (.int .i64 (k : Int)))]) [(1, _), (2, _), (5, _), (6, _), (7, _), (8, _), (33, _), (34, _)] (fun k => []) [_, _] (fun k => k ≤ (opsL y).length) (fun k => (opsL y).length - k) 0 [0, 1] (by simp) rfl ⟨rfl, rfl, rfl, rfl, rfl, rfl, rfl, rfl, trivial⟩ ⟨rfl, trivial⟩ ⟨rfl, rfl, trivial⟩ ?_
    intro k hx
    simp only [upd, List.set_cons_zero, List.set_cons_succ, List.cons_append, List.nil_append]
    have hk := hx
    refine dwp_seq ?_
    refine dwp_region ?_
    refine walk_r rfl rfl rfl (op_lss rfl (ev1 rfl) (ev1 rfl)) ?_
    refine walk_nil ?_
    refine dwp_seq ?_
    refine dwp_cond rfl (fun c15 => ?_) (fun c15 => ?_)
    · try simp only [decide_eq_true_eq, decide_eq_false_iff_not, beq_iff_eq, bne_iff_ne, beq_eq_false_iff_ne, bne_eq_false_iff_eq, Bool.not_eq_true', Bool.not_eq_false', Bool.and_eq_true, Bool.or_eq_true, Bool.or_eq_false_iff, ne_eq, Decidable.not_not, Int.not_lt, Int.not_le] at c15
      refine dwp_skip ?_
      refine dwp_seq ?_
      refine dwp_block ?_
      refine dwp_seq ?_
      have hkl : k < (opsL y).length := by omega
      have hob := hys _ (List.getElem_mem hkl)
      refine dwp_holes 1 (by simp only [holes, List.cons_append, List.nil_append]; exact rfl) ?_
      refine dwp_region ?_
      refine walk_r rfl rfl rfl (op_ixmr (k) (by decide) rfl sl24 (ev1 rfl) (ev1 rfl) (fun _ => rfl) (by omega) (fun _ => rfl)) ?_
      refine walk_r rfl rfl rfl (op_lddr rfl tb44 (ev1 rfl) rfl rfl) ?_
      refine walk_w rfl rfl rfl (op_alloc 2 rfl zr44 rfl) (by simp only [upd, List.set_cons_zero, List.set_cons_succ]; exact rfl) ?_
      refine walk_s rfl rfl (op_stam rfl tb44 (ev1 rfl) (ev1 rfl) rfl rfl rfl rfl) (by simp only [upd, List.set_cons_zero, List.set_cons_succ]; exact rfl) ?_
      refine walk_nil ?_
      refine dwp_seq ?_
      refine dwp_holes 1 (by simp only [holes, List.cons_append, List.nil_append]; exact rfl) ?_
      refine dwp_region ?_
      refine walk_r rfl rfl rfl (op_ldmw rfl tb26 (ev1 rfl) rfl rfl) ?_
      refine walk_r rfl rfl rfl (op_ldmw rfl tb44 (ev1 rfl) rfl rfl) ?_
      refine walk_r rfl rfl rfl (dop_call [] [] [] rfl (ev1 rfl) (ec (ev1 rfl) (ec (ev1 rfl) en)) rfl rfl (doZ_no (ownK f h w dn fu) ((opsL y)[k]'hkl) (own_few f w) hcn) rfl rfl rfl rfl rfl rfl) ?_
      refine walk_r rfl rfl rfl (op_move (.inl rfl) (ev1 rfl)) ?_
      refine walk_r rfl rfl rfl (op_ext rfl (ev1 rfl) rfl) ?_
      refine walk_r rfl rfl rfl (op_ext rfl (ev1 rfl) rfl) ?_
      refine walk_w rfl rfl rfl (op_alloc 3 rfl zr26 rfl) (by simp only [upd, List.set_cons_zero, List.set_cons_succ]; exact rfl) ?_
      refine walk_s rfl rfl (op_stam rfl tb26 (ev1 rfl) (ev1 rfl) rfl rfl rfl rfl) (by simp only [upd, List.set_cons_zero, List.set_cons_succ]; exact rfl) ?_
      refine walk_r rfl rfl rfl (op_move (.inr rfl) (ev1 rfl)) ?_
      refine walk_nil ?_
      refine dwp_seq ?_
      refine dwp_holes 1 (by simp only [holes, List.cons_append, List.nil_append]; exact rfl) ?_
      refine dwp_region ?_
      refine walk_w rfl rfl rfl (op_alloc 4 rfl zr26 rfl) (by simp only [upd, List.set_cons_zero, List.set_cons_succ]; exact rfl) ?_
      refine walk_nil ?_
      refine dwp_seq ?_
      refine dwp_region ?_
      refine walk_r rfl rfl rfl (op_move (.inr rfl) (ev1 rfl)) ?_
      refine walk_nil ?_
      refine dwp_seq ?_
      refine dwp_seq ?_
      refine dwp_region ?_
      refine walk_r rfl rfl rfl (op_move (.inl rfl) (ev1 rfl)) ?_
      refine walk_nil ?_
      refine dwp_if_f rfl (hcf) ?_
      refine dwp_skip ?_
      refine dwp_seq ?_
      refine dwp_seq ?_
      refine dwp_region ?_
      refine walk_r rfl rfl rfl (op_move (.inl rfl) (ev1 rfl)) ?_
      refine walk_r rfl rfl rfl (op_move (.inl rfl) (ev1 rfl)) ?_
      refine walk_r rfl rfl rfl (op_neq rfl (ev1 rfl) (ev1 rfl)) ?_
      refine walk_r rfl rfl rfl (op_move (.inl rfl) (ev1 rfl)) ?_
      refine walk_gr (gd_f rfl rfl rfl) rfl rfl rfl (op_ldmw rfl tb26 (ev1 rfl) rfl rfl) ?_
      refine walk_gr (gd_f rfl rfl rfl) rfl rfl rfl (op_ldw rfl tb26 (ev1 rfl) rfl rfl) ?_
      refine walk_gr (gd_f rfl rfl rfl) rfl rfl rfl (dop_call [] [] [] rfl (ev1 rfl) (ec (ev2 rfl) (ec (evwk (ev2 rfl) wk_z0) en)) rfl rfl (rsame_d zDk.f zDk.h zDk.w zDk.dn zDk.fu zDk.f zDk.h zDk.w zDk.dn zDk.fu (by decide)) rfl rfl rfl rfl rfl rfl) ?_
      refine walk_gr (gd_f rfl rfl rfl) rfl rfl rfl (op_not rfl (ev2 rfl)) ?_
      refine walk_r rfl rfl rfl (op_or rfl (ev1 rfl) (ev3 rfl id)) ?_
      refine walk_nil ?_
      refine dwp_if_f rfl (by rw [sameB_refl]; rfl) ?_
      refine dwp_skip ?_
      refine dwp_seq ?_
      refine dwp_holes 1 (by simp only [holes, List.cons_append, List.nil_append]; exact rfl) ?_
      refine dwp_region ?_
      refine walk_r rfl rfl rfl (op_ldmw rfl tb26 (ev1 rfl) rfl rfl) ?_
      refine walk_r rfl rfl rfl (dop_call [] [] [] rfl (ev1 rfl) (ec (ev1 rfl) en) rfl rfl (own_d (ownF f) h (opsL w) dn fu) rfl rfl rfl rfl rfl rfl) ?_
      refine walk_w rfl rfl rfl (op_alloc 5 rfl zr26 rfl) (by simp only [upd, List.set_cons_zero, List.set_cons_succ]; exact rfl) ?_
      refine walk_s rfl rfl (op_stam rfl tb26 (ev1 rfl) (ev1 rfl) rfl rfl rfl rfl) (by simp only [upd, List.set_cons_zero, List.set_cons_succ]; exact rfl) ?_
      refine walk_nil ?_
      refine dwp_seq ?_
      refine dwp_holes 1 (by simp only [holes, List.cons_append, List.nil_append]; exact rfl) ?_
      refine dwp_region ?_
      refine walk_r rfl rfl rfl (op_ldmw rfl tb26 (ev1 rfl) rfl rfl) ?_
      refine walk_w rfl rfl rfl (op_alloc 6 rfl zr26 rfl) (by simp only [upd, List.set_cons_zero, List.set_cons_succ]; exact rfl) ?_
      refine walk_s rfl rfl (op_stam rfl tb26 (ev1 rfl) (ev1 rfl) rfl rfl rfl rfl) (by simp only [upd, List.set_cons_zero, List.set_cons_succ]; exact rfl) ?_
      refine walk_nil ?_
      refine dwp_seq ?_
      refine dwp_seq ?_
      refine dwp_region ?_
      refine walk_r rfl rfl rfl (op_move (.inl rfl) (ev1 rfl)) ?_
      refine walk_r rfl rfl rfl (op_eql rfl (ev1 rfl) (ev1 rfl)) ?_
      refine walk_r rfl rfl rfl (op_move (.inl rfl) (ev1 rfl)) ?_
      refine walk_gr (gd_f rfl rfl rfl) rfl rfl rfl (op_move (.inl rfl) (ev1 rfl)) ?_
      refine walk_gr (gd_f rfl rfl rfl) rfl rfl rfl (op_eql rfl (ev2 rfl) (ev1 rfl)) ?_
      refine walk_r rfl rfl rfl (op_or rfl (ev1 rfl) (ev3 rfl id)) ?_
      refine walk_nil ?_
      refine dwp_if_f rfl (rfl) ?_
      refine dwp_skip ?_
      refine dwp_seq ?_
      refine dwp_region ?_
      refine walk_r rfl rfl rfl (op_ldmw rfl tb26 (ev1 rfl) rfl rfl) ?_
      refine walk_r rfl rfl rfl (dop_call [] [] [] rfl (ev1 rfl) (ec (ev1 rfl) en) rfl rfl (spoil_D) rfl rfl rfl rfl rfl rfl) ?_
      refine walk_nil ?_
      refine dwp_seq ?_
      refine dwp_seq ?_
      refine dwp_region ?_
      refine walk_r rfl rfl rfl (op_ldmw rfl tb26 (ev1 rfl) rfl rfl) ?_
      refine walk_r rfl rfl rfl (op_ldmw rfl tb26 (ev1 rfl) rfl rfl) ?_
      refine walk_r rfl rfl rfl (dop_call [] [] [] rfl (ev1 rfl) (ec (ev1 rfl) (ec (ev1 rfl) en)) rfl rfl (rsame_d (ownF f) h (opsL w) dn fu (ownF (ownF f)) h (opsL (opsL w)) dn fu (by have := opsL_len w; omega)) rfl rfl rfl rfl rfl rfl) ?_
      refine walk_r rfl rfl rfl (op_not rfl (ev1 rfl)) ?_
      refine walk_nil ?_
      refine dwp_if_f rfl (by rw [ownF_id, opsL_id, sameB_refl]; rfl) ?_
      refine dwp_skip ?_
      refine dwp_region ?_
      refine walk_r rfl rfl rfl (op_ldmw rfl tb26 (ev1 rfl) rfl rfl) ?_
      refine walk_s rfl rfl (op_stmw rfl tb26 (ev1 rfl) (ev1 rfl) rfl rfl rfl rfl) (by simp only [upd, List.set_cons_zero, List.set_cons_succ]; exact rfl) ?_
      refine walk_nil ?_
      refine dwp_region ?_
      refine walk_r rfl rfl rfl (op_add' rfl (ev1 rfl) (ev1 rfl) (fun _ => IntWalk.i64_in _ (by omega))) ?_
      refine walk_r rfl rfl rfl (op_move (.inl rfl) (ev1 rfl)) ?_
      refine walk_nil ?_
      refine ⟨k + 1, [0, 1], by omega, by simp only []; omega, rfl, ⟨rfl, rfl, rfl, rfl, rfl, rfl, rfl, rfl, rfl, trivial⟩, ⟨rfl, rfl, trivial⟩⟩
    · try simp only [decide_eq_true_eq, decide_eq_false_iff_not, beq_iff_eq, bne_iff_ne, beq_eq_false_iff_ne, bne_eq_false_iff_eq, Bool.not_eq_true', Bool.not_eq_false', Bool.and_eq_true, Bool.or_eq_true, Bool.or_eq_false_iff, ne_eq, Decidable.not_not, Int.not_lt, Int.not_le] at c15
      refine dwp_exit ?_
      refine dwp_seq ?_
      refine dwp_holes 1 (by simp only [holes, List.cons_append, List.nil_append]; exact rfl) ?_
      refine dwp_region ?_
      refine walk_r rfl rfl rfl (op_ldmw rfl tb26 (ev1 rfl) rfl rfl) ?_
      refine walk_r rfl rfl rfl (op_move (.inl rfl) (ev1 rfl)) ?_
      refine walk_r rfl rfl rfl (dop_call [] [] [] rfl (ev1 rfl) (ec (ev1 rfl) (ec (ev1 rfl) en)) rfl rfl (runZ_no (ownK f h w dn fu) (opsL y) (own_few f w) (by omega) hcn) rfl rfl rfl rfl rfl rfl) ?_
      refine walk_r rfl rfl rfl (op_move (.inl rfl) (ev1 rfl)) ?_
      refine walk_r rfl rfl rfl (op_ext rfl (ev1 rfl) rfl) ?_
      refine walk_r rfl rfl rfl (op_ext rfl (ev1 rfl) rfl) ?_
      refine walk_r rfl rfl rfl (op_ext rfl (ev1 rfl) rfl) ?_
      refine walk_w rfl rfl rfl (op_alloc 2 rfl zr26 rfl) (by simp only [upd, List.set_cons_zero, List.set_cons_succ]; exact rfl) ?_
      refine walk_s rfl rfl (op_stam rfl tb26 (ev1 rfl) (ev1 rfl) rfl rfl rfl rfl) (by simp only [upd, List.set_cons_zero, List.set_cons_succ]; exact rfl) ?_
      refine walk_r rfl rfl rfl (op_move (.inr rfl) (ev1 rfl)) ?_
      refine walk_r rfl rfl rfl (op_move (.inr rfl) (ev1 rfl)) ?_
      refine walk_nil ?_
      refine dwp_seq ?_
      refine dwp_holes 1 (by simp only [holes, List.cons_append, List.nil_append]; exact rfl) ?_
      refine dwp_region ?_
      refine walk_w rfl rfl rfl (op_alloc 3 rfl zr26 rfl) (by simp only [upd, List.set_cons_zero, List.set_cons_succ]; exact rfl) ?_
      refine walk_nil ?_
      refine dwp_seq ?_
      refine dwp_region ?_
      refine walk_r rfl rfl rfl (op_move (.inr rfl) (ev1 rfl)) ?_
      refine walk_r rfl rfl rfl (op_move (.inr rfl) (ev1 rfl)) ?_
      refine walk_nil ?_
      refine dwp_seq ?_
      refine dwp_seq ?_
      refine dwp_region ?_
      refine walk_r rfl rfl rfl (op_move (.inl rfl) (ev1 rfl)) ?_
      refine walk_nil ?_
      refine dwp_if_f rfl (hcf) ?_
      refine dwp_skip ?_
      refine dwp_seq ?_
      refine dwp_seq ?_
      refine dwp_region ?_
      refine walk_r rfl rfl rfl (op_move (.inl rfl) (ev1 rfl)) ?_
      refine walk_r rfl rfl rfl (op_move (.inl rfl) (ev1 rfl)) ?_
      refine walk_r rfl rfl rfl (op_neq rfl (ev1 rfl) (ev1 rfl)) ?_
      refine walk_r rfl rfl rfl (op_move (.inl rfl) (ev1 rfl)) ?_
      refine walk_gr (gd_f rfl rfl rfl) rfl rfl rfl (op_move (.inl rfl) (ev1 rfl)) ?_
      refine walk_gr (gd_f rfl rfl rfl) rfl rfl rfl (op_move (.inl rfl) (ev1 rfl)) ?_
      refine walk_gr (gd_f rfl rfl rfl) rfl rfl rfl (op_neq rfl (ev2 rfl) (ev2 rfl)) ?_
      refine walk_r rfl rfl rfl (op_or rfl (ev1 rfl) (ev3 rfl id)) ?_
      refine walk_r rfl rfl rfl (op_move (.inl rfl) (ev1 rfl)) ?_
      refine walk_gr (gd_f rfl rfl rfl) rfl rfl rfl (op_ldmw rfl tb26 (ev1 rfl) rfl rfl) ?_
      refine walk_gr (gd_f rfl rfl rfl) rfl rfl rfl (op_ldw rfl tb26 (ev1 rfl) rfl rfl) ?_
      refine walk_gr (gd_f rfl rfl rfl) rfl rfl rfl (dop_call [] [] [] rfl (ev1 rfl) (ec (ev2 rfl) (ec (evwk (ev2 rfl) wk_z0) en)) rfl rfl (rsame_d zDk.f zDk.h zDk.w zDk.dn zDk.fu zDk.f zDk.h zDk.w zDk.dn zDk.fu (by decide)) rfl rfl rfl rfl rfl rfl) ?_
      refine walk_gr (gd_f rfl rfl rfl) rfl rfl rfl (op_not rfl (ev2 rfl)) ?_
      refine walk_r rfl rfl rfl (op_or rfl (ev1 rfl) (ev3 rfl id)) ?_
      refine walk_nil ?_
      refine dwp_if_f rfl (by rw [sameB_refl]; rfl) ?_
      refine dwp_skip ?_
      refine dwp_seq ?_
      refine dwp_region ?_
      refine walk_r rfl rfl rfl (op_ldmw rfl tb26 (ev1 rfl) rfl rfl) ?_
      refine walk_r rfl rfl rfl (dop_call [] [] [] rfl (ev1 rfl) (ec (ev1 rfl) en) rfl rfl (spoil_D) rfl rfl rfl rfl rfl rfl) ?_
      refine walk_nil ?_
      refine dwp_seq ?_
      refine dwp_draw [([0], []), ([], []), ([], []), ([], []), ([], []), ([], []), ([], []), ([], []), ([], []), ([], []), ([], [])] mixed (by kernel_rfl) ?_
      refine lex_r rfl rfl (op_ldmw rfl tb26 (ev1 rfl) rfl rfl) ?_
      refine lex_r rfl rfl (op_lddr rfl tb26 (ev1 rfl) rfl rfl) ?_
      refine lex_r rfl rfl (dop_call [] [] [] rfl (ev1 rfl) (ec (ev1 rfl) en) rfl rfl (own_d f h w dn fu) rfl rfl rfl rfl rfl rfl) ?_
      refine lex_r rfl rfl (dop_call [] [] [] rfl (ev1 rfl) (ec (ev1 rfl) (ec (ev1 rfl) en)) rfl rfl (rsame_d (ownF f) h (opsL w) dn fu (ownF f) h (opsL w) dn fu (by have := opsL_len w; omega)) rfl rfl rfl rfl rfl rfl) ?_
      refine lex_r rfl rfl (op_move (.inl rfl) (ev1 rfl)) ?_
      refine lex_gr (gd_t rfl rfl rfl) rfl rfl (op_move (.inl rfl) (ev1 rfl)) ?_
      refine lex_gr (gd_t rfl rfl rfl) rfl rfl (op_move (.inl rfl) (ev1 rfl)) ?_
      refine lex_gr (gd_t rfl rfl rfl) rfl rfl (dop_call [] [] [] rfl (ev1 rfl) (ec (ev2 rfl) en) rfl rfl (ops_f y) rfl rfl rfl rfl rfl rfl) ?_
      refine lex_gr (gd_t rfl rfl rfl) rfl rfl (dop_call [] [] [] rfl (ev1 rfl) (ec (ev2 rfl) (ec (ev2 rfl) (ec (ev1 rfl) en))) rfl rfl (eqfD_d (opsL y)) rfl rfl rfl rfl rfl rfl) ?_
      refine lex_r rfl rfl (op_and rfl (ev1 rfl) (ev3 rfl id)) ?_
      refine lex_r rfl rfl (op_move (.inr rfl) (ev1 rfl)) ?_
      refine lex_nil ?_
      refine dwp_ret ?_
      refine kend0 (rs1 rfl (rv_t rfl)) rfl ?_
      first | rfl | (refine congrArg (fun b => D.val (.bool b)) ?_; simp [sameB_refl])
end Go.Proofs.Ytjecmkaggobcjaa

namespace Go.Proofs.Ytjecmkaggobcjaa
set_option linter.unusedVariables false
set_option linter.unusedSimpArgs false
open Go.RowKit
theorem flX_s {d : DkS} {K T : Nat} (hq : K < (X0 d).2.length) : flX d K T = tearS (stGs (X0 d).1 ((X0 d).2.take K)) ((X0 d).2[K]'hq).1 ((X0 d).2[K]'hq).2 T := by unfold flX; rw [List.getElem?_eq_getElem hq]
theorem flX_n {d : DkS} {K T : Nat} (hq : ¬ K < (X0 d).2.length) : flX d K T = stGs (X0 d).1 (X0 d).2 := by unfold flX; rw [List.getElem?_eq_none (by omega)]
theorem flX_ok {d : DkS} (hd : d.ok) (K T : Nat) : (∀ i, i < 4 → (flX d K T).B[(flX d K T).g i]? = some (rowB ((fallS d K T).f i))) ∧ (flX d K T).h = (fallS d K T).h := by
  have hx := X0_ok d
  have hxl : (X0 d).2.length = d.w.length := hx.len
  by_cases hq : K < (X0 d).2.length
  · have hkp : K < d.w.length := by omega
    rw [flX_s hq]
    have hG := GOk.steps ((X0 d).2.take K) hx.g (fun q hq => hx.may hd q (List.mem_of_mem_take hq))
    have hmem := List.getElem_mem hq
    have hof := (mayW_in (hx.may hd _ hmem)).2
    have hwo : ((X0 d).2[K]'hq).1 = d.w[K] := by
      have : ((X0 d).2.map Prod.fst)[K]? = d.w[K]? := by rw [hx.w]
      rw [List.getElem?_map, List.getElem?_eq_getElem hq, List.getElem?_eq_getElem hkp] at this
      exact Option.some.inj this
    have hf : (tearS (stGs (X0 d).1 ((X0 d).2.take K)) ((X0 d).2[K]'hq).1 ((X0 d).2[K]'hq).2 T).f = (fallS d K T).f := by
      show _ = fallF d.f d.w K T
      have e1 : (stGs (X0 d).1 ((X0 d).2.take K)).f = seF d.f (d.w.take K) := by rw [stGs_f, List.map_take, hx.w]; rfl
      unfold tearS fallF
      rw [List.getElem?_eq_getElem hkp]
      show _ = if d.w[K].kd = 1 then _ else _
      rw [hwo]
      by_cases k1 : d.w[K].kd = 1
      · rw [if_pos k1, if_pos k1]
        show doF (stGs (X0 d).1 ((X0 d).2.take K)).f _ = _
        rw [e1]
      · rw [if_neg k1, if_neg k1, e1]
    refine ⟨?_, ?_⟩
    · rw [← hf]
      unfold tearS
      by_cases k1 : ((X0 d).2[K]'hq).1.kd = 1
      · rw [if_pos k1]
        exact ((hG.out hmem).step' (o := tornO ((X0 d).2[K]'hq).1 T) hof).file
      · rw [if_neg k1]; exact hG.file
    · show _ = seH d.h (d.w.take K)
      have e1 : (stGs (X0 d).1 ((X0 d).2.take K)).h = seH d.h (d.w.take K) := by rw [stGs_h, List.map_take, hx.w]; rfl
      unfold tearS
      by_cases k1 : ((X0 d).2[K]'hq).1.kd = 1
      · rw [if_pos k1]
        show doH _ (tornO _ T) = _
        unfold doH
        rw [if_pos (by exact k1)]
        exact e1
      · rw [if_neg k1]; exact e1
  · rw [flX_n hq]
    have hG := GOk.steps (X0 d).2 hx.g (hx.may hd)
    have hf : (stGs (X0 d).1 (X0 d).2).f = (fallS d K T).f := by
      show _ = fallF d.f d.w K T
      unfold fallF
      rw [List.getElem?_eq_none (by omega), stGs_f, hx.w, List.take_of_length_le (by omega)]; rfl
    refine ⟨by rw [← hf]; exact hG.file, ?_⟩
    show _ = seH d.h (d.w.take K)
    rw [stGs_h, hx.w, List.take_of_length_le (by omega)]; rfl
theorem wk_cGn (g : Nat → Nat) (h : Int) (dn : Bool) (fu : Int) (e : Value) : Wk (.tup [.agg (cG g h (.val (.slice none 0 0)) dn fu), .val e]) (.tup [.agg (cG g h (.slm 3 0 []) dn fu), .val e]) :=
  Wk.tup (WkL.cons (Wk.agg (WkL.cons (Wk.refl _) (WkL.cons (Wk.refl _) (WkL.cons (Wk.refl _) (WkL.cons (Wk.refl _) (WkL.cons (Wk.refl _) (WkL.cons (Wk.slm0 3) (WkL.refl _)))))))) (WkL.refl _))
theorem fallM (d : DkS) (hd : d.ok) (a b : Int) (h : 0 ≤ a ∧ 0 ≤ b) : DFun Try.prog 31 [d.d, .val (.int .i64 a), .val (.int .i64 b)] [] (.tup [.agg (cG (flX d a.toNat b.toNat).g (fallS d a.toNat b.toNat).h (.slm 3 0 []) true 0), .val (.int .i64 0)]) [.fam (flX d a.toNat b.toNat).B] := by
  have e1 : ((a.toNat : Nat) : Int) = a := by omega
  have e2 : ((b.toNat : Nat) : Int) = b := by omega
  have hxl : (X0 d).2.length = d.w.length := (X0_ok d).len
  have hh := (flX_ok hd a.toNat b.toNat).2
  rw [← hh]
  by_cases hq : a.toNat < (X0 d).2.length
  · have h1 := fall_stop d hd a.toNat b.toNat (by omega) hq
    rw [e1, e2, ← flX_s hq] at h1
    exact h1.wk (wk_cGn _ _ _ _ _)
  · have h1 := fall_go d hd a.toNat b.toNat (by omega)
    rw [e1, e2, ← flX_n (T := b.toNat) hq] at h1
    exact h1.wk (wk_cGn _ _ _ _ _)
theorem armX_ok (d : DkS) (n : Int) : XOk (X0 d) (armS d n) := ⟨(X0_ok d).g, (X0_ok d).f, (X0_ok d).h, (X0_ok d).w⟩
theorem armM (d : DkS) (n : Int) (hd : d.ok) (hn : 0 ≤ n ∧ n ≤ 4096) (hdn : d.dn = false) : DFun Try.prog 30 [d.d, .val (.int .i64 n)] [] (.tup [.agg (cG (X0 d).1.g (X0 d).1.h (.arr 1) d.dn n), .val (.int .i64 0)]) [.fam (X0 d).1.B, .arx 44 3 (X0 d).2.length ((X0 d).2.flatMap (oF 0))] := by
  have h1 := arm_ok d.f d.h d.w d.dn d.fu n (few_of hd) hd hn hdn
  rw [(X0_ok d).len]
  exact h1
theorem rfallI (d : DkS) (hd : d.ok) (a b : Int) (h : 0 ≤ a ∧ 0 ≤ b) : DFun Try.prog 32 [d.d, .val (.int .i64 a), .val (.int .i64 b)] [] (fallS d a.toNat b.toNat).d [] := by
  have e1 : ((a.toNat : Nat) : Int) = a := by omega
  have e2 : ((b.toNat : Nat) : Int) = b := by omega
  have := rfall_d d hd a.toNat b.toNat
  rw [e1, e2] at this
  exact this
theorem fall_same (d : DkS) (K T : Nat) : sameB (fallS d K T).f (fallS d K T).h [] true 0 (fallS d K T).f (fallS d K T).h (fallS d K T).w (fallS d K T).dn (fallS d K T).fu = true := sameB_refl (fallS d K T).f (fallS d K T).h [] true 0
def pairV (p : Int × Int) : List Value := [.int .i64 p.1, .int .i64 p.2]
end Go.Proofs.Ytjecmkaggobcjaa

namespace Go.Proofs.Ytjecmkaggobcjaa
set_option linter.unusedVariables false
set_option linter.unusedSimpArgs false
open Go.RowKit
open Go.ChangeShapes Go.WideShapes Go.ChangeAt Go.Joins Go.Deep
theorem fits_pair : ∀ cs, fitsP [.int .i64, .int .i64] cs → ∃ a : Int × Int, True ∧ cs = pairV a
  | [c0, c1], h => by
    obtain ⟨h0, h1, _⟩ := h
    obtain ⟨x0, _, rfl⟩ := fits_prim_i64 h0
    obtain ⟨x1, _, rfl⟩ := fits_prim_i64 h1
    exact ⟨(x0, x1), trivial, rfl⟩
  | [], h => by cases h
  | [_], h => by obtain ⟨_, h⟩ := h; cases h
  | _ :: _ :: _ :: _, h => by obtain ⟨_, _, h⟩ := h; cases h
end Go.Proofs.Ytjecmkaggobcjaa
