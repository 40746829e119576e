/- Operations: numbers, bools, structs, memory that is read and written. Conditions: what a type is, by the kernel; From a contract to the statement: a law whose call returns true whatever its arguments read as; with listed variables, too.  but the kernel's look at the program; stamps; turned four times, flipped twice. No condition. -/
import Derived.Test.YtadjbiccndaclaaQ5
import Derived.Test.YtadjbiccndaclaaRows
namespace Go.Proofs.Ytadjbiccndaclaa
set_option linter.unusedVariables false
set_option linter.unusedSimpArgs false
open Go.RowKit

/-! ### what a type is -/
section
variable {P : Program} {pc : Bool} {o : Oper} {F : Fr} {M : List Blk}
section
variable {T T' : TypeId} {x y : Operand} {k : IntKind} {p q : Int}
end
theorem op_neg {T : TypeId} {x : Operand} {k : IntKind} {p : Int} (ho : o.op = .unOp .neg T x) (hx : Ev pc F x (.val (.int k p))) : DOp P pc o F M [] (.val (.int k (k.wrap (0 - p)))) [] := by
  intro hp a s hok hops _
  have h1 := (ev_at hp hx (by simp [ho, Op.operands]) hops).val_eq
  refine dg_val (v := .int k (k.wrap (0 - p))) hok ?_ (.val _)
  unfold execOp
  simp only [ho, h1]
  exact run_v (by simp [Op.unary, Op.intArith])
section
variable {T : TypeId} {x : Operand} {i p k : Nat} {L R : List Value} {v : Value}
end
section
variable {T : TypeId} {x y : Operand} {i p n sz : Nat} {k : IntKind} {z : Int} {L : List Value}
variable {e : TypeId} {by' m : Nat}
end
end
end Go.Proofs.Ytadjbiccndaclaa
namespace Go.Proofs.Ytadjbiccndaclaa
set_option linter.unusedVariables false
set_option linter.unusedSimpArgs false
open Go.ChangeShapes Go.WideShapes Go.ChangeAt Go.RowKit Go.Joins Go.Deep
set_option maxRecDepth 100000
section
variable {H : Type} {enc : TypeId × Value → H} {w : World} {base b0 : Nat} {r : Reach} {spare : Nat → Bool} {held : Bool} {v : Value} {d : DataW H} {p : List MemPlace}
theorem open_prim {α : Type} {t : TypeId} {q : Prim} (mk : α → Value) (ok : α → Prop) (hP : ∀ v, q.is v → ∃ a, ok a ∧ v = mk a) (hf : flatT Try.prog 1 t = some [q]) (hv : ∃ u : Value, v = u ∧ u.cells = #[u]) (h : DataW.Trod enc Try.prog w base spare held t v d p) : ∃ a, ok a ∧ v = mk a := by
  obtain ⟨u, rfl, hc⟩ := hv
  obtain ⟨fuel, hfu⟩ := h
  have hfit := flat_trod 1 _ _ _ _ _ hf hfu
  rw [hc] at hfit
  exact hP v hfit.1
end
end Go.Proofs.Ytadjbiccndaclaa
namespace Go.Proofs.Ytadjbiccndaclaa
set_option maxRecDepth 4000
set_option linter.unusedVariables false
set_option linter.unusedSimpArgs false
open Go.RowKit
theorem ext_S {W H : Nat} {l r : List C4} (hl : l.length = W * H) (hr : r.length = W * H) (h : ∀ x y, x < W → y < H → getS W l x y = getS W r x y) : l = r := by
  apply List.ext_getElem (by omega)
  intro k h1 h2
  obtain ⟨g1, g2⟩ := ix_hi (W := W) (H := H) (k := k) (by omega)
  have := h (k % W) (k / W) g2 g1
  unfold getS at this
  rw [ix_back, List.getD_eq_getElem?_getD, List.getD_eq_getElem?_getD, List.getElem?_eq_getElem h1, List.getElem?_eq_getElem h2] at this
  exact this
theorem get_turn {W H : Nat} {l : List C4} {x y : Nat} (hx : x < H) (hy : y < W) : getS H (turnL W H l) x y = getS W l y (H - 1 - x) := by
  have hk : y * H + x < W * H := by rw [Nat.mul_comm W H]; exact ix_lt hx hy
  rw [getS, turnL, List.getD_eq_getElem?_getD, List.getElem?_map, List.getElem?_range hk]
  show getS W l ((y * H + x) / H) (H - 1 - (y * H + x) % H) = _
  rw [ix_div hx, ix_mod hx]
theorem get_flip {W H : Nat} {l : List C4} {x y : Nat} (hx : x < W) (hy : y < H) : getS W (flipL W H l) x y = getS W l (W - 1 - x) y := by
  have hk : y * W + x < W * H := ix_lt hx hy
  rw [getS, flipL, List.getD_eq_getElem?_getD, List.getElem?_map, List.getElem?_range hk]
  show getS W l (W - 1 - (y * W + x) % W) ((y * W + x) / W) = _
  rw [ix_div hx, ix_mod hx]
theorem st_ext {s t : StM} (hs : s.ok) (ht : t.ok) (hW : s.W = t.W) (hH : s.H = t.H) (h : ∀ x y, x < s.W → y < s.H → getS s.W s.l x y = getS s.W t.l x y) : s = t := by
  obtain ⟨W, H, l⟩ := s
  obtain ⟨W', H', l'⟩ := t
  dsimp only at hW hH h
  subst hW hH
  have e : l = l' := ext_S hs.len ht.len h
  subst e
  rfl
theorem flip2 {s : StM} (h : s.ok) : flipS (flipS s) = s := st_ext (flipS_ok (flipS_ok h)) h rfl rfl fun x y hx hy => by
  show getS s.W (flipL s.W s.H (flipL s.W s.H s.l)) x y = _
  change x < s.W at hx
  change y < s.H at hy
  rw [get_flip hx hy, get_flip (by omega) hy, show s.W - 1 - (s.W - 1 - x) = x by omega]
  rfl
theorem turn4 {s : StM} (h : s.ok) : turnN 4 s = s := st_ext (turnN_ok 4 h) h rfl rfl fun x y hx hy => by
  show getS s.W (turnL s.H s.W (turnL s.W s.H (turnL s.H s.W (turnL s.W s.H s.l)))) x y = getS s.W s.l x y
  change x < s.W at hx
  change y < s.H at hy
  rw [get_turn hx hy, get_turn hy (by omega), get_turn (by omega) (by omega), get_turn (by omega) (by omega), show s.W - 1 - (s.W - 1 - x) = x by omega, show s.H - 1 - (s.H - 1 - y) = y by omega]
theorem flip_turn {s : StM} (h : s.ok) : flipS (turnS (flipS s)) = turnN 3 s := st_ext (flipS_ok (turnS_ok (flipS_ok h))) (turnN_ok 3 h) rfl rfl fun x y hx hy => by
  show getS s.H (flipL s.H s.W (turnL s.W s.H (flipL s.W s.H s.l))) x y = getS s.H (turnL s.W s.H (turnL s.H s.W (turnL s.W s.H s.l))) x y
  change x < s.H at hx
  change y < s.W at hy
  rw [get_flip hx hy, get_turn (by omega) hy, get_flip (by omega) (by omega), get_turn hx hy, get_turn (by omega) (by omega), get_turn (by omega) (by omega), show s.H - 1 - (s.H - 1 - x) = x by omega]
theorem turnN_4n {s : StM} (h : s.ok) {n m : Nat} (e : n % 4 = m % 4) : turnN n s = turnN m s := by
  have key : ∀ q r : Nat, turnN (4 * q + r) s = turnN r s := fun q r => by
    induction q with
    | zero => rw [Nat.mul_zero, Nat.zero_add]
    | succ q ih => rw [show 4 * (q + 1) + r = 4 + (4 * q + r) by omega, ← turnN_add 4, turn4 h, ih]
  rw [← Nat.div_add_mod n 4, ← Nat.div_add_mod m 4, key, key, e]
theorem flip_turnN {s : StM} (h : s.ok) : ∀ n : Nat, flipS (turnN n (flipS s)) = turnN (3 * n) s := fun n => by
  induction n with
  | zero => exact flip2 h
  | succ n ih =>
    have e : turnN (n + 1) (flipS s) = turnS (turnN n (flipS s)) := by rw [← turnN_add n 1]; rfl
    have hk := turnN_ok n (flipS_ok h)
    have e2 : turnN n (flipS s) = flipS (flipS (turnN n (flipS s))) := (flip2 hk).symm
    rw [e, e2, flip_turn (flipS_ok hk), ih, turnN_add]
    rfl
end Go.Proofs.Ytadjbiccndaclaa
namespace Go.Proofs.Ytadjbiccndaclaa
set_option maxRecDepth 4000
set_option linter.unusedVariables false
set_option linter.unusedSimpArgs false
open Go.RowKit
theorem wear_perm {l r : List C4} (h : l.Perm r) : wearN l = wearN r := (h.filter _).length_eq
theorem map_perm (l : List C4) {N : Nat} (hl : l.length = N) (g f : Nat → Nat) (hg : ∀ k, k < N → g k < N ∧ f (g k) = k) (hf : ∀ i, i < N → f i < N ∧ g (f i) = i) : ((List.range N).map fun k => l.getD (g k) zC4).Perm l := by
  have h1 : ((List.range N).map g).Perm (List.range N) := by
    refine (List.perm_ext_iff_of_nodup ?_ List.nodup_range).2 fun a => ?_
    · refine List.pairwise_map.2 (List.nodup_range.imp_of_mem fun {a b} ha hb hne e => hne ?_)
      rw [← (hg a (List.mem_range.1 ha)).2, ← (hg b (List.mem_range.1 hb)).2, e]
    · rw [List.mem_map, List.mem_range]
      constructor
      · rintro ⟨k, hk, rfl⟩
        exact (hg k (List.mem_range.1 hk)).1
      · intro ha
        exact ⟨f a, List.mem_range.2 (hf a ha).1, (hf a ha).2⟩
  have h2 := h1.map fun i => l.getD i zC4
  rw [List.map_map] at h2
  have e : (List.range N).map (fun i => l.getD i zC4) = l := by
    apply List.ext_getElem?
    intro i
    rw [List.getElem?_map]
    by_cases hi : i < N
    · rw [List.getElem?_range hi, List.getElem?_eq_getElem (by omega)]
      simp only [Option.map_some, List.getD_eq_getElem?_getD, List.getElem?_eq_getElem (show i < l.length by omega)]
      rfl
    · rw [List.getElem?_eq_none (by simpa using hi), List.getElem?_eq_none (by omega)]; rfl
  rw [e] at h2
  exact h2
theorem wear_turnL {W H : Nat} {l : List C4} (hs : StOk W H l) : wearN (turnL W H l) = wearN l := by
  refine wear_perm (map_perm l hs.len (fun k => (H - 1 - k % H) * W + k / H) (toT W H) (fun k hk => ?_) fun i hi => ?_)
  · obtain ⟨h1, h2⟩ := ix_hi (W := H) (H := W) (k := k) (by rw [Nat.mul_comm]; exact hk)
    have h3 : H - 1 - k % H < H := Nat.lt_of_le_of_lt (Nat.sub_le _ _) (by omega)
    refine ⟨ix_lt h1 h3, ?_⟩
    unfold toT
    rw [ix_mod h1, ix_div h1]
    have e := ix_back (W := H) k
    generalize k % H = r at h2 e ⊢
    rw [show H - 1 - (H - 1 - r) = r by omega]
    exact e
  · obtain ⟨h1, h2⟩ := ix_hi hi
    obtain ⟨e1, e2⟩ := toT_of h1 h2
    exact ⟨e2, e1.trans (ix_back i)⟩
theorem wear_turnN : ∀ (n : Nat) {s : StM}, s.ok → wearN (turnN n s).l = wearN s.l
  | 0, _, _ => rfl
  | n + 1, s, h => by
    show wearN (turnN n (turnS s)).l = _
    rw [wear_turnN n (turnS_ok h)]
    exact wear_turnL h
theorem qN_neg (q : Int) : qN (-(q.tmod 4)) % 4 = (3 * qN q) % 4 ∧ (qN q + qN (-(q.tmod 4))) % 4 = 0 := by
  obtain ⟨h1, h2, h3⟩ := qN_eq q
  obtain ⟨h4, h5, h6⟩ := qN_eq (-(q.tmod 4))
  have e : (-(q.tmod 4)).tmod 4 = -(q.tmod 4) := by
    rw [Int.neg_tmod]
    congr 1
    rcases Int.le_total 0 (q.tmod 4) with h | h
    · rw [Int.tmod_eq_emod_of_nonneg h]; omega
    · have e2 : q.tmod 4 = -(-(q.tmod 4)) := by omega
      rw [e2, Int.neg_tmod, Int.tmod_eq_emod_of_nonneg (by omega)]; omega
  rw [e] at h5
  omega
set_option maxRecDepth 4000 in
set_option maxHeartbeats 1000000 in
theorem sback_d (w h : Int) (l : List C4) (q : Int) : DFun Try.prog 6 [.agg [.val (.int .i64 w), .val (.int .i64 h), .slf 4 l.length (l.flatMap c4)], .val (.int .i64 q)] [] (.val (.bool true)) [] := by
  refine dcalls_go (N := 140) 0 (by kernel_rfl) Try.func6 rfl rfl rfl (by simp only [fr0, Nat.zero_add, Nat.reduceAdd]; exact rfl) rfl fun s0 hs0 => ?_
  refine zaf ?_
  refine zai 1 (by simp only [holes, List.cons_append, List.nil_append]; exact rfl) ?_
  refine zad ?_
  refine zak rfl rfl rfl (op_boxam 0 rfl (ev1 rfl) rfl) (by simp only [upd, za, zaa]; exact rfl) ?_
  refine zab rfl rfl rfl (zac (.inr rfl) (ev1 rfl)) ?_
  refine zae ?_
  refine zaf ?_
  refine zaf ?_
  refine zad ?_
  refine zab rfl rfl rfl (zaj [] [] [] rfl (ev1 rfl) en rfl rfl (swakes_d) rfl rfl rfl rfl rfl rfl) ?_
  refine zab rfl rfl rfl (op_not rfl (ev1 rfl)) ?_
  refine zae ?_
  refine dwp_if_f rfl (rfl) ?_
  refine dwp_skip ?_
  refine zaf ?_
  obtain ⟨L, hL⟩ : ∃ L, L = l.take 66 := ⟨_, rfl⟩
  have hq := qN_eq q
  refine zai 1 (by simp only [holes, List.cons_append, List.nil_append]; exact rfl) ?_
  refine zad ?_
  refine zab rfl rfl rfl (op_ldmw rfl tb24 (ev1 rfl) rfl rfl) ?_
  refine zab rfl rfl rfl (zaj [] [] [] rfl (ev1 rfl) (ec (ev1 rfl) en) rfl rfl ((by rw [hL]; exact sown_d w h l : DFun Try.prog 9 [.agg [.val (.int .i64 w), .val (.int .i64 h), .slf 4 l.length (l.flatMap c4)]] [] (.agg [.val (.int .i64 w), .val (.int .i64 h), .slf 4 L.length (L.flatMap c4)]) [])) rfl rfl rfl rfl rfl rfl) ?_
  refine zak rfl rfl rfl (zal 1 rfl zr24 rfl) (by simp only [upd, za, zaa]; exact rfl) ?_
  refine walk_s rfl rfl (op_stam rfl tb24 (ev1 rfl) (ev1 rfl) rfl rfl rfl rfl) (by simp only [upd, za, zaa]; exact rfl) ?_
  refine zae ?_
  refine zaf ?_
  by_cases hright : rightS w h L = true
  · obtain ⟨W, H, rfl, rfl, hs⟩ := rightS_ok hright
    obtain ⟨s, hse⟩ : ∃ s : StM, s = ⟨W, H, L⟩ := ⟨_, rfl⟩
    have hsk : s.ok := by rw [hse]; exact hs
    obtain ⟨rfl, rfl, rfl⟩ : W = s.W ∧ H = s.H ∧ L = s.l := by rw [hse]; exact ⟨rfl, rfl, rfl⟩
    have hq2 := qN_neg q
    refine zai 1 (by simp only [holes, List.cons_append, List.nil_append]; exact rfl) ?_
    refine zad ?_
    refine zab rfl rfl rfl (op_ldmw rfl tb24 (ev1 rfl) rfl rfl) ?_
    refine zab rfl rfl rfl (zac (.inl rfl) (ev1 rfl)) ?_
    refine zab rfl rfl rfl (zaj [] [] [] rfl (ev1 rfl) (ec (ev1 rfl) (ec (ev1 rfl) en)) rfl rfl (turn_d s hsk q) rfl rfl rfl rfl rfl rfl) ?_
    refine zab rfl rfl rfl (zac (.inl rfl) (ev1 rfl)) ?_
    refine zab rfl rfl rfl (op_ext rfl (ev1 rfl) rfl) ?_
    refine zab rfl rfl rfl (op_ext rfl (ev1 rfl) rfl) ?_
    refine zak rfl rfl rfl (zal 2 rfl zr24 rfl) (by simp only [upd, za, zaa]; exact rfl) ?_
    refine walk_s rfl rfl (op_stam rfl tb24 (ev1 rfl) (ev1 rfl) rfl rfl rfl rfl) (by simp only [upd, za, zaa]; exact rfl) ?_
    refine zab rfl rfl rfl (zac (.inr rfl) (ev1 rfl)) ?_
    refine zae ?_
    refine zaf ?_
    refine zaf ?_
    refine zad ?_
    refine zab rfl rfl rfl (zac (.inl rfl) (ev1 rfl)) ?_
    refine zab rfl rfl rfl (op_neq rfl (ev1 rfl) (ev1 rfl)) ?_
    refine zae ?_
    refine dwp_if_f rfl (rfl) ?_
    refine dwp_skip ?_
    refine zaf ?_
    refine zai 1 (by simp only [holes, List.cons_append, List.nil_append]; exact rfl) ?_
    refine zad ?_
    refine zab rfl rfl rfl (op_ldmw rfl tb24 (ev1 rfl) rfl rfl) ?_
    refine zak rfl rfl rfl (zal 3 rfl zr24 rfl) (by simp only [upd, za, zaa]; exact rfl) ?_
    refine walk_s rfl rfl (op_stam rfl tb24 (ev1 rfl) (ev1 rfl) rfl rfl rfl rfl) (by simp only [upd, za, zaa]; exact rfl) ?_
    refine zae ?_
    refine zaf ?_
    refine zaf ?_
    refine zad ?_
    refine zab rfl rfl rfl (zac (.inl rfl) (ev1 rfl)) ?_
    refine zae ?_
    refine dwp_block ?_
    refine dwp_loopS ⟨hs0, rfl⟩ (α := Nat) (fun k => [(7, .val (.int .i64 0)), (44, .val (.int .i64 (k : Int)))]) [(1, _), (5, _), (6, _), (8, _)] (fun k => [(3, .mix 24 [.val (.int .i64 ((turnN k s).W : Int)), .val (.int .i64 ((turnN k s).H : Int)), .slf 4 (turnN k s).l.length ((turnN k s).l.flatMap c4)])]) [_, _, _, .hole] (fun k => k ≤ 4) (fun k => 4 - k) 0 [0, 1, 2, 3] (Nat.zero_le _) rfl ⟨rfl, rfl, rfl, rfl, trivial⟩ ⟨rfl, rfl, trivial⟩ ⟨rfl, rfl, rfl, rfl, trivial⟩ ?_
    intro k hx
    simp only [upd, za, zaa, List.cons_append, List.nil_append]
    have hk := hx
    have hok := turnN_ok k hsk
    refine zaf ?_
    refine zad ?_
    refine zab rfl rfl rfl (op_lss rfl (ev1 rfl) (ev1 rfl)) ?_
    refine zae ?_
    refine zaf ?_
    refine dwp_cond rfl (fun c3 => ?_) (fun c3 => ?_)
    · try simp only [decide_eq_true_eq, decide_eq_false_iff_not, beq_iff_eq, bne_iff_ne, beq_eq_false_iff_ne, bne_eq_false_iff_eq, Bool.not_eq_true', Bool.not_eq_false', Bool.and_eq_true, Bool.or_eq_true, Bool.or_eq_false_iff, ne_eq, Decidable.not_not, Int.not_lt, Int.not_le] at c3
      refine dwp_skip ?_
      refine zaf ?_
      refine dwp_block ?_
      refine zaf ?_
      refine zad ?_
      refine zab rfl rfl rfl (op_ldmw rfl tb24 (ev1 rfl) rfl rfl) ?_
      refine zab rfl rfl rfl (zaj [] [] [] rfl (ev1 rfl) (ec (ev1 rfl) (ec (ev1 rfl) en)) rfl rfl (turn_d (turnN k s) hok 1) rfl rfl rfl rfl rfl rfl) ?_
      refine zab rfl rfl rfl (zac (.inl rfl) (ev1 rfl)) ?_
      refine zab rfl rfl rfl (op_ext rfl (ev1 rfl) rfl) ?_
      refine zab rfl rfl rfl (op_ext rfl (ev1 rfl) rfl) ?_
      refine walk_s rfl rfl (op_stmw rfl tb24 (ev1 rfl) (ev1 rfl) rfl rfl rfl rfl) (by simp only [upd, za, zaa]; exact rfl) ?_
      refine zab rfl rfl rfl (zac (.inr rfl) (ev1 rfl)) ?_
      refine zae ?_
      refine zaf ?_
      refine zad ?_
      refine zab rfl rfl rfl (zac (.inl rfl) (ev1 rfl)) ?_
      refine zab rfl rfl rfl (op_neq rfl (ev1 rfl) (ev1 rfl)) ?_
      refine zae ?_
      refine dwp_if_f rfl (rfl) ?_
      refine dwp_skip ?_
      refine zad ?_
      refine zab rfl rfl rfl (op_add' rfl (ev1 rfl) (ev1 rfl) (fun _ => IntWalk.i64_in _ (by omega))) ?_
      refine zab rfl rfl rfl (zac (.inl rfl) (ev1 rfl)) ?_
      refine zae ?_
      refine ⟨k + 1, [0, 1, 2, 3], by omega, by simp only []; omega, rfl, ⟨rfl, rfl, rfl, rfl, rfl, rfl, trivial⟩, ⟨rfl, rfl, rfl, by rw [turnN_succ]; rfl, trivial⟩⟩
    · try simp only [decide_eq_true_eq, decide_eq_false_iff_not, beq_iff_eq, bne_iff_ne, beq_eq_false_iff_ne, bne_eq_false_iff_eq, Bool.not_eq_true', Bool.not_eq_false', Bool.and_eq_true, Bool.or_eq_true, Bool.or_eq_false_iff, ne_eq, Decidable.not_not, Int.not_lt, Int.not_le] at c3
      refine dwp_exit ?_
      refine zaf ?_
      obtain rfl : k = 4 := by omega
      rw [turn4 hsk]
      refine zai 1 (by simp only [holes, List.cons_append, List.nil_append]; exact rfl) ?_
      refine zad ?_
      refine zab rfl rfl rfl (op_ldmw rfl tb24 (ev1 rfl) rfl rfl) ?_
      refine zab rfl rfl rfl (zac (.inl rfl) (ev1 rfl)) ?_
      refine zab rfl rfl rfl (op_rem rfl (ev1 rfl) (ev1 rfl) (fun _ => by omega)) ?_
      refine zab rfl rfl rfl ((op_neg rfl (ev1 rfl)).cast (d' := .val (.int .i64 (-(q.tmod 4)))) (by rw [IntWalk.i64_in _ (by omega)]; simp)) ?_
      refine zab rfl rfl rfl (zaj [] [] [] rfl (ev1 rfl) (ec (ev1 rfl) (ec (ev1 rfl) en)) rfl rfl (turn_d (turnN (qN q) s) (turnN_ok _ hsk) (-(q.tmod 4))) rfl rfl rfl rfl rfl rfl) ?_
      refine zab rfl rfl rfl (zac (.inl rfl) (ev1 rfl)) ?_
      refine zab rfl rfl rfl (op_ext rfl (ev1 rfl) rfl) ?_
      refine zab rfl rfl rfl (op_ext rfl (ev1 rfl) rfl) ?_
      refine zak rfl rfl rfl (zal 4 rfl zr24 rfl) (by simp only [upd, za, zaa]; exact rfl) ?_
      refine walk_s rfl rfl (op_stam rfl tb24 (ev1 rfl) (ev1 rfl) rfl rfl rfl rfl) (by simp only [upd, za, zaa]; exact rfl) ?_
      refine zab rfl rfl rfl (zac (.inr rfl) (ev1 rfl)) ?_
      refine zae ?_
      refine zaf ?_
      refine zai 1 (by simp only [holes, List.cons_append, List.nil_append]; exact rfl) ?_
      refine zad ?_
      refine zab rfl rfl rfl (op_ldmw rfl tb24 (ev1 rfl) rfl rfl) ?_
      refine zab rfl rfl rfl (zaj [] [] [] rfl (ev1 rfl) (ec (ev1 rfl) en) rfl rfl (flip_d s hsk) rfl rfl rfl rfl rfl rfl) ?_
      refine zab rfl rfl rfl (zac (.inl rfl) (ev1 rfl)) ?_
      refine zab rfl rfl rfl (op_ext rfl (ev1 rfl) rfl) ?_
      refine zab rfl rfl rfl (op_ext rfl (ev1 rfl) rfl) ?_
      refine zak rfl rfl rfl (zal 5 rfl zr24 rfl) (by simp only [upd, za, zaa]; exact rfl) ?_
      refine walk_s rfl rfl (op_stam rfl tb24 (ev1 rfl) (ev1 rfl) rfl rfl rfl rfl) (by simp only [upd, za, zaa]; exact rfl) ?_
      refine zab rfl rfl rfl (zac (.inr rfl) (ev1 rfl)) ?_
      refine zae ?_
      refine zaf ?_
      refine zai 1 (by simp only [holes, List.cons_append, List.nil_append]; exact rfl) ?_
      refine zad ?_
      refine zab rfl rfl rfl (op_ldmw rfl tb24 (ev1 rfl) rfl rfl) ?_
      refine zab rfl rfl rfl (zaj [] [] [] rfl (ev1 rfl) (ec (ev1 rfl) en) rfl rfl (flip_d (flipS s) (flipS_ok hsk)) rfl rfl rfl rfl rfl rfl) ?_
      refine zab rfl rfl rfl (zac (.inl rfl) (ev1 rfl)) ?_
      refine zab rfl rfl rfl (op_ext rfl (ev1 rfl) rfl) ?_
      refine zab rfl rfl rfl (op_ext rfl (ev1 rfl) rfl) ?_
      refine zak rfl rfl rfl (zal 6 rfl zr24 rfl) (by simp only [upd, za, zaa]; exact rfl) ?_
      refine walk_s rfl rfl (op_stam rfl tb24 (ev1 rfl) (ev1 rfl) rfl rfl rfl rfl) (by simp only [upd, za, zaa]; exact rfl) ?_
      refine zab rfl rfl rfl (zac (.inr rfl) (ev1 rfl)) ?_
      refine zae ?_
      refine zaf ?_
      refine zai 1 (by simp only [holes, List.cons_append, List.nil_append]; exact rfl) ?_
      refine zad ?_
      refine zab rfl rfl rfl (op_ldmw rfl tb24 (ev1 rfl) rfl rfl) ?_
      refine zab rfl rfl rfl (zac (.inl rfl) (ev1 rfl)) ?_
      refine zab rfl rfl rfl (zaj [] [] [] rfl (ev1 rfl) (ec (ev1 rfl) (ec (ev1 rfl) en)) rfl rfl (turn_d (flipS s) (flipS_ok hsk) q) rfl rfl rfl rfl rfl rfl) ?_
      refine zab rfl rfl rfl (zac (.inl rfl) (ev1 rfl)) ?_
      refine zab rfl rfl rfl (op_ext rfl (ev1 rfl) rfl) ?_
      refine zab rfl rfl rfl (op_ext rfl (ev1 rfl) rfl) ?_
      refine zak rfl rfl rfl (zal 7 rfl zr24 rfl) (by simp only [upd, za, zaa]; exact rfl) ?_
      refine walk_s rfl rfl (op_stam rfl tb24 (ev1 rfl) (ev1 rfl) rfl rfl rfl rfl) (by simp only [upd, za, zaa]; exact rfl) ?_
      refine zab rfl rfl rfl (zac (.inr rfl) (ev1 rfl)) ?_
      refine zae ?_
      refine zaf ?_
      refine zai 1 (by simp only [holes, List.cons_append, List.nil_append]; exact rfl) ?_
      refine zad ?_
      refine zab rfl rfl rfl (op_ldmw rfl tb24 (ev1 rfl) rfl rfl) ?_
      refine zab rfl rfl rfl (zaj [] [] [] rfl (ev1 rfl) (ec (ev1 rfl) en) rfl rfl (flip_d (turnN (qN q) (flipS s)) (turnN_ok _ (flipS_ok hsk))) rfl rfl rfl rfl rfl rfl) ?_
      refine zab rfl rfl rfl (zac (.inl rfl) (ev1 rfl)) ?_
      refine zab rfl rfl rfl (op_ext rfl (ev1 rfl) rfl) ?_
      refine zab rfl rfl rfl (op_ext rfl (ev1 rfl) rfl) ?_
      refine zak rfl rfl rfl (zal 8 rfl zr24 rfl) (by simp only [upd, za, zaa]; exact rfl) ?_
      refine walk_s rfl rfl (op_stam rfl tb24 (ev1 rfl) (ev1 rfl) rfl rfl rfl rfl) (by simp only [upd, za, zaa]; exact rfl) ?_
      refine zab rfl rfl rfl (zac (.inr rfl) (ev1 rfl)) ?_
      refine zae ?_
      refine zaf ?_
      refine zai 1 (by simp only [holes, List.cons_append, List.nil_append]; exact rfl) ?_
      refine zad ?_
      refine zab rfl rfl rfl (op_ldmw rfl tb24 (ev1 rfl) rfl rfl) ?_
      refine zab rfl rfl rfl (zac (.inl rfl) (ev1 rfl)) ?_
      refine zab rfl rfl rfl (op_rem rfl (ev1 rfl) (ev1 rfl) (fun _ => by omega)) ?_
      refine zab rfl rfl rfl ((op_neg rfl (ev1 rfl)).cast (d' := .val (.int .i64 (-(q.tmod 4)))) (by rw [IntWalk.i64_in _ (by omega)]; simp)) ?_
      refine zab rfl rfl rfl (zaj [] [] [] rfl (ev1 rfl) (ec (ev1 rfl) (ec (ev1 rfl) en)) rfl rfl (turn_d s hsk (-(q.tmod 4))) rfl rfl rfl rfl rfl rfl) ?_
      refine zab rfl rfl rfl (zac (.inl rfl) (ev1 rfl)) ?_
      refine zab rfl rfl rfl (op_ext rfl (ev1 rfl) rfl) ?_
      refine zab rfl rfl rfl (op_ext rfl (ev1 rfl) rfl) ?_
      refine zak rfl rfl rfl (zal 9 rfl zr24 rfl) (by simp only [upd, za, zaa]; exact rfl) ?_
      refine walk_s rfl rfl (op_stam rfl tb24 (ev1 rfl) (ev1 rfl) rfl rfl rfl rfl) (by simp only [upd, za, zaa]; exact rfl) ?_
      refine zab rfl rfl rfl (zac (.inr rfl) (ev1 rfl)) ?_
      refine zae ?_
      refine zaf ?_
      refine dwp_draw [([], []), ([], []), ([], []), ([], []), ([], []), ([], []), ([], []), ([], []), ([], []), ([], []), ([], []), ([], []), ([], []), ([], []), ([], []), ([], []), ([], []), ([], []), ([], []), ([], []), ([], []), ([], []), ([], []), ([3], []), ([1], []), ([], []), ([], []), ([], []), ([4], []), ([1], []), ([], []), ([], []), ([], []), ([6], []), ([1], []), ([], []), ([], []), ([], []), ([8], []), ([9], []), ([], []), ([], []), ([], []), ([2], []), ([], []), ([1], []), ([], []), ([], []), ([], []), ([], [])] mixed (by kernel_rfl) ?_
      refine zag rfl rfl (zac (.inl rfl) (ev1 rfl)) ?_
      refine zag rfl rfl (op_eql rfl (ev1 rfl) (ev1 rfl)) ?_
      refine zag rfl rfl (zac (.inl rfl) (ev1 rfl)) ?_
      refine lex_gr (gd_t rfl rfl rfl) rfl rfl (zac (.inl rfl) (ev1 rfl)) ?_
      refine lex_gr (gd_t rfl rfl rfl) rfl rfl (op_eql rfl (ev2 rfl) (ev1 rfl)) ?_
      refine zag rfl rfl (op_and rfl (ev1 rfl) (ev3 rfl id)) ?_
      refine zag rfl rfl (zac (.inl rfl) (ev1 rfl)) ?_
      refine lex_gr (gd_t rfl rfl rfl) rfl rfl (zac (.inl rfl) (ev1 rfl)) ?_
      refine lex_gr (gd_t rfl rfl rfl) rfl rfl (op_eql rfl (ev2 rfl) (ev1 rfl)) ?_
      refine zag rfl rfl (op_and rfl (ev1 rfl) (ev3 rfl id)) ?_
      refine zag rfl rfl (zac (.inl rfl) (ev1 rfl)) ?_
      refine lex_gr (gd_t rfl rfl rfl) rfl rfl (zac (.inl rfl) (ev1 rfl)) ?_
      refine lex_gr (gd_t rfl rfl rfl) rfl rfl (op_eql rfl (ev2 rfl) (ev1 rfl)) ?_
      refine zag rfl rfl (op_and rfl (ev1 rfl) (ev3 rfl id)) ?_
      refine zag rfl rfl (zac (.inl rfl) (ev1 rfl)) ?_
      refine lex_gr (gd_t rfl rfl rfl) rfl rfl (zac (.inl rfl) (ev1 rfl)) ?_
      refine lex_gr (gd_t rfl rfl rfl) rfl rfl (op_eql rfl (ev2 rfl) (ev1 rfl)) ?_
      refine zag rfl rfl (op_and rfl (ev1 rfl) (ev3 rfl id)) ?_
      refine zag rfl rfl (zac (.inl rfl) (ev1 rfl)) ?_
      refine lex_gr (gd_t rfl rfl rfl) rfl rfl (zac (.inl rfl) (ev1 rfl)) ?_
      refine lex_gr (gd_t rfl rfl rfl) rfl rfl (op_eql rfl (ev2 rfl) (ev1 rfl)) ?_
      refine zag rfl rfl (op_and rfl (ev1 rfl) (ev3 rfl id)) ?_
      refine zag rfl rfl (zac (.inl rfl) (ev1 rfl)) ?_
      refine lex_gr (gd_t rfl rfl rfl) rfl rfl (op_ldmw rfl tb24 (ev1 rfl) rfl rfl) ?_
      refine lex_gr (gd_t rfl rfl rfl) rfl rfl (op_ldmw rfl tb24 (ev1 rfl) rfl rfl) ?_
      refine lex_gr (gd_t rfl rfl rfl) rfl rfl (zaj [] [] [] rfl (ev1 rfl) (ec (ev2 rfl) (ec (ev2 rfl) en)) rfl rfl (ssame_d _ _ _ _ _ _) rfl rfl rfl rfl rfl rfl) ?_
      refine zag rfl rfl (op_and rfl (ev1 rfl) (ev3 rfl id)) ?_
      refine zag rfl rfl (zac (.inl rfl) (ev1 rfl)) ?_
      refine lex_gr (gd_t rfl rfl rfl) rfl rfl (op_ldmw rfl tb24 (ev1 rfl) rfl rfl) ?_
      refine lex_gr (gd_t rfl rfl rfl) rfl rfl (op_ldmw rfl tb24 (ev1 rfl) rfl rfl) ?_
      refine lex_gr (gd_t rfl rfl rfl) rfl rfl (zaj [] [] [] rfl (ev1 rfl) (ec (ev2 rfl) (ec (ev2 rfl) en)) rfl rfl (ssame_d _ _ _ _ _ _) rfl rfl rfl rfl rfl rfl) ?_
      refine zag rfl rfl (op_and rfl (ev1 rfl) (ev3 rfl id)) ?_
      refine zag rfl rfl (zac (.inl rfl) (ev1 rfl)) ?_
      refine lex_gr (gd_t rfl rfl rfl) rfl rfl (op_ldmw rfl tb24 (ev1 rfl) rfl rfl) ?_
      refine lex_gr (gd_t rfl rfl rfl) rfl rfl (op_ldmw rfl tb24 (ev1 rfl) rfl rfl) ?_
      refine lex_gr (gd_t rfl rfl rfl) rfl rfl (zaj [] [] [] rfl (ev1 rfl) (ec (ev2 rfl) (ec (ev2 rfl) en)) rfl rfl (ssame_d _ _ _ _ _ _) rfl rfl rfl rfl rfl rfl) ?_
      refine zag rfl rfl (op_and rfl (ev1 rfl) (ev3 rfl id)) ?_
      refine zag rfl rfl (zac (.inl rfl) (ev1 rfl)) ?_
      refine lex_gr (gd_t rfl rfl rfl) rfl rfl (op_ldmw rfl tb24 (ev1 rfl) rfl rfl) ?_
      refine lex_gr (gd_t rfl rfl rfl) rfl rfl (op_ldmw rfl tb24 (ev1 rfl) rfl rfl) ?_
      refine lex_gr (gd_t rfl rfl rfl) rfl rfl (zaj [] [] [] rfl (ev1 rfl) (ec (ev2 rfl) (ec (ev2 rfl) en)) rfl rfl (ssame_d _ _ _ _ _ _) rfl rfl rfl rfl rfl rfl) ?_
      refine zag rfl rfl (op_and rfl (ev1 rfl) (ev3 rfl id)) ?_
      refine zag rfl rfl (zac (.inl rfl) (ev1 rfl)) ?_
      refine lex_gr (gd_t rfl rfl rfl) rfl rfl (op_ldmw rfl tb24 (ev1 rfl) rfl rfl) ?_
      refine lex_gr (gd_t rfl rfl rfl) rfl rfl (zaj [] [] [] rfl (ev1 rfl) (ec (ev2 rfl) en) rfl rfl (wears_ok _ _ _ (turnN_ok (qN q) hsk)) rfl rfl rfl rfl rfl rfl) ?_
      refine lex_gr (gd_t rfl rfl rfl) rfl rfl (op_ldmw rfl tb24 (ev1 rfl) rfl rfl) ?_
      refine lex_gr (gd_t rfl rfl rfl) rfl rfl (zaj [] [] [] rfl (ev1 rfl) (ec (ev2 rfl) en) rfl rfl (wears_ok _ _ _ hsk) rfl rfl rfl rfl rfl rfl) ?_
      refine lex_gr (gd_t rfl rfl rfl) rfl rfl (op_eql rfl (ev2 rfl) (ev2 rfl)) ?_
      refine zag rfl rfl (op_and rfl (ev1 rfl) (ev3 rfl id)) ?_
      refine zag rfl rfl (zac (.inr rfl) (ev1 rfl)) ?_
      refine lex_nil ?_
      refine dwp_ret ?_
      refine kend0 (rs1 rfl (rv_t rfl)) rfl ?_
      first | rfl | (rw [hno]; rfl) | (rw [turnN_add, turnN_4n hsk (m := 0) (by omega), flip2 hsk, flip_turnN hsk, turnN_4n hsk hq2.1, wear_turnN _ hsk]; simp; exact ⟨rfl, rfl, rfl⟩)
  · refine zai 1 (by simp only [holes, List.cons_append, List.nil_append]; exact rfl) ?_
    refine zad ?_
    refine zab rfl rfl rfl (op_ldmw rfl tb24 (ev1 rfl) rfl rfl) ?_
    refine zab rfl rfl rfl (zac (.inl rfl) (ev1 rfl)) ?_
    refine zab rfl rfl rfl (zaj [] [] [] rfl (ev1 rfl) (ec (ev1 rfl) (ec (ev1 rfl) en)) rfl rfl ((turn_no w h L q (by simpa using hright)).wk (wk_zst 190)) rfl rfl rfl rfl rfl rfl) ?_
    refine zab rfl rfl rfl (zac (.inl rfl) (ev1 rfl)) ?_
    refine zab rfl rfl rfl (op_ext rfl (ev1 rfl) rfl) ?_
    refine zab rfl rfl rfl (op_ext rfl (ev1 rfl) rfl) ?_
    refine zak rfl rfl rfl (zal 2 rfl zr24 rfl) (by simp only [upd, za, zaa]; exact rfl) ?_
    refine walk_s rfl rfl (op_stam rfl tb24 (ev1 rfl) (ev1 rfl) rfl rfl rfl rfl) (by simp only [upd, za, zaa]; exact rfl) ?_
    refine zab rfl rfl rfl (zac (.inr rfl) (ev1 rfl)) ?_
    refine zae ?_
    refine zaf ?_
    refine zaf ?_
    refine zad ?_
    refine zab rfl rfl rfl (zac (.inl rfl) (ev1 rfl)) ?_
    refine zab rfl rfl rfl (op_neq rfl (ev1 rfl) (ev1 rfl)) ?_
    refine zae ?_
    refine dwp_if_t rfl (rfl) ?_
    refine zaf ?_
    have hno : rightS w h L = false := by simpa using hright
    refine zad ?_
    refine zab rfl rfl rfl (zac (.inl rfl) (ev1 rfl)) ?_
    refine zab rfl rfl rfl (op_ldmw rfl tb24 (ev1 rfl) rfl rfl) ?_
    refine zab rfl rfl rfl (zaj [] [] [] rfl (ev1 rfl) (ec (ev1 rfl) en) rfl rfl (scheck_d _ _ _) rfl rfl rfl rfl rfl rfl) ?_
    refine zab rfl rfl rfl (op_eql rfl (ev1 rfl) (ev1 rfl)) ?_
    refine zab rfl rfl rfl (zac (.inl rfl) (ev1 rfl)) ?_
    refine zah (gd_t rfl rfl rfl) rfl rfl rfl (op_fa rfl fo24_2 (ev1 rfl)) ?_
    refine zah (gd_t rfl rfl rfl) rfl rfl rfl (op_ldm rfl tb22 (ev2 rfl) rfl rfl) ?_
    refine zah (gd_t rfl rfl rfl) rfl rfl rfl (op_len rfl sl22 (ev2 rfl)) ?_
    refine zah (gd_t rfl rfl rfl) rfl rfl rfl (op_eql rfl (ev2 rfl) (ev1 rfl)) ?_
    refine zab rfl rfl rfl (op_and rfl (ev1 rfl) (ev3 rfl id)) ?_
    refine zab rfl rfl rfl (zac (.inr rfl) (ev1 rfl)) ?_
    refine zae ?_
    refine dwp_ret ?_
    refine kend0 (rs1 rfl (rv_t rfl)) rfl ?_
    first | rfl | (rw [hno]; rfl) | (rw [turnN_add, turnN_4n hsk (m := 0) (by omega), flip2 hsk, flip_turnN hsk, turnN_4n hsk hq2.1, wear_turnN _ hsk]; simp; exact ⟨rfl, rfl, rfl⟩)
end Go.Proofs.Ytadjbiccndaclaa
