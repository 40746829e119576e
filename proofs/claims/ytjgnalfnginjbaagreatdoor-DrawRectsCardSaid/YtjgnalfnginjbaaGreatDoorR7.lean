/- A region that draws its order, one of whose operations panics, beside others that only read. Conditions: the kernel's look at its edges; rectangles, by the document. No condition. -/
import Derived.Test.YtjgnalfnginjbaaGreatDoorR6
import Derived.Test.YtjgnalfnginjbaaGreatDoorRows
namespace Go.Proofs.YtjgnalfnginjbaaGreatDoor
set_option linter.unusedVariables false
set_option linter.unusedSimpArgs false
open Go.RowKit
def nopL (l : List Oper) (zs : List Nat) : List Oper := zs.foldl (fun l z => l.set z nopO) l
theorem nopL_len : ∀ (zs : List Nat) (l : List Oper), (nopL l zs).length = l.length
  | [], l => rfl
  | z :: zs, l => by
    show (nopL (l.set z nopO) zs).length = _
    rw [nopL_len zs, List.length_set]
theorem nopL_no : ∀ (zs : List Nat) (l : List Oper) (i : Nat), i ∉ zs → (nopL l zs)[i]? = l[i]?
  | [], l, i, _ => rfl
  | z :: zs, l, i, h => by
    show (nopL (l.set z nopO) zs)[i]? = _
    rw [nopL_no zs _ i fun e => h (List.mem_cons_of_mem _ e), List.getElem?_set_ne fun e => h (by rw [e]; exact List.mem_cons_self ..)]
theorem nopL_yes : ∀ (zs : List Nat) (l : List Oper) (i : Nat), i ∈ zs → i < l.length → (nopL l zs)[i]? = some nopO
  | [], l, i, h, _ => by cases h
  | z :: zs, l, i, h, hi => by
    show (nopL (l.set z nopO) zs)[i]? = _
    by_cases e : i ∈ zs
    · exact nopL_yes zs _ i e (by rw [List.length_set]; exact hi)
    · rw [nopL_no zs _ i e]
      have : i = z := (List.mem_cons.1 h).resolve_right e
      subst this
      exact List.getElem?_set_self hi
/-- behind some number all stand behind the one that panics; what isn't forced ahead of it changes nothing, and it doesn't ask for it -/
def drawOkZ (n : Nat) (lf : List Oper) (m N : Nat) (zs : List Nat) (fps : List (List Nat × List Nat)) : Bool :=
  let bs := befL lf []
  fps.length == N && Nat.blt m N && Nat.ble N lf.length && zs.contains m && (zs.all fun z => Nat.blt z N && (z == m || (bs.getD z 0).testBit m) && match fps[z]? with | some f => f.1.isEmpty && f.2.isEmpty | none => false) && ((List.range lf.length).all fun j => match lf[j]? with
    | some oj => oj.after.all (fun e => !Region.binds .any e || Nat.blt e.on j) && (Nat.blt j N || (bs.getD j 0).testBit m)
    | none => false) && ((List.range N).all fun i => zs.contains i || match lf[i]?, fps[i]?, lf[m]? with
    | some oi, some fi, some om => (bs.getD m 0).testBit i || (fi.2.isEmpty && !meet oi.dst.toList (namesOf lf.toArray om))
    | _, _, _ => false) && (List.range N).all fun j => zs.contains j ||
    match lf[j]?, fps[j]? with
    | some oj, some fj => dstB n oj.dst && noDef oj.op && fj.2.all (fun x => fj.1.contains x) && (List.range j).all fun i => zs.contains i ||
      match lf[i]?, fps[i]? with
      | some oi, some fi => pairOk lf.toArray (bs.getD j 0) i oi oj fi fj
      | _, _ => false
    | _, _ => false
/-- **A region that draws its order, and panics**: what is not forced ahead of the panic only reads. -/
theorem dwp_drawZ {P : Program} {s0 : St} {n : Cx} {id : Nat} {lf : List Oper} {op : Oper} {F : Fr} {M : List Blk} {K : Cont} (m N : Nat) (zs : List Nat) (fps : List (List Nat × List Nat)) (hm : P.follows .mixedOrders = true) (hB : drawOkZ n.n lf m N zs fps = true) (hfr : (F.all fun p => (lf.take N).all fun o => match o.dst with | some t => !Nat.beq t p.1 | none => true) = true) (hopn : lf[m]? = some op) (hndm : noDef op.op = true)
    (h : Lex P lf.toArray (nopL (lf.take N) zs) fps F M (fun F1 M1 => ∃ fp d wr, op.guard = none ∧ DOpP P true op F1 M1 fp d wr ∧ K (.panic d) F (upd M1 wr))) :
    dwp P s0 n (.region id lf.toArray true) F M K := by
  intro a w hi
  refine wpIn_region_any hm ?_
  simp only [drawOkZ, Bool.and_eq_true, beq_iff_eq, List.all_eq_true, List.mem_range] at hB
  obtain ⟨⟨⟨⟨⟨⟨⟨hlen0, hml⟩, hNl⟩, hmz⟩, hfm⟩, hedge⟩, hpre0⟩, hB⟩ := hB
  have hmz : m ∈ zs := by simpa using hmz
  have hml := Nat.blt_eq.mp hml
  have hNl := Nat.ble_eq.mp hNl
  have hfm2 : ∀ z, z ∈ zs → ∀ f, fps[z]? = some f → f.1 = [] ∧ f.2 = [] := fun z hz f hf => by
    have h1 := hfm z hz
    rw [hf] at h1
    simp only [Bool.and_eq_true] at h1
    simpa using h1.2
  have hzN : ∀ z, z ∈ zs → z < N := fun z hz => by
    have h1 := hfm z hz
    exact Nat.blt_eq.mp h1.1.1
  have hza : ∀ z, z ∈ zs → z ≠ m → ahead lf m z = true := fun z hz hne => by
    have h1 := hfm z hz
    simp only [Bool.and_eq_true, Bool.or_eq_true, beq_iff_eq, hne, false_or] at h1
    exact h1.1.2
  obtain ⟨l, hl⟩ : ∃ l, l = nopL (lf.take N) zs := ⟨_, rfl⟩
  have hllen : l.length = N := by rw [hl, nopL_len, List.length_take]; omega
  rw [← hl] at h
  have hlen : fps.length = l.length := by omega
  have htk : ∀ i, i < l.length → i ∉ zs → l[i]? = lf[i]? := fun i hi hne => by rw [hl, nopL_no zs _ i hne, List.getElem?_take, if_pos (by omega)]
  have hmk : ∀ z, z ∈ zs → l[z]? = some nopO := fun z hz => by rw [hl]; exact nopL_yes zs _ z hz (by have := hzN z hz; rw [List.length_take]; omega)
  have hon : ∀ (j : Nat) o, lf[j]? = some o → ∀ e ∈ o.after.toList, Region.binds .any e = true → e.on < j := by
    intro j o ho e he hb
    have h1 := hedge j (List.getElem?_eq_some_iff.1 ho).1
    rw [ho] at h1
    simp only [Bool.and_eq_true] at h1
    have := Array.all_eq_true_iff_forall_mem.1 h1.1 e (by simpa using he)
    rw [hb] at this
    exact Nat.blt_eq.mp (by simpa using this)
  have hbeh : ∀ i, l.length ≤ i → i < lf.length → ahead lf m i = true := by
    intro i h1 h2
    have h3 := hedge i h2
    rw [List.getElem?_eq_getElem h2] at h3
    simp only [Bool.and_eq_true, Bool.or_eq_true] at h3
    rcases h3.2 with h4 | h4
    · have := Nat.blt_eq.mp h4; omega
    · exact h4
  have hpre : ∀ (j : Nat) oj fj, lf[j]? = some oj → fps[j]? = some fj → j < l.length → j ∉ zs → ahead lf j m = true ∨ (fj.2 = [] ∧ meet oj.dst.toList (namesOf lf.toArray op) = false) := fun j oj fj ho hf hj hne => by
    have h1 := hpre0 j (by omega)
    rw [ho, hf, hopn] at h1
    simp only [Bool.or_eq_true, Bool.and_eq_true, Bool.not_eq_true', List.isEmpty_iff, List.contains_iff_mem, hne, false_or] at h1
    exact h1
  subst hllen
  obtain ⟨E, e1, e2, e3⟩ := lex_recs l fps F M hlen h
  have at_ : ∀ k, k < l.length → ∃ o f, l[k]? = some o ∧ fps[k]? = some f := fun k hk => ⟨l[k], fps[k], List.getElem?_eq_getElem hk, List.getElem?_eq_getElem (by omega)⟩
  have hone : ∀ (j : Nat) o f, l[j]? = some o → fps[j]? = some f → (∀ e ∈ o.after.toList, Region.binds .any e = true → e.on < j) ∧ dstB n.n o.dst = true ∧ noDef o.op = true ∧ (∀ x ∈ f.2, x ∈ f.1) ∧ ∀ (i : Nat) oi fi, i < j → l[i]? = some oi → fps[i]? = some fi → ahead lf i j = true ∨ (meet oi.dst.toList (namesOf lf.toArray o) = false ∧ meet (namesOf lf.toArray oi) o.dst.toList = false ∧ meet fi.2 f.1 = false ∧ meet fi.1 f.2 = false) := by
    intro j o f ho hf
    have hj : j < l.length := (List.getElem?_eq_some_iff.1 ho).1
    by_cases ejm : j ∈ zs
    · rw [hmk j ejm] at ho
      obtain rfl := Option.some.inj ho
      obtain ⟨k1, k2⟩ := hfm2 j ejm f hf
      refine ⟨fun e he => by simp [nopO] at he, rfl, rfl, fun x hx => (by rw [k2] at hx; cases hx), fun i oi fi hij hoi hfi => .inr ⟨?_, ?_, ?_, ?_⟩⟩
      · rw [nop_n]; simp [meet]
      · simp [meet, nopO]
      · rw [k1]; simp [meet]
      · rw [k2]; simp [meet]
    have h1 := hB j hj
    have ho2 := ho
    rw [htk j hj ejm] at ho2
    rw [ho2, hf] at h1
    simp only [Bool.and_eq_true, List.all_eq_true, List.mem_range, Bool.or_eq_true, List.contains_iff_mem, ejm, false_or] at h1
    obtain ⟨⟨⟨h2, hnd⟩, h3⟩, h4⟩ := h1
    refine ⟨hon j o ho2, h2, hnd, fun x hx => by simpa using h3 x hx, fun i oi fi hij hoi hfi => ?_⟩
    by_cases eim : i ∈ zs
    · rw [hmk i eim] at hoi
      obtain rfl := Option.some.inj hoi
      obtain ⟨k1, k2⟩ := hfm2 i eim fi hfi
      refine .inr ⟨?_, ?_, ?_, ?_⟩
      · simp [meet, nopO]
      · rw [nop_n]; simp [meet]
      · rw [k2]; simp [meet]
      · rw [k1]; simp [meet]
    have h5 := h4 i hij
    rw [← htk i (by omega) eim, hoi, hfi] at h5
    simp only [eim, false_or, pairOk, Bool.or_eq_true, Bool.not_eq_true', Bool.or_eq_false_iff] at h5
    rcases h5 with h5 | h5
    · exact .inl h5
    · exact .inr ⟨h5.1.1.1, h5.1.1.2, h5.1.2, h5.2⟩
  have meet_no : ∀ {x : List Nat} {y : List Nat} {t : Nat}, meet x y = false → t ∈ x → t ∈ y → False := by
    intro x y t hm hx hy
    simp only [meet, List.any_eq_false] at hm
    exact hm t hx (by simpa using hy)
  -- the state when some have been done
  have main : ∀ (f : Nat) (listed : Array Bool) (b : Act) (s : St), Ok s0 → listed.size = lf.length → (∀ k, l.length ≤ k → listed.getD k false = false) → listed.getD m false = false → unl listed lf.length = f → Tr s0 s →
      (∀ t d, lkS l E F (fun k => listed.getD k false) t l.length = some d → Rep s d (slot b t)) → s.M.length = M.length → (∀ i, i < M.length → s.M[i]? = memS E M (fun k => listed.getD k false) i l.length) →
      b.tmps.size = n.n → DfOk s0 s n.mks n.U b.defers → (∀ j i, listed.getD j false = true → j < l.length → ahead lf i j = true → listed.getD i false = true) →
      wpAnyIn (wd (n.ρ s0)) 0 P .any lf.toArray (PostK s0 n K) f listed b s.w := by
    intro f
    induction f with
    | zero =>
      intro listed b s h0 hs hbig hm0 hu ht hF hMl hM hn hd _
      have hall := unl_zero _ hu
      have h1 := hall m (by omega)
      rw [hm0] at h1
      cases h1
    | succ f ih =>
      intro listed b s h0 hs hbig hm0 hu ht hF hMl hM hn hd hcl
      refine ⟨fun hnone => ?_, fun i hi => ?_⟩
      · exfalso
        obtain ⟨i, h1, h2, h3⟩ := unl_some lf.length (listed := listed) (by omega)
        obtain ⟨o, ho⟩ : ∃ o, lf[i]? = some o := ⟨lf[i], List.getElem?_eq_getElem h1⟩
        have g1 := hon i o ho
        have : i ∈ Region.ready .any lf.toArray listed := mem_ready.2 ⟨by rw [getD_tf hs h1]; exact h2, o, by simpa using ho, fun e he hb => h3 _ (g1 e (by simpa using he) hb)⟩
        rw [hnone] at this
        cases this
      · obtain ⟨hun, o, ho, hall⟩ := mem_ready.1 hi
        have hof : lf[i]? = some o := by simpa using ho
        have hilf : i < lf.length := (List.getElem?_eq_some_iff.1 hof).1
        rw [getD_tf hs hilf] at hun
        have done0 : ∀ j, ahead lf j i = true → listed.getD j false = true := by
          intro j hj
          obtain ⟨e, he, hb, hcase⟩ := ahead_step hof hj
          have h1 := hall e (by simpa using he) hb
          rcases hcase with rfl | ⟨h2, h3⟩
          · exact h1
          · refine hcl e.on j h1 ?_ h3
            refine Classical.byContradiction fun hno => ?_
            rw [hbig e.on (by omega)] at h1
            cases h1
        by_cases hgt : l.length ≤ i
        · exfalso
          have h1 := done0 m (hbeh i hgt hilf)
          rw [hm0] at h1
          cases h1
        by_cases him2 : i ∈ zs ∧ i ≠ m
        · exfalso
          have h1 := done0 m (hza i him2.1 him2.2)
          rw [hm0] at h1
          cases h1
        by_cases him : i = m
        · rw [him] at hof done0
          rw [hof] at hopn
          obtain rfl := Option.some.inj hopn
          obtain ⟨fp, d, wr, q1, q2, q3⟩ := e2
          have hMk : s.M = Mup E M l.length := by
            refine List.ext_getElem? fun i => ?_
            by_cases hi : i < M.length
            · rw [hM i hi, mup_at i hi]
              refine memS_congr _ fun j rj hj hrj hwj => ?_
              obtain ⟨oj, fj, hoj, hfj⟩ := at_ j hj
              have hsoft : ahead lf j m = true ∨ fj.2 = [] := by
                by_cases ejm : j ∈ zs
                · exact .inr (hfm2 j ejm fj hfj).2
                · exact (hpre j oj fj (by rw [← htk j hj ejm]; exact hoj) hfj hj ejm).imp_right (·.1)
              rcases hsoft with h1 | h1
              · exact done0 j h1
              · exfalso
                obtain ⟨_, _, r', hr', _, _, _, hw', _⟩ := e3 j oj fj hoj hfj
                rw [hrj] at hr'
                obtain rfl := Option.some.inj hr'
                rw [h1] at hw'
                rw [wrAt_none _ _ (by rw [hw']; simp)] at hwj
                cases hwj
            · rw [List.getElem?_eq_none (by omega), List.getElem?_eq_none (by rw [Mup_len]; omega)]
          have hslot : ∀ t d, t ∈ namesOf lf.toArray o → lk (Fup l E F l.length) t = some d → Rep s d (slot b t) := by
            intro t d' ht hd'
            refine hF t d' ?_
            rw [← hd', fup_lk]
            refine lkS_congr _ fun j oj hj hoj hjd => ?_
            obtain ⟨oj', fj, hoj', hfj⟩ := at_ j hj
            rw [hoj] at hoj'
            obtain rfl := Option.some.inj hoj'
            have ejm : j ∉ zs := fun e => by
              rw [hmk j e] at hoj
              obtain rfl := Option.some.inj hoj
              cases hjd
            rcases hpre j oj fj (by rw [← htk j hj ejm]; exact hoj) hfj hj ejm with h1 | ⟨_, h1⟩
            · exact done0 j h1
            · exact (meet_no h1 (by simp [hjd]) ht).elim
          have hFk : FOk s F b := fun t d' hd' => hF t d' (by
            rw [lkS_cut 0 l.length (Nat.zero_le _) fun j oj _ h2 hj hjd => ?_]
            · exact hd'
            · exfalso
              have ejm : j ∉ zs := fun e => by
                rw [hmk j e] at hj
                obtain rfl := Option.some.inj hj
                cases hjd
              obtain ⟨p, hp, rfl⟩ := lk_key hd'
              have h3 := List.all_eq_true.1 (List.all_eq_true.1 hfr p hp) oj (List.mem_of_getElem? (i := j) (by rw [List.getElem?_take, if_pos h2, ← htk j h2 ejm]; exact hj))
              rw [hjd] at h3
              simp at h3)
          unfold wpOpIn
          rw [ho]
          simp only
          have hw : Region.wanted o (yielded lf.toArray b.tmps) = true := by unfold Region.wanted; rw [q1]
          rw [if_pos hw]
          refine dgives_inP hndm (q2 rfl b s ht.ok (fun x hx d' hd' => ?_) (fun i _ => by rw [hMk])) fun s' v ht' ⟨w1, w2⟩ => ?_
          · cases x with
            | tmp t => exact hslot t d' (List.mem_append_left _ (List.mem_append_left _ (List.mem_filterMap.2 ⟨.tmp t, by simpa using hx, rfl⟩))) hd'
            | const v => obtain rfl := Option.some.inj hd'; exact .val v
            | func g => obtain rfl := Option.some.inj hd'; exact Rep.fn (vs := []) (us := []) rfl rfl (fun j d v h => by simp at h) (fun j d v h => by simp at h)
            | global g => obtain rfl := Option.some.inj hd'; exact .val _
          · exact ⟨F, upd (Mup E M l.length) wr, d, ⟨h0, s', v, w1.trans (by rw [hMk]), rfl, ht.trans ht', hFk.mono ht.ok ht', hn, hd.mono ht.ok ht', rfl, w2⟩, q3⟩
        have hil : i < l.length := by omega
        have hiz : i ∉ zs := fun e => him2 ⟨e, him⟩
        have ho' : l[i]? = some o := by rw [htk i hil hiz]; exact hof
        obtain ⟨fi, hfi⟩ : ∃ fi, fps[i]? = some fi := ⟨fps[i], List.getElem?_eq_getElem (by omega)⟩
        obtain ⟨pc, d, r, hr, hrd, hg, hop, hwi, hgw⟩ := e3 i o fi ho' hfi
        obtain ⟨g1, g2, hnd, g3, g4⟩ := hone i o fi ho' hfi
        have done := done0
        have undone : ∀ j, j < l.length → ahead lf i j = true → listed.getD j false = false := by
          intro j hj h1
          cases e : listed.getD j false with
          | false => rfl
          | true => rw [hcl j i e hj h1] at hun; cases hun
        have tset : ∀ t, t ∈ namesOf lf.toArray o → lkS l E F (fun k => listed.getD k false) t l.length = lkS l E F (fun _ => true) t i := by
          intro t ht
          rw [lkS_cut i l.length (by omega) fun j oj h1 h2 hj hjd => ?_]
          · refine lkS_congr i fun j oj hj hoj hjd => ?_
            obtain ⟨fj, hfj⟩ : ∃ fj, fps[j]? = some fj := ⟨fps[j], List.getElem?_eq_getElem (by omega)⟩
            rcases g4 j oj fj hj hoj hfj with h1 | h1
            · exact done j h1
            · exact (meet_no h1.1 (by simp [hjd]) ht).elim
          · by_cases e : j = i
            · subst e; exact hun
            · obtain ⟨fj, hfj⟩ : ∃ fj, fps[j]? = some fj := ⟨fps[j], List.getElem?_eq_getElem (by omega)⟩
              rcases (hone j oj fj hj hfj).2.2.2.2 i o fi (by omega) ho' hfi with h3 | h3
              · exact undone j h2 h3
              · exact (meet_no h3.2.1 ht (by simp [hjd])).elim
        have mset : ∀ x, x ∈ fi.1 → memS E M (fun k => listed.getD k false) x l.length = memS E M (fun _ => true) x i := by
          intro x hx
          have wmem : ∀ (j : Nat) rj fj, E[j]? = some rj → fps[j]? = some fj → j < l.length → (wrAt rj.wr x).isSome = true → x ∈ fj.2 := by
            intro j rj fj hrj hfj hj hw
            obtain ⟨oj, _, hoj, _⟩ := at_ j hj
            obtain ⟨_, _, r', hr', _, _, _, hw', _⟩ := e3 j oj fj hoj hfj
            rw [hrj] at hr'
            obtain rfl := Option.some.inj hr'
            rw [← hw']
            refine Classical.byContradiction fun hno => ?_
            rw [wrAt_none _ _ hno] at hw
            cases hw
          rw [memS_cut i l.length (by omega) fun j rj h1 h2 hrj hw => ?_]
          · refine memS_congr i fun j rj hj hrj hw => ?_
            obtain ⟨oj, fj, hoj, hfj⟩ := at_ j (by omega)
            rcases g4 j oj fj hj hoj hfj with h1 | h1
            · exact done j h1
            · exact (meet_no h1.2.2.1 (wmem j rj fj hrj hfj (by omega) hw) hx).elim
          · by_cases e : j = i
            · subst e; exact hun
            · obtain ⟨oj, fj, hoj, hfj⟩ := at_ j (by omega)
              rcases (hone j oj fj hoj hfj).2.2.2.2 i o fi (by omega) ho' hfi with h3 | h3
              · exact undone j h2 h3
              · exact (meet_no h3.2.2.2 hx (wmem j rj fj hrj hfj h2 hw)).elim
        have hslot : ∀ t d, t ∈ o.looksAt lf.toArray → lk (Fup l E F i) t = some d → Rep s d (slot b t) := by
          intro t d' ht hd'
          refine hF t d' ?_
          rw [tset t (List.mem_append_left _ ht), ← fup_lk]
          exact hd'
        have next : ∀ (s' : St) (v : Value), Tr s s' → s'.M = upd s.M r.wr → Rep s' r.d v → wpAnyIn (wd (n.ρ s0)) 0 P .any lf.toArray (PostK s0 n K) f (listed.setIfInBounds i true) (b.put o.dst v) s'.w := by
          intro s' v ht' hM' hrep
          have hset : ∀ k, (listed.setIfInBounds i true).getD k false = if i = k then true else listed.getD k false := fun k => getD_set _ _ _ (by rw [hs]; exact hilf)
          refine ih _ _ s' h0 (by simp [hs]) (fun k hk => by rw [hset, if_neg (by omega)]; exact hbig k hk) (by rw [hset, if_neg him]; exact hm0) ?_ (ht.trans ht') ?_ (by rw [hM', upd_len, hMl]) ?_ (by rw [put_size]; exact hn) (by rw [put_def]; exact hd.mono ht.ok ht') ?_
          · have := unl_set (by rw [hs]; exact hilf) hun lf.length
            rw [if_pos hilf] at this
            omega
          · intro t d' hd'
            by_cases htd : o.dst = some t
            · have e : lkS l E F (fun k => (listed.setIfInBounds i true).getD k false) t l.length = some r.d := by
                rw [lkS_cut (i + 1) l.length (by omega) fun j oj h1 h2 hj hjd => ?_]
                · unfold lkS
                  rw [ho', hr]
                  simp only
                  rw [if_pos ⟨by rw [hset, if_pos rfl], htd⟩]
                · rw [hset, if_neg (by omega)]
                  obtain ⟨fj, hfj⟩ : ∃ fj, fps[j]? = some fj := ⟨fps[j], List.getElem?_eq_getElem (by omega)⟩
                  rcases (hone j oj fj hj hfj).2.2.2.2 i o fi (by omega) ho' hfi with h3 | h3
                  · exact undone j h2 h3
                  · exact (meet_no (t := t) h3.2.1 (List.mem_append_right _ (by simp [htd])) (by simp [hjd])).elim
              rw [e] at hd'
              obtain rfl := Option.some.inj hd'
              have hsz : t < b.tmps.size := by
                rw [htd] at g2
                rw [hn]
                exact Nat.blt_eq.mp g2
              rw [htd, slot_put, if_pos ⟨rfl, hsz⟩]
              exact hrep
            · have e : slot (b.put o.dst v) t = slot b t := by
                cases hod : o.dst with
                | none => rfl
                | some x => rw [slot_put, if_neg (fun q => htd (by rw [hod, q.1]))]
              rw [e]
              refine (hF t d' ?_).mono ht.ok ht'
              rw [← hd']
              refine lkS_congr _ fun j oj hj hoj hjd => ?_
              rw [hset]
              by_cases ej : i = j
              · subst ej
                rw [ho'] at hoj
                obtain rfl := Option.some.inj hoj
                exact absurd hjd htd
              · rw [if_neg ej]
          · intro x hx
            rw [hM', upd_get _ _ _ (by omega), hM x hx]
            cases hw : wrAt r.wr x with
            | none =>
              rw [Option.none_or]
              refine memS_congr _ fun j rj hj hrj hwj => ?_
              rw [hset]
              by_cases ej : i = j
              · subst ej
                rw [hr] at hrj
                obtain rfl := Option.some.inj hrj
                rw [hw] at hwj; cases hwj
              · rw [if_neg ej]
            | some k =>
              rw [Option.some_or]
              have hxw : x ∈ fi.2 := by
                rw [← hwi]
                refine Classical.byContradiction fun hno => ?_
                rw [wrAt_none _ _ hno] at hw
                cases hw
              rw [memS_cut (i + 1) l.length (by omega) fun j rj h1 h2 hrj hwj => ?_]
              · unfold memS
                rw [hr]
                simp only
                rw [if_pos (by rw [hset, if_pos rfl]), hw, Option.some_or]
              · rw [hset, if_neg (by omega)]
                obtain ⟨oj, fj, hoj, hfj⟩ := at_ j (by omega)
                rcases (hone j oj fj hoj hfj).2.2.2.2 i o fi (by omega) ho' hfi with h3 | h3
                · exact undone j h2 h3
                · refine (meet_no h3.2.2.2 (g3 x hxw) ?_).elim
                  obtain ⟨_, _, r', hr', _, _, _, hw', _⟩ := e3 j oj fj hoj hfj
                  rw [hrj] at hr'
                  obtain rfl := Option.some.inj hr'
                  rw [← hw']
                  refine Classical.byContradiction fun hno => ?_
                  rw [wrAt_none _ _ hno] at hwj
                  cases hwj
          · intro j k hj hjl hk
            rw [hset] at hj ⊢
            by_cases e : i = k
            · rw [if_pos e]
            · rw [if_neg e]
              by_cases ej : i = j
              · subst ej; exact done k hk
              · rw [if_neg ej] at hj
                exact hcl j k hj hjl hk
        unfold wpOpIn
        rw [ho]
        simp only
        rw [gd_wanted hg hslot]
        cases pc with
        | true =>
          rw [if_pos rfl]
          refine dgives_in hnd (hop rfl b s ht.ok (fun x hx d' hd' => ?_) (fun x hx => ?_)) fun s' v ht' ⟨q1, q2⟩ => next s' v ht' q1 ?_
          · cases x with
            | tmp t => exact hslot t d' (List.mem_append_left _ (List.mem_filterMap.2 ⟨.tmp t, by simpa using hx, rfl⟩)) hd'
            | const v => obtain rfl := Option.some.inj hd'; exact .val v
            | func g => obtain rfl := Option.some.inj hd'; exact Rep.fn (vs := []) (us := []) rfl rfl (fun j d v h => by simp at h) (fun j d v h => by simp at h)
            | global g => obtain rfl := Option.some.inj hd'; exact .val _
          · by_cases hxl : x < M.length
            · rw [hM x hxl, mup_at x hxl, mset x hx]
            · rw [List.getElem?_eq_none (by omega), List.getElem?_eq_none (by rw [Mup_len]; omega)]
          · rw [hrd]
            unfold gdd
            split
            · exact q2
            · exact .opt (fun _ => q2) (fun h => by cases h)
        | false =>
          rw [if_neg (by simp)]
          have hgs : o.guard.isSome = true := by
            unfold Gd at hg
            cases e : o.guard with
            | none => rw [e] at hg; cases hg
            | some x => rfl
          refine ⟨fun _ _ => trivial, next s undef (Tr.refl ht.ok) (by rw [hgw rfl]; rfl) ?_⟩
          rw [hrd]
          unfold gdd
          split
          · rename_i e; rw [e] at hgs; cases hgs
          · exact .opt (fun h => by cases h) (fun _ => rfl)
  obtain ⟨h0, s, h1, h2, h3, h4, h5, h6⟩ := hi
  subst h1 h2
  have hst := step_same h3.ok { s.w with drawn := s.w.drawn + 1 } rfl rfl rfl rfl
  have hno : ∀ k, (Array.replicate lf.toArray.size false).getD k false = false := fun k => by
    simp only [Array.getD_eq_getD_getElem?, Array.getElem?_replicate]
    split <;> rfl
  have := main lf.length (Array.replicate lf.toArray.size false) a ⟨s.β, s.I, s.M, { s.w with drawn := s.w.drawn + 1 }⟩ h0 (by simp) (fun k _ => hno k) (hno m) (by
      have := unl_start lf.toArray.size lf.length (by simp)
      exact this) (h3.trans hst) (fun t d hd => ?_) rfl (fun i hi => ?_) h5 (h6.mono h3.ok hst) (fun j i hj => by rw [hno] at hj; cases hj)
  · simpa using this
  · rw [lkS_cut 0 l.length (by omega) fun j o _ _ _ _ => hno j] at hd
    exact (h4 t d hd).mono h3.ok hst
  · rw [memS_cut 0 l.length (by omega) fun j r _ _ _ _ => hno j]
    rfl
end Go.Proofs.YtjgnalfnginjbaaGreatDoor
namespace Go.Proofs.YtjgnalfnginjbaaGreatDoor
set_option maxRecDepth 4000
set_option linter.unusedVariables false
set_option linter.unusedSimpArgs false
open Go.RowKit
set_option maxRecDepth 4000 in
set_option maxHeartbeats 1000000 in
theorem frame_n1 (w h : Int) (ds : List D) (ts : List TL) (hr : RowOk ds ts) (hc : CvOk w h ts) (c : C4) (a b : P2) (hd : (drwB a && drwB (ac2 a b)) = false) : DFun Tryz.prog 32 [cvD w h ds, .val (.agg (c4 c).toArray), .val (.agg #[.int .i64 a.x, .int .i64 a.y]), .val (.agg #[.int .i64 b.x, .int .i64 b.y])] [] (.tup [.val (.pointer none), .val (.int .i64 2)]) [] := by
  have g1 := rct_no hd
  refine dcalls_body (N := 61) 0 (by kernel_rfl) Tryz.func32 rfl rfl rfl (by simp only [fr0, Nat.zero_add, Nat.reduceAdd]; exact rfl) rfl fun s0 hs0 => ?_
  refine dbody_seq rfl hs0 ?_
  refine zah 4 (by simp only [holes, List.cons_append, List.nil_append]; exact rfl) ?_
  refine zad ?_
  refine zak rfl rfl rfl (op_boxa 0 rfl (ev1 rfl) rfl) (by simp only [upd, zaa, za]; exact rfl) ?_
  refine zak rfl rfl rfl (op_boxa 1 rfl (ev1 rfl) rfl) (by simp only [upd, zaa, za]; exact rfl) ?_
  refine zak rfl rfl rfl (op_boxa 2 rfl (ev1 rfl) rfl) (by simp only [upd, zaa, za]; exact rfl) ?_
  refine zab rfl rfl rfl (zac (.inr rfl) (ev1 rfl)) ?_
  refine zak rfl rfl rfl (op_alloc 3 rfl zr34 rfl) (by simp only [upd, zaa, za]; exact rfl) ?_
  refine zae ?_
  refine dbody_defer (l0 := [_]) rfl rfl rfl rfl rfl hs0 ?_
  refine zab rfl rfl rfl (op_mkf rfl en (ec (ev1 rfl) en)) ?_
  refine zae ⟨_, _, _, 4, ev1 rfl, Nat.le_trans hs0 (by decide), rfl, ?_⟩
  have hs1 : s0.M.length ≤ 4 := Nat.le_trans hs0 (by decide)
  refine dbody_end rfl hs0 ?_
  refine zaf ?_
  refine zah 1 (by simp only [holes, List.cons_append, List.nil_append]; exact rfl) ?_
  refine zad ?_
  refine zab rfl rfl rfl (zac (.inl rfl) (ev1 rfl)) ?_
  refine zab rfl rfl rfl (zai [] [] [] rfl (ev1 rfl) (ec (ev1 rfl) en) rfl rfl (easel_d w h ds) rfl rfl rfl rfl rfl rfl) ?_
  refine zak rfl rfl rfl (op_alloc 4 rfl zr85 rfl) (by simp only [upd, zaa, za]; exact rfl) ?_
  refine walk_s rfl rfl (op_stam2 rfl tb85 (ev1 rfl) (ev1 rfl) rfl rfl rfl rfl) (by simp only [upd, zaa, za]; exact rfl) ?_
  refine zae ?_
  refine zaf ?_
  refine zah 2 (by simp only [holes, List.cons_append, List.nil_append]; exact rfl) ?_
  refine dwp_draw [([], []), ([2], []), ([], []), ([1], []), ([], []), ([], []), ([1], []), ([], []), ([2], []), ([], []), ([5], [5]), ([6], [6]), ([5], [5]), ([6], [6])] mixed (by kernel_rfl) ?_
  refine zag rfl rfl (op_fa rfl fo51_0 (ev1 rfl)) ?_
  refine zag rfl rfl (zal rfl tb3 (ev1 rfl) rfl rfl) ?_
  refine zag rfl rfl (op_fa rfl fo51_1 (ev1 rfl)) ?_
  refine zag rfl rfl (zal rfl tb3 (ev1 rfl) rfl rfl) ?_
  refine zag rfl rfl (op_build (ps := [(0, .tmp 18), (1, .tmp 20)]) rfl fl51 zr51 (vc (ev1 rfl) (vc (ev1 rfl) vn)) rfl rfl) ?_
  refine zag rfl rfl (op_fa rfl fo51_0 (ev1 rfl)) ?_
  refine zag rfl rfl (zal rfl tb3 (ev1 rfl) rfl rfl) ?_
  refine zag rfl rfl (op_fa rfl fo51_1 (ev1 rfl)) ?_
  refine zag rfl rfl (zal rfl tb3 (ev1 rfl) rfl rfl) ?_
  refine zag rfl rfl (op_build (ps := [(0, .tmp 23), (1, .tmp 25)]) rfl fl51 zr51 (vc (ev1 rfl) (vc (ev1 rfl) vn)) rfl rfl) ?_
  refine lex_w rfl rfl (op_alloc 5 rfl zr51 rfl) rfl (by simp only [upd, zaa, za]; exact rfl) ?_
  refine lex_w rfl rfl (op_alloc 6 rfl zr51 rfl) rfl (by simp only [upd, zaa, za]; exact rfl) ?_
  refine lex_s rfl rfl (op_stwa rfl tb51 (ev1 rfl) (ev1 rfl) rfl rfl rfl rfl) rfl (by simp only [upd, zaa, za]; exact rfl) ?_
  refine lex_s rfl rfl (op_stwa rfl tb51 (ev1 rfl) (ev1 rfl) rfl rfl rfl rfl) rfl (by simp only [upd, zaa, za]; exact rfl) ?_
  refine lex_nil ?_
  refine zaf ?_
  refine dwp_drawZ 5 20 [5, 8, 9, 10, 11, 14, 15, 16, 17] [([1], []), ([5], []), ([], []), ([], []), ([], []), ([], []), ([1], []), ([6], []), ([], []), ([], []), ([], []), ([], []), ([5], []), ([2], []), ([], []), ([], []), ([], []), ([], []), ([6], []), ([2], [])] mixed (by kernel_rfl) rfl rfl rfl ?_
  refine zag rfl rfl (op_ldw rfl tb51 (ev1 rfl) rfl rfl) ?_
  refine zag rfl rfl (op_ldw rfl tb51 (ev1 rfl) rfl rfl) ?_
  refine zag rfl rfl (zai [] [] [] rfl (ev1 rfl) (ec (ev1 rfl) (ec (ev1 rfl) en)) rfl rfl (rect_d a (ac2 a b)) rfl rfl rfl rfl rfl rfl) ?_
  refine zag rfl rfl (op_ext rfl (ev1 rfl) rfl) ?_
  refine zag rfl rfl ((op_ext rfl (ev1 rfl) rfl).cast (d' := .val (.int .i64 2)) (by rw [g1.2])) ?_
  refine lex_s rfl rfl nop_d rfl rfl ?_
  refine zag rfl rfl (op_ldw rfl tb51 (ev1 rfl) rfl rfl) ?_
  refine zag rfl rfl (op_ldw rfl tb51 (ev1 rfl) rfl rfl) ?_
  refine lex_s rfl rfl nop_d rfl rfl ?_
  refine lex_s rfl rfl nop_d rfl rfl ?_
  refine lex_s rfl rfl nop_d rfl rfl ?_
  refine lex_s rfl rfl nop_d rfl rfl ?_
  refine zag rfl rfl (op_ldw rfl tb51 (ev1 rfl) rfl rfl) ?_
  refine zag rfl rfl (op_ldw rfl tb51 (ev1 rfl) rfl rfl) ?_
  refine lex_s rfl rfl nop_d rfl rfl ?_
  refine lex_s rfl rfl nop_d rfl rfl ?_
  refine lex_s rfl rfl nop_d rfl rfl ?_
  refine lex_s rfl rfl nop_d rfl rfl ?_
  refine zag rfl rfl (op_ldw rfl tb51 (ev1 rfl) rfl rfl) ?_
  refine zag rfl rfl (op_ldw rfl tb51 (ev1 rfl) rfl rfl) ?_
  refine lex_nil ⟨_, _, _, rfl, dop_callP [] [] [] rfl (ev1 rfl) (ec (ev1 rfl) (ec (ev1 rfl) en)) rfl rfl (mustS_p _ 2 (by decide)) rfl rfl rfl rfl rfl rfl, ?_⟩
  refine kdef (dturn_caught [3] [] rfl rfl rfl (dframe1_caught _ _) rfl rfl rfl rfl rfl) ?_
  refine kend0 (rs2 rfl (rv_t rfl) (rv_1 tb34 rfl rfl rfl)) rfl ?_
  rfl
set_option maxRecDepth 4000 in
set_option maxHeartbeats 1000000 in
theorem frame_n2 (w h : Int) (ds : List D) (ts : List TL) (hr : RowOk ds ts) (hc : CvOk w h ts) (c : C4) (a b : P2) (hd1 : (drwB a && drwB (ac2 a b)) = true) (hd2 : (drwB a && drwB (dn2 a b)) = false) : DFun Tryz.prog 32 [cvD w h ds, .val (.agg (c4 c).toArray), .val (.agg #[.int .i64 a.x, .int .i64 a.y]), .val (.agg #[.int .i64 b.x, .int .i64 b.y])] [] (.tup [.val (.pointer none), .val (.int .i64 2)]) [] := by
  have g1 := rct_ok hd1
  have g2 := rct_no hd2
  refine dcalls_body (N := 61) 0 (by kernel_rfl) Tryz.func32 rfl rfl rfl (by simp only [fr0, Nat.zero_add, Nat.reduceAdd]; exact rfl) rfl fun s0 hs0 => ?_
  refine dbody_seq rfl hs0 ?_
  refine zah 4 (by simp only [holes, List.cons_append, List.nil_append]; exact rfl) ?_
  refine zad ?_
  refine zak rfl rfl rfl (op_boxa 0 rfl (ev1 rfl) rfl) (by simp only [upd, zaa, za]; exact rfl) ?_
  refine zak rfl rfl rfl (op_boxa 1 rfl (ev1 rfl) rfl) (by simp only [upd, zaa, za]; exact rfl) ?_
  refine zak rfl rfl rfl (op_boxa 2 rfl (ev1 rfl) rfl) (by simp only [upd, zaa, za]; exact rfl) ?_
  refine zab rfl rfl rfl (zac (.inr rfl) (ev1 rfl)) ?_
  refine zak rfl rfl rfl (op_alloc 3 rfl zr34 rfl) (by simp only [upd, zaa, za]; exact rfl) ?_
  refine zae ?_
  refine dbody_defer (l0 := [_]) rfl rfl rfl rfl rfl hs0 ?_
  refine zab rfl rfl rfl (op_mkf rfl en (ec (ev1 rfl) en)) ?_
  refine zae ⟨_, _, _, 4, ev1 rfl, Nat.le_trans hs0 (by decide), rfl, ?_⟩
  have hs1 : s0.M.length ≤ 4 := Nat.le_trans hs0 (by decide)
  refine dbody_end rfl hs0 ?_
  refine zaf ?_
  refine zah 1 (by simp only [holes, List.cons_append, List.nil_append]; exact rfl) ?_
  refine zad ?_
  refine zab rfl rfl rfl (zac (.inl rfl) (ev1 rfl)) ?_
  refine zab rfl rfl rfl (zai [] [] [] rfl (ev1 rfl) (ec (ev1 rfl) en) rfl rfl (easel_d w h ds) rfl rfl rfl rfl rfl rfl) ?_
  refine zak rfl rfl rfl (op_alloc 4 rfl zr85 rfl) (by simp only [upd, zaa, za]; exact rfl) ?_
  refine walk_s rfl rfl (op_stam2 rfl tb85 (ev1 rfl) (ev1 rfl) rfl rfl rfl rfl) (by simp only [upd, zaa, za]; exact rfl) ?_
  refine zae ?_
  refine zaf ?_
  refine zah 2 (by simp only [holes, List.cons_append, List.nil_append]; exact rfl) ?_
  refine dwp_draw [([], []), ([2], []), ([], []), ([1], []), ([], []), ([], []), ([1], []), ([], []), ([2], []), ([], []), ([5], [5]), ([6], [6]), ([5], [5]), ([6], [6])] mixed (by kernel_rfl) ?_
  refine zag rfl rfl (op_fa rfl fo51_0 (ev1 rfl)) ?_
  refine zag rfl rfl (zal rfl tb3 (ev1 rfl) rfl rfl) ?_
  refine zag rfl rfl (op_fa rfl fo51_1 (ev1 rfl)) ?_
  refine zag rfl rfl (zal rfl tb3 (ev1 rfl) rfl rfl) ?_
  refine zag rfl rfl (op_build (ps := [(0, .tmp 18), (1, .tmp 20)]) rfl fl51 zr51 (vc (ev1 rfl) (vc (ev1 rfl) vn)) rfl rfl) ?_
  refine zag rfl rfl (op_fa rfl fo51_0 (ev1 rfl)) ?_
  refine zag rfl rfl (zal rfl tb3 (ev1 rfl) rfl rfl) ?_
  refine zag rfl rfl (op_fa rfl fo51_1 (ev1 rfl)) ?_
  refine zag rfl rfl (zal rfl tb3 (ev1 rfl) rfl rfl) ?_
  refine zag rfl rfl (op_build (ps := [(0, .tmp 23), (1, .tmp 25)]) rfl fl51 zr51 (vc (ev1 rfl) (vc (ev1 rfl) vn)) rfl rfl) ?_
  refine lex_w rfl rfl (op_alloc 5 rfl zr51 rfl) rfl (by simp only [upd, zaa, za]; exact rfl) ?_
  refine lex_w rfl rfl (op_alloc 6 rfl zr51 rfl) rfl (by simp only [upd, zaa, za]; exact rfl) ?_
  refine lex_s rfl rfl (op_stwa rfl tb51 (ev1 rfl) (ev1 rfl) rfl rfl rfl rfl) rfl (by simp only [upd, zaa, za]; exact rfl) ?_
  refine lex_s rfl rfl (op_stwa rfl tb51 (ev1 rfl) (ev1 rfl) rfl rfl rfl rfl) rfl (by simp only [upd, zaa, za]; exact rfl) ?_
  refine lex_nil ?_
  refine zaf ?_
  refine dwp_drawZ 11 20 [11, 14, 15, 16, 17] [([1], []), ([5], []), ([], []), ([], []), ([], []), ([], []), ([1], []), ([6], []), ([], []), ([], []), ([], []), ([], []), ([5], []), ([2], []), ([], []), ([], []), ([], []), ([], []), ([6], []), ([2], [])] mixed (by kernel_rfl) rfl rfl rfl ?_
  refine zag rfl rfl (op_ldw rfl tb51 (ev1 rfl) rfl rfl) ?_
  refine zag rfl rfl (op_ldw rfl tb51 (ev1 rfl) rfl rfl) ?_
  refine zag rfl rfl (zai [] [] [] rfl (ev1 rfl) (ec (ev1 rfl) (ec (ev1 rfl) en)) rfl rfl (rect_d a (ac2 a b)) rfl rfl rfl rfl rfl rfl) ?_
  refine zag rfl rfl ((op_ext rfl (ev1 rfl) rfl).cast (d' := .slf 3 (rectL a (ac2 a b)).length ((rectL a (ac2 a b)).flatMap s3)) (by rw [g1.1])) ?_
  refine zag rfl rfl ((op_ext rfl (ev1 rfl) rfl).cast (d' := .val (.int .i64 0)) (by rw [g1.2])) ?_
  refine zag rfl rfl (zai [] [] [] rfl (ev1 rfl) (ec (ev1 rfl) (ec (ev1 rfl) en)) rfl rfl (mustS_d (rectL a (ac2 a b))) rfl rfl rfl rfl rfl rfl) ?_
  refine zag rfl rfl (op_ldw rfl tb51 (ev1 rfl) rfl rfl) ?_
  refine zag rfl rfl (op_ldw rfl tb51 (ev1 rfl) rfl rfl) ?_
  refine zag rfl rfl (zai [] [] [] rfl (ev1 rfl) (ec (ev1 rfl) (ec (ev1 rfl) en)) rfl rfl (rect_d a (dn2 a b)) rfl rfl rfl rfl rfl rfl) ?_
  refine zag rfl rfl (op_ext rfl (ev1 rfl) rfl) ?_
  refine zag rfl rfl ((op_ext rfl (ev1 rfl) rfl).cast (d' := .val (.int .i64 2)) (by rw [g2.2])) ?_
  refine lex_s rfl rfl nop_d rfl rfl ?_
  refine zag rfl rfl (op_ldw rfl tb51 (ev1 rfl) rfl rfl) ?_
  refine zag rfl rfl (op_ldw rfl tb51 (ev1 rfl) rfl rfl) ?_
  refine lex_s rfl rfl nop_d rfl rfl ?_
  refine lex_s rfl rfl nop_d rfl rfl ?_
  refine lex_s rfl rfl nop_d rfl rfl ?_
  refine lex_s rfl rfl nop_d rfl rfl ?_
  refine zag rfl rfl (op_ldw rfl tb51 (ev1 rfl) rfl rfl) ?_
  refine zag rfl rfl (op_ldw rfl tb51 (ev1 rfl) rfl rfl) ?_
  refine lex_nil ⟨_, _, _, rfl, dop_callP [] [] [] rfl (ev1 rfl) (ec (ev1 rfl) (ec (ev1 rfl) en)) rfl rfl (mustS_p _ 2 (by decide)) rfl rfl rfl rfl rfl rfl, ?_⟩
  refine kdef (dturn_caught [3] [] rfl rfl rfl (dframe1_caught _ _) rfl rfl rfl rfl rfl) ?_
  refine kend0 (rs2 rfl (rv_t rfl) (rv_1 tb34 rfl rfl rfl)) rfl ?_
  rfl
def btw (n a b : Int) : Bool := (decide (a ≤ n) && decide (n ≤ b)) || (decide (b ≤ n) && decide (n ≤ a))
theorem btw_iff {n a b : Int} : btw n a b = true ↔ min a b ≤ n ∧ n ≤ max a b := by
  unfold btw
  simp only [Bool.or_eq_true, Bool.and_eq_true, decide_eq_true_eq]
  omega
def edgB (a b p : P2) : Bool := ((decide (p.x = a.x) || decide (p.x = b.x)) || decide (p.y = a.y)) || decide (p.y = b.y)
theorem edgB_iff {a b p : P2} : edgB a b p = true ↔ p.x = a.x ∨ p.x = b.x ∨ p.y = a.y ∨ p.y = b.y := by
  unfold edgB
  simp only [Bool.or_eq_true, decide_eq_true_eq, or_assoc]
def rcF (e : Bool) (a b p : P2) : Bool := (btw p.x a.x b.x && btw p.y a.y b.y) && (!e || edgB a b p)
def gD (k : Bool) (w : Int) (ts : List TL) (c : C4) (f : P2 → Bool) (n : Nat) : List Dt := ((fieldN (w * 8).toNat n 0 0).filter f).map (dtK k w ts c)
theorem gD_no {k : Bool} {w : Int} {ts : List TL} {c : C4} {f : P2 → Bool} {x y : Nat} (hx : x < (w * 8).toNat) (h : f ⟨(x : Int), (y : Int)⟩ = false) : gD k w ts c f (y * (w * 8).toNat + (x + 1)) = gD k w ts c f (y * (w * 8).toNat + x) := by
  unfold gD
  rw [field_at hx, List.filter_append, List.filter_cons, if_neg (by rw [Int.zero_add, Int.zero_add, h]; decide), List.filter_nil, List.append_nil]
theorem gD_yes {k : Bool} {w : Int} {ts : List TL} {c : C4} {f : P2 → Bool} {x y : Nat} (hx : x < (w * 8).toNat) (h : f ⟨(x : Int), (y : Int)⟩ = true) : gD k w ts c f (y * (w * 8).toNat + (x + 1)) = gD k w ts c f (y * (w * 8).toNat + x) ++ [⟨(x : Int), (y : Int), cmC k (getC w ts (x : Int) (y : Int)) c⟩] := by
  unfold gD
  rw [field_at hx, List.filter_append, List.filter_cons, if_pos (by rw [Int.zero_add, Int.zero_add, h]), List.filter_nil, List.map_append, List.map_cons, List.map_nil, Int.zero_add, Int.zero_add]
  rfl
def rcC (k e : Bool) (w h : Int) (ts : List TL) (c : C4) (a b : P2) : List TL := putsC w h ts (gD k w ts c (rcF e a b) ((h * 8).toNat * (w * 8).toNat))
theorem rc_drw {w h : Int} {ts : List TL} (hc : CvOk w h ts) (k e : Bool) (c : C4) (a b : P2) {l : List Sp} (hf : ∀ p : P2, rcF e a b p = true ↔ hasS l p.x p.y) : rcC k e w h ts c a b = drwC k w h ts c l := by
  have hb := mayS_b hc.may
  unfold rcC gD drwC
  refine puts_ext hc (f := fun p : P2 => cmC k (getC w ts p.x p.y) c) (fun d hd => dtK_tell k w ts c _ d hd) (fun d hd => dtK_tell k w ts c _ d hd) fun x y ho => ?_
  have hxy := onS_iff.1 ho
  rw [dtK_at, dtK_at, List.mem_filter, field_mem (by omega), ptsS_mem, hf]
  simp only
  constructor
  · exact fun g => g.2
  · exact fun g => ⟨by omega, g⟩
theorem rc_rect {w h : Int} {ts : List TL} (hc : CvOk w h ts) (k : Bool) (c : C4) (a b : P2) : rcC k false w h ts c a b = drwC k w h ts c (rectL a b) := rc_drw hc k false c a b fun p => by
  unfold rcF
  rw [rect_has]
  simp only [Bool.and_eq_true, btw_iff, Bool.not_false, Bool.true_or, and_true]
theorem rc_frm {w h : Int} {ts : List TL} (hc : CvOk w h ts) (c : C4) {a b : P2} (ha : drwB a = true) (hb : drwB b = true) : rcC false true w h ts c a b = drwC false w h ts c (uniL (frmR a b)) := rc_drw hc false true c a b fun p => by
  unfold rcF
  rw [frm_has ha hb]
  simp only [Bool.and_eq_true, btw_iff, Bool.not_true, Bool.false_or, edgB_iff]
set_option maxRecDepth 4000 in
set_option maxHeartbeats 1000000 in
theorem btw_d (n a b : Int) : DFun Tryz.prog 75 [.val (.int .i64 n), .val (.int .i64 a), .val (.int .i64 b)] [] (.val (.bool (btw n a b))) [] := by
  refine zam (N := 25) 0 (by kernel_rfl) Tryz.func75 rfl rfl rfl (by simp only [fr0, Nat.zero_add, Nat.reduceAdd]; exact rfl) rfl fun s0 hs0 => ?_
  refine zaf ?_
  refine zad ?_
  refine zab rfl rfl rfl (zac (.inr rfl) (ev1 rfl)) ?_
  refine zae ?_
  refine zaf ?_
  refine zad ?_
  refine zab rfl rfl rfl (zac (.inl rfl) (ev1 rfl)) ?_
  refine zab rfl rfl rfl (zac (.inl rfl) (ev1 rfl)) ?_
  refine zab rfl rfl rfl (op_geq rfl (ev1 rfl) (ev1 rfl)) ?_
  refine zab rfl rfl rfl (zac (.inl rfl) (ev1 rfl)) ?_
  refine zaj (gd_t rfl rfl rfl) rfl rfl rfl (zac (.inl rfl) (ev1 rfl)) ?_
  refine zaj (gd_t rfl rfl rfl) rfl rfl rfl (zac (.inl rfl) (ev1 rfl)) ?_
  refine zaj (gd_t rfl rfl rfl) rfl rfl rfl (op_leq rfl (ev2 rfl) (ev2 rfl)) ?_
  refine zab rfl rfl rfl (op_and rfl (ev1 rfl) (ev3 rfl id)) ?_
  refine zab rfl rfl rfl (zac (.inl rfl) (ev1 rfl)) ?_
  refine zaj (gd_f rfl rfl rfl) rfl rfl rfl (zac (.inl rfl) (ev1 rfl)) ?_
  refine zaj (gd_f rfl rfl rfl) rfl rfl rfl (zac (.inl rfl) (ev1 rfl)) ?_
  refine zaj (gd_f rfl rfl rfl) rfl rfl rfl (op_geq rfl (ev2 rfl) (ev2 rfl)) ?_
  refine zaj (gd_f rfl rfl rfl) rfl rfl rfl (zac (.inl rfl) (ev2 rfl)) ?_
  refine zaj (gd_tt rfl rfl rfl) rfl rfl rfl (zac (.inl rfl) (ev1 rfl)) ?_
  refine zaj (gd_tt rfl rfl rfl) rfl rfl rfl (zac (.inl rfl) (ev1 rfl)) ?_
  refine zaj (gd_tt rfl rfl rfl) rfl rfl rfl (op_leq rfl (ev2 rfl) (ev2 rfl)) ?_
  refine zaj (gd_f rfl rfl rfl) rfl rfl rfl (op_and rfl (ev2 rfl) (ev2 rfl)) ?_
  refine zab rfl rfl rfl (op_or rfl (ev1 rfl) (ev3 rfl id)) ?_
  refine zab rfl rfl rfl (zac (.inr rfl) (ev1 rfl)) ?_
  refine zae ?_
  refine dwp_ret ?_
  refine kend0 (rs1 rfl (rv_t rfl)) rfl ?_
  rfl
set_option maxRecDepth 4000 in
set_option maxHeartbeats 1000000 in
theorem rrc_0 (w h : Int) (ts : List TL) (hc : CvOk w h ts) (c : C4) (a b : P2) : DFun Tryz.prog 34 [shD w h ts, .val (.agg (c4 c).toArray), .val (.agg #[.int .i64 a.x, .int .i64 a.y]), .val (.agg #[.int .i64 b.x, .int .i64 b.y]), .val (.int .i64 0)] [] (shD w h (rcC false false w h ts c a b)) [] := by
  refine zam (N := 93) 0 (by kernel_rfl) Tryz.func34 rfl rfl rfl (by simp only [fr0, Nat.zero_add, Nat.reduceAdd]; exact rfl) rfl fun s0 hs0 => ?_
  refine zaf ?_
  have hb := mayS_b hc.may
  refine zah 5 (by simp only [holes, List.cons_append, List.nil_append]; exact rfl) ?_
  refine zad ?_
  refine zak rfl rfl rfl (op_boxam 0 rfl (ev1 rfl) rfl) (by simp only [upd, zaa, za]; exact rfl) ?_
  refine zak rfl rfl rfl (op_boxa 1 rfl (ev1 rfl) rfl) (by simp only [upd, zaa, za]; exact rfl) ?_
  refine zak rfl rfl rfl (op_boxa 2 rfl (ev1 rfl) rfl) (by simp only [upd, zaa, za]; exact rfl) ?_
  refine zak rfl rfl rfl (op_boxa 3 rfl (ev1 rfl) rfl) (by simp only [upd, zaa, za]; exact rfl) ?_
  refine zak rfl rfl rfl (op_alloc 4 rfl zr24 rfl) (by simp only [upd, zaa, za]; exact rfl) ?_
  refine zae ?_
  refine zaf ?_
  refine zah 1 (by simp only [holes, List.cons_append, List.nil_append]; exact rfl) ?_
  refine zad ?_
  refine zab rfl rfl rfl (op_ldmw rfl tb24 (ev1 rfl) rfl rfl) ?_
  refine zak rfl rfl rfl (op_alloc 5 rfl zr24 rfl) (by simp only [upd, zaa, za]; exact rfl) ?_
  refine walk_s rfl rfl (op_stam rfl tb24 (ev1 rfl) (ev1 rfl) rfl rfl rfl rfl) (by simp only [upd, zaa, za]; exact rfl) ?_
  refine zae ?_
  refine zaf ?_
  refine zaf ?_
  refine zad ?_
  refine zab rfl rfl rfl (op_fa rfl fo24_1 (ev1 rfl)) ?_
  refine zab rfl rfl rfl (op_ldm rfl tb3 (ev1 rfl) rfl rfl) ?_
  refine zab rfl rfl rfl (op_mul' rfl (ev1 rfl) (ev1 rfl) (fun _ => IntWalk.i64_in _ (by omega))) ?_
  refine zab rfl rfl rfl (zac (.inl rfl) (ev1 rfl)) ?_
  refine zae ?_
  refine dwp_block ?_
  refine dwp_loopS ⟨hs0, rfl⟩ (α := Nat) (fun y => [(20, .val (.int .i64 (y : Int)))]) [(4, _), (5, _), (6, _), (7, _), (8, _), (10, _), (11, _), (19, _)] (fun y => [(5, .mix 24 [.val (.int .i64 w), .val (.int .i64 h), .slf 256 (putsC w h ts (gD false w ts c (rcF false a b) (y * (w * 8).toNat))).length ((putsC w h ts (gD false w ts c (rcF false a b) (y * (w * 8).toNat))).flatMap tc)])]) [_, _, _, _, _, .hole] (fun y => (y : Int) ≤ h * 8) (fun y => (h * 8).toNat - y) 0 [0, 1, 2, 3, 4, 5] (by omega) rfl ⟨rfl, rfl, rfl, rfl, rfl, rfl, rfl, rfl, trivial⟩ ⟨rfl, trivial⟩ ⟨rfl, rfl, rfl, rfl, rfl, by rw [Nat.zero_mul]; rfl, trivial⟩ ?_
  intro y hx
  simp only [upd, zaa, za, List.cons_append, List.nil_append]
  have hy0 := hx
  refine zaf ?_
  refine zad ?_
  refine zab rfl rfl rfl (op_lss rfl (ev1 rfl) (ev1 rfl)) ?_
  refine zae ?_
  refine zaf ?_
  refine dwp_cond rfl (fun c1 => ?_) (fun c1 => ?_)
  · try simp only [decide_eq_true_eq, decide_eq_false_iff_not, beq_iff_eq, bne_iff_ne, beq_eq_false_iff_ne, bne_eq_false_iff_eq, Bool.not_eq_true', Bool.not_eq_false', Bool.and_eq_true, Bool.or_eq_true, Bool.or_eq_false_iff, ne_eq, Decidable.not_not, Int.not_lt, Int.not_le] at c1
    refine dwp_skip ?_
    refine zaf ?_
    refine dwp_block ?_
    refine zaf ?_
    refine zad ?_
    refine zab rfl rfl rfl (zac (.inl rfl) (ev1 rfl)) ?_
    refine zab rfl rfl rfl (zac (.inr rfl) (ev1 rfl)) ?_
    refine zae ?_
    refine zaf ?_
    refine zad ?_
    refine zab rfl rfl rfl (op_fa rfl fo24_0 (ev1 rfl)) ?_
    refine zab rfl rfl rfl (op_ldm rfl tb3 (ev1 rfl) rfl rfl) ?_
    refine zab rfl rfl rfl (op_mul' rfl (ev1 rfl) (ev1 rfl) (fun _ => IntWalk.i64_in _ (by omega))) ?_
    refine zab rfl rfl rfl (zac (.inl rfl) (ev1 rfl)) ?_
    refine zae ?_
    refine dwp_block ?_
    refine dwp_loopS ⟨hs0, rfl⟩ (α := Nat) (fun x => [(26, .val (.int .i64 (x : Int)))]) [(4, _), (5, _), (6, _), (7, _), (8, _), (10, _), (11, _), (12, _), (19, _), (20, _), (25, _)] (fun x => [(5, .mix 24 [.val (.int .i64 w), .val (.int .i64 h), .slf 256 (putsC w h ts (gD false w ts c (rcF false a b) (y * (w * 8).toNat + x))).length ((putsC w h ts (gD false w ts c (rcF false a b) (y * (w * 8).toNat + x))).flatMap tc)])]) [_, _, _, _, _, .hole] (fun x => (x : Int) ≤ w * 8) (fun x => (w * 8).toNat - x) 0 [0, 1, 2, 3, 4, 5] (by omega) rfl ⟨rfl, rfl, rfl, rfl, rfl, rfl, rfl, rfl, rfl, rfl, rfl, trivial⟩ ⟨rfl, trivial⟩ ⟨rfl, rfl, rfl, rfl, rfl, by rw [Nat.add_zero]; rfl, trivial⟩ ?_
    intro x hx
    simp only [upd, zaa, za, List.cons_append, List.nil_append]
    have hx0 := hx
    refine zaf ?_
    refine zad ?_
    refine zab rfl rfl rfl (op_lss rfl (ev1 rfl) (ev1 rfl)) ?_
    refine zae ?_
    refine zaf ?_
    refine dwp_cond rfl (fun c2 => ?_) (fun c2 => ?_)
    · try simp only [decide_eq_true_eq, decide_eq_false_iff_not, beq_iff_eq, bne_iff_ne, beq_eq_false_iff_ne, bne_eq_false_iff_eq, Bool.not_eq_true', Bool.not_eq_false', Bool.and_eq_true, Bool.or_eq_true, Bool.or_eq_false_iff, ne_eq, Decidable.not_not, Int.not_lt, Int.not_le] at c2
      refine dwp_skip ?_
      refine zaf ?_
      refine dwp_block ?_
      refine zaf ?_
      have hx8 : x < (w * 8).toNat := by omega
      have ho : onS w h (x : Int) (y : Int) = true := onS_iff.2 ⟨by omega, by omega⟩
      refine zad ?_
      refine zab rfl rfl rfl (zac (.inl rfl) (ev1 rfl)) ?_
      refine zab rfl rfl rfl (zac (.inr rfl) (ev1 rfl)) ?_
      refine zae ?_
      refine zaf ?_
      refine zad ?_
      refine zab rfl rfl rfl (zac (.inl rfl) (ev1 rfl)) ?_
      refine zab rfl rfl rfl (op_fa rfl fo51_0 (ev1 rfl)) ?_
      refine zab rfl rfl rfl (zal rfl tb3 (ev1 rfl) rfl rfl) ?_
      refine zab rfl rfl rfl (op_eql rfl (ev1 rfl) (ev1 rfl)) ?_
      refine zab rfl rfl rfl (zac (.inl rfl) (ev1 rfl)) ?_
      refine zaj (gd_f rfl rfl rfl) rfl rfl rfl (zac (.inl rfl) (ev1 rfl)) ?_
      refine zaj (gd_f rfl rfl rfl) rfl rfl rfl (op_fa rfl fo51_0 (ev1 rfl)) ?_
      refine zaj (gd_f rfl rfl rfl) rfl rfl rfl (zal rfl tb3 (ev2 rfl) rfl rfl) ?_
      refine zaj (gd_f rfl rfl rfl) rfl rfl rfl (op_eql rfl (ev2 rfl) (ev2 rfl)) ?_
      refine zab rfl rfl rfl (op_or rfl (ev1 rfl) (ev3 rfl id)) ?_
      refine zab rfl rfl rfl (zac (.inl rfl) (ev1 rfl)) ?_
      refine zaj (gd_f rfl rfl rfl) rfl rfl rfl (zac (.inl rfl) (ev1 rfl)) ?_
      refine zaj (gd_f rfl rfl rfl) rfl rfl rfl (op_fa rfl fo51_1 (ev1 rfl)) ?_
      refine zaj (gd_f rfl rfl rfl) rfl rfl rfl (zal rfl tb3 (ev2 rfl) rfl rfl) ?_
      refine zaj (gd_f rfl rfl rfl) rfl rfl rfl (op_eql rfl (ev2 rfl) (ev2 rfl)) ?_
      refine zab rfl rfl rfl (op_or rfl (ev1 rfl) (ev3 rfl id)) ?_
      refine zab rfl rfl rfl (zac (.inl rfl) (ev1 rfl)) ?_
      refine zaj (gd_f rfl rfl rfl) rfl rfl rfl (zac (.inl rfl) (ev1 rfl)) ?_
      refine zaj (gd_f rfl rfl rfl) rfl rfl rfl (op_fa rfl fo51_1 (ev1 rfl)) ?_
      refine zaj (gd_f rfl rfl rfl) rfl rfl rfl (zal rfl tb3 (ev2 rfl) rfl rfl) ?_
      refine zaj (gd_f rfl rfl rfl) rfl rfl rfl (op_eql rfl (ev2 rfl) (ev2 rfl)) ?_
      refine zab rfl rfl rfl ((op_or rfl (ev1 rfl) (ev3 rfl id)).cast (d' := .val (.bool (edgB a b ⟨(x : Int), (y : Int)⟩))) (by unfold edgB; first | rfl | simp)) ?_
      refine zab rfl rfl rfl (zac (.inr rfl) (ev1 rfl)) ?_
      refine zae ?_
      refine zaf ?_
      refine zaf ?_
      refine zad ?_
      refine zab rfl rfl rfl (zac (.inl rfl) (ev1 rfl)) ?_
      refine zab rfl rfl rfl (op_fa rfl fo51_0 (ev1 rfl)) ?_
      refine zab rfl rfl rfl (zal rfl tb3 (ev1 rfl) rfl rfl) ?_
      refine zab rfl rfl rfl (op_fa rfl fo51_0 (ev1 rfl)) ?_
      refine zab rfl rfl rfl (zal rfl tb3 (ev1 rfl) rfl rfl) ?_
      refine zab rfl rfl rfl (zai [] [] [] rfl (ev1 rfl) (ec (ev1 rfl) (ec (ev1 rfl) (ec (ev1 rfl) en))) rfl rfl (btw_d (x : Int) a.x b.x) rfl rfl rfl rfl rfl rfl) ?_
      refine zab rfl rfl rfl (op_not rfl (ev1 rfl)) ?_
      refine zab rfl rfl rfl (zac (.inl rfl) (ev1 rfl)) ?_
      refine zaj (gd_f rfl rfl rfl) rfl rfl rfl (zac (.inl rfl) (ev1 rfl)) ?_
      refine zaj (gd_f rfl rfl rfl) rfl rfl rfl (op_fa rfl fo51_1 (ev1 rfl)) ?_
      refine zaj (gd_f rfl rfl rfl) rfl rfl rfl (zal rfl tb3 (ev2 rfl) rfl rfl) ?_
      refine zaj (gd_f rfl rfl rfl) rfl rfl rfl (op_fa rfl fo51_1 (ev1 rfl)) ?_
      refine zaj (gd_f rfl rfl rfl) rfl rfl rfl (zal rfl tb3 (ev2 rfl) rfl rfl) ?_
      refine zaj (gd_f rfl rfl rfl) rfl rfl rfl (zai [] [] [] rfl (ev1 rfl) (ec (ev2 rfl) (ec (ev2 rfl) (ec (ev2 rfl) en))) rfl rfl (btw_d (y : Int) a.y b.y) rfl rfl rfl rfl rfl rfl) ?_
      refine zaj (gd_f rfl rfl rfl) rfl rfl rfl (op_not rfl (ev2 rfl)) ?_
      refine zab rfl rfl rfl (op_or rfl (ev1 rfl) (ev3 rfl id)) ?_
      refine zab rfl rfl rfl (zac (.inl rfl) (ev1 rfl)) ?_
      refine zaj (gd_f rfl rfl rfl) rfl rfl rfl (zac (.inl rfl) (ev1 rfl)) ?_
      refine zaj (gd_f rfl rfl rfl) rfl rfl rfl ((op_eql rfl (ev2 rfl) (ev1 rfl)).cast (d' := .val (.bool false)) (by kernel_rfl)) ?_
      refine zaj (gd_f rfl rfl rfl) rfl rfl rfl (zac (.inl rfl) (ev2 rfl)) ?_
      refine zaj (gd_tt rfl rfl rfl) rfl rfl rfl (zac (.inl rfl) (ev1 rfl)) ?_
      refine zaj (gd_tt rfl rfl rfl) rfl rfl rfl (op_not rfl (ev2 rfl)) ?_
      refine zaj (gd_f rfl rfl rfl) rfl rfl rfl ((op_and rfl (ev2 rfl) (ev2 rfl)).cast (d' := .val (.bool false)) (by rfl)) ?_
      refine zab rfl rfl rfl (op_or rfl (ev1 rfl) (ev3 rfl id)) ?_
      refine zae ?_
      refine dwp_cond rfl (fun c3 => ?_) (fun c3 => ?_)
      · have hno : rcF false a b ⟨(x : Int), (y : Int)⟩ = false := by
            unfold rcF
            simp only
            revert c3
            cases btw (x : Int) a.x b.x <;> cases btw (y : Int) a.y b.y <;> cases edgB a b ⟨(x : Int), (y : Int)⟩ <;> simp
        refine dwp_exit ?_
        refine zad ?_
        refine zab rfl rfl rfl (op_add' rfl (ev1 rfl) (ev1 rfl) (fun _ => IntWalk.i64_in _ (by omega))) ?_
        refine zab rfl rfl rfl (zac (.inl rfl) (ev1 rfl)) ?_
        refine zae ?_
        refine ⟨x + 1, [0, 1, 2, 3, 4, 5], by omega, by simp only []; omega, rfl, ⟨rfl, rfl, rfl, rfl, rfl, rfl, rfl, rfl, rfl, rfl, rfl, rfl, trivial⟩, ⟨rfl, rfl, rfl, rfl, rfl, by rw [gD_no hx8 hno]; rfl, trivial⟩⟩
      · have hyes : rcF false a b ⟨(x : Int), (y : Int)⟩ = true := by
            unfold rcF
            simp only
            revert c3
            cases btw (x : Int) a.x b.x <;> cases btw (y : Int) a.y b.y <;> cases edgB a b ⟨(x : Int), (y : Int)⟩ <;> simp
        refine dwp_skip ?_
        refine zaf ?_
        refine zah 1 (by simp only [holes, List.cons_append, List.nil_append]; exact rfl) ?_
        refine zad ?_
        refine zab rfl rfl rfl (op_ldw rfl tb27 (ev1 rfl) rfl rfl) ?_
        refine zak rfl rfl rfl (op_alloc 6 rfl zr27 rfl) (by simp only [upd, zaa, za]; exact rfl) ?_
        refine walk_s rfl rfl (op_stwa rfl tb27 (ev1 rfl) (ev1 rfl) rfl rfl rfl rfl) (by simp only [upd, zaa, za]; exact rfl) ?_
        refine zae ?_
        refine zaf ?_
        refine zaf ?_
        refine zad ?_
        refine zab rfl rfl rfl (zac (.inl rfl) (ev1 rfl)) ?_
        refine zab rfl rfl rfl ((op_eql rfl (ev1 rfl) (ev1 rfl)).cast (d' := .val (.bool false)) (by kernel_rfl)) ?_
        refine zae ?_
        refine dwp_if_f rfl (rfl) ?_
        refine dwp_skip ?_
        refine zad ?_
        refine zab rfl rfl rfl (op_ldmw rfl tb24 (ev1 rfl) rfl rfl) ?_
        refine zab rfl rfl rfl (zac (.inl rfl) (ev1 rfl)) ?_
        refine zab rfl rfl rfl (zac (.inl rfl) (ev1 rfl)) ?_
        refine zab rfl rfl rfl (op_ldw rfl tb27 (ev1 rfl) rfl rfl) ?_
        refine zab rfl rfl rfl (op_build (ps := [(0, .tmp 85), (1, .tmp 86), (2, .tmp 87)]) rfl fl96 zr96 (vc (ev1 rfl) (vc (ev1 rfl) (vc (ev1 rfl) vn))) rfl rfl) ?_
        refine zab rfl rfl rfl (zai [] [] [] rfl (ev1 rfl) (ec (ev1 rfl) (ec (ev1 rfl) en)) rfl rfl (put_d w h _ ⟨(x : Int), (y : Int), cmC false (getC w ts (x : Int) (y : Int)) c⟩ (hc.puts _)) rfl rfl rfl rfl rfl rfl) ?_
        refine walk_s rfl rfl (op_stmw rfl tb24 (ev1 rfl) (ev1 rfl) rfl rfl rfl rfl) (by simp only [upd, zaa, za]; exact rfl) ?_
        refine zae ?_
        refine zad ?_
        refine zab rfl rfl rfl (op_add' rfl (ev1 rfl) (ev1 rfl) (fun _ => IntWalk.i64_in _ (by omega))) ?_
        refine zab rfl rfl rfl (zac (.inl rfl) (ev1 rfl)) ?_
        refine zae ?_
        refine ⟨x + 1, [0, 1, 2, 3, 4, 5], by omega, by simp only []; omega, rfl, ⟨rfl, rfl, rfl, rfl, rfl, rfl, rfl, rfl, rfl, rfl, rfl, rfl, trivial⟩, ⟨rfl, rfl, rfl, rfl, rfl, by rw [gD_yes hx8 hyes, puts_one]; rfl, trivial⟩⟩
    · try simp only [decide_eq_true_eq, decide_eq_false_iff_not, beq_iff_eq, bne_iff_ne, beq_eq_false_iff_ne, bne_eq_false_iff_eq, Bool.not_eq_true', Bool.not_eq_false', Bool.and_eq_true, Bool.or_eq_true, Bool.or_eq_false_iff, ne_eq, Decidable.not_not, Int.not_lt, Int.not_le] at c2
      refine dwp_exit ?_
      refine zad ?_
      refine zab rfl rfl rfl (op_add' rfl (ev1 rfl) (ev1 rfl) (fun _ => IntWalk.i64_in _ (by omega))) ?_
      refine zab rfl rfl rfl (zac (.inl rfl) (ev1 rfl)) ?_
      refine zae ?_
      obtain rfl : x = (w * 8).toNat := by omega
      refine ⟨y + 1, [0, 1, 2, 3, 4, 5], by omega, by simp only []; omega, rfl, ⟨rfl, rfl, rfl, rfl, rfl, rfl, rfl, rfl, rfl, trivial⟩, ⟨rfl, rfl, rfl, rfl, rfl, by rw [Nat.succ_mul]; rfl, trivial⟩⟩
  · try simp only [decide_eq_true_eq, decide_eq_false_iff_not, beq_iff_eq, bne_iff_ne, beq_eq_false_iff_ne, bne_eq_false_iff_eq, Bool.not_eq_true', Bool.not_eq_false', Bool.and_eq_true, Bool.or_eq_true, Bool.or_eq_false_iff, ne_eq, Decidable.not_not, Int.not_lt, Int.not_le] at c1
    refine dwp_exit ?_
    refine zaf ?_
    obtain rfl : y = (h * 8).toNat := by omega
    refine zad ?_
    refine zab rfl rfl rfl (op_ldmw rfl tb24 (ev1 rfl) rfl rfl) ?_
    refine walk_s rfl rfl (op_stam rfl tb24 (ev1 rfl) (ev1 rfl) rfl rfl rfl rfl) (by simp only [upd, zaa, za]; exact rfl) ?_
    refine zae ?_
    refine dwp_ret ?_
    refine kend0 (rs1 rfl (rv_mw tb24 rfl rfl rfl)) rfl ?_
    rfl
set_option maxRecDepth 4000 in
set_option maxHeartbeats 1000000 in
theorem rrc_1 (w h : Int) (ts : List TL) (hc : CvOk w h ts) (c : C4) (a b : P2) : DFun Tryz.prog 34 [shD w h ts, .val (.agg (c4 c).toArray), .val (.agg #[.int .i64 a.x, .int .i64 a.y]), .val (.agg #[.int .i64 b.x, .int .i64 b.y]), .val (.int .i64 1)] [] (shD w h (rcC false true w h ts c a b)) [] := by
  refine zam (N := 93) 0 (by kernel_rfl) Tryz.func34 rfl rfl rfl (by simp only [fr0, Nat.zero_add, Nat.reduceAdd]; exact rfl) rfl fun s0 hs0 => ?_
  refine zaf ?_
  have hb := mayS_b hc.may
  refine zah 5 (by simp only [holes, List.cons_append, List.nil_append]; exact rfl) ?_
  refine zad ?_
  refine zak rfl rfl rfl (op_boxam 0 rfl (ev1 rfl) rfl) (by simp only [upd, zaa, za]; exact rfl) ?_
  refine zak rfl rfl rfl (op_boxa 1 rfl (ev1 rfl) rfl) (by simp only [upd, zaa, za]; exact rfl) ?_
  refine zak rfl rfl rfl (op_boxa 2 rfl (ev1 rfl) rfl) (by simp only [upd, zaa, za]; exact rfl) ?_
  refine zak rfl rfl rfl (op_boxa 3 rfl (ev1 rfl) rfl) (by simp only [upd, zaa, za]; exact rfl) ?_
  refine zak rfl rfl rfl (op_alloc 4 rfl zr24 rfl) (by simp only [upd, zaa, za]; exact rfl) ?_
  refine zae ?_
  refine zaf ?_
  refine zah 1 (by simp only [holes, List.cons_append, List.nil_append]; exact rfl) ?_
  refine zad ?_
  refine zab rfl rfl rfl (op_ldmw rfl tb24 (ev1 rfl) rfl rfl) ?_
  refine zak rfl rfl rfl (op_alloc 5 rfl zr24 rfl) (by simp only [upd, zaa, za]; exact rfl) ?_
  refine walk_s rfl rfl (op_stam rfl tb24 (ev1 rfl) (ev1 rfl) rfl rfl rfl rfl) (by simp only [upd, zaa, za]; exact rfl) ?_
  refine zae ?_
  refine zaf ?_
  refine zaf ?_
  refine zad ?_
  refine zab rfl rfl rfl (op_fa rfl fo24_1 (ev1 rfl)) ?_
  refine zab rfl rfl rfl (op_ldm rfl tb3 (ev1 rfl) rfl rfl) ?_
  refine zab rfl rfl rfl (op_mul' rfl (ev1 rfl) (ev1 rfl) (fun _ => IntWalk.i64_in _ (by omega))) ?_
  refine zab rfl rfl rfl (zac (.inl rfl) (ev1 rfl)) ?_
  refine zae ?_
  refine dwp_block ?_
  refine dwp_loopS ⟨hs0, rfl⟩ (α := Nat) (fun y => [(20, .val (.int .i64 (y : Int)))]) [(4, _), (5, _), (6, _), (7, _), (8, _), (10, _), (11, _), (19, _)] (fun y => [(5, .mix 24 [.val (.int .i64 w), .val (.int .i64 h), .slf 256 (putsC w h ts (gD false w ts c (rcF true a b) (y * (w * 8).toNat))).length ((putsC w h ts (gD false w ts c (rcF true a b) (y * (w * 8).toNat))).flatMap tc)])]) [_, _, _, _, _, .hole] (fun y => (y : Int) ≤ h * 8) (fun y => (h * 8).toNat - y) 0 [0, 1, 2, 3, 4, 5] (by omega) rfl ⟨rfl, rfl, rfl, rfl, rfl, rfl, rfl, rfl, trivial⟩ ⟨rfl, trivial⟩ ⟨rfl, rfl, rfl, rfl, rfl, by rw [Nat.zero_mul]; rfl, trivial⟩ ?_
  intro y hx
  simp only [upd, zaa, za, List.cons_append, List.nil_append]
  have hy0 := hx
  refine zaf ?_
  refine zad ?_
  refine zab rfl rfl rfl (op_lss rfl (ev1 rfl) (ev1 rfl)) ?_
  refine zae ?_
  refine zaf ?_
  refine dwp_cond rfl (fun c1 => ?_) (fun c1 => ?_)
  · try simp only [decide_eq_true_eq, decide_eq_false_iff_not, beq_iff_eq, bne_iff_ne, beq_eq_false_iff_ne, bne_eq_false_iff_eq, Bool.not_eq_true', Bool.not_eq_false', Bool.and_eq_true, Bool.or_eq_true, Bool.or_eq_false_iff, ne_eq, Decidable.not_not, Int.not_lt, Int.not_le] at c1
    refine dwp_skip ?_
    refine zaf ?_
    refine dwp_block ?_
    refine zaf ?_
    refine zad ?_
    refine zab rfl rfl rfl (zac (.inl rfl) (ev1 rfl)) ?_
    refine zab rfl rfl rfl (zac (.inr rfl) (ev1 rfl)) ?_
    refine zae ?_
    refine zaf ?_
    refine zad ?_
    refine zab rfl rfl rfl (op_fa rfl fo24_0 (ev1 rfl)) ?_
    refine zab rfl rfl rfl (op_ldm rfl tb3 (ev1 rfl) rfl rfl) ?_
    refine zab rfl rfl rfl (op_mul' rfl (ev1 rfl) (ev1 rfl) (fun _ => IntWalk.i64_in _ (by omega))) ?_
    refine zab rfl rfl rfl (zac (.inl rfl) (ev1 rfl)) ?_
    refine zae ?_
    refine dwp_block ?_
    refine dwp_loopS ⟨hs0, rfl⟩ (α := Nat) (fun x => [(26, .val (.int .i64 (x : Int)))]) [(4, _), (5, _), (6, _), (7, _), (8, _), (10, _), (11, _), (12, _), (19, _), (20, _), (25, _)] (fun x => [(5, .mix 24 [.val (.int .i64 w), .val (.int .i64 h), .slf 256 (putsC w h ts (gD false w ts c (rcF true a b) (y * (w * 8).toNat + x))).length ((putsC w h ts (gD false w ts c (rcF true a b) (y * (w * 8).toNat + x))).flatMap tc)])]) [_, _, _, _, _, .hole] (fun x => (x : Int) ≤ w * 8) (fun x => (w * 8).toNat - x) 0 [0, 1, 2, 3, 4, 5] (by omega) rfl ⟨rfl, rfl, rfl, rfl, rfl, rfl, rfl, rfl, rfl, rfl, rfl, trivial⟩ ⟨rfl, trivial⟩ ⟨rfl, rfl, rfl, rfl, rfl, by rw [Nat.add_zero]; rfl, trivial⟩ ?_
    intro x hx
    simp only [upd, zaa, za, List.cons_append, List.nil_append]
    have hx0 := hx
    refine zaf ?_
    refine zad ?_
    refine zab rfl rfl rfl (op_lss rfl (ev1 rfl) (ev1 rfl)) ?_
    refine zae ?_
    refine zaf ?_
    refine dwp_cond rfl (fun c2 => ?_) (fun c2 => ?_)
    · try simp only [decide_eq_true_eq, decide_eq_false_iff_not, beq_iff_eq, bne_iff_ne, beq_eq_false_iff_ne, bne_eq_false_iff_eq, Bool.not_eq_true', Bool.not_eq_false', Bool.and_eq_true, Bool.or_eq_true, Bool.or_eq_false_iff, ne_eq, Decidable.not_not, Int.not_lt, Int.not_le] at c2
      refine dwp_skip ?_
      refine zaf ?_
      refine dwp_block ?_
      refine zaf ?_
      have hx8 : x < (w * 8).toNat := by omega
      have ho : onS w h (x : Int) (y : Int) = true := onS_iff.2 ⟨by omega, by omega⟩
      refine zad ?_
      refine zab rfl rfl rfl (zac (.inl rfl) (ev1 rfl)) ?_
      refine zab rfl rfl rfl (zac (.inr rfl) (ev1 rfl)) ?_
      refine zae ?_
      refine zaf ?_
      refine zad ?_
      refine zab rfl rfl rfl (zac (.inl rfl) (ev1 rfl)) ?_
      refine zab rfl rfl rfl (op_fa rfl fo51_0 (ev1 rfl)) ?_
      refine zab rfl rfl rfl (zal rfl tb3 (ev1 rfl) rfl rfl) ?_
      refine zab rfl rfl rfl (op_eql rfl (ev1 rfl) (ev1 rfl)) ?_
      refine zab rfl rfl rfl (zac (.inl rfl) (ev1 rfl)) ?_
      refine zaj (gd_f rfl rfl rfl) rfl rfl rfl (zac (.inl rfl) (ev1 rfl)) ?_
      refine zaj (gd_f rfl rfl rfl) rfl rfl rfl (op_fa rfl fo51_0 (ev1 rfl)) ?_
      refine zaj (gd_f rfl rfl rfl) rfl rfl rfl (zal rfl tb3 (ev2 rfl) rfl rfl) ?_
      refine zaj (gd_f rfl rfl rfl) rfl rfl rfl (op_eql rfl (ev2 rfl) (ev2 rfl)) ?_
      refine zab rfl rfl rfl (op_or rfl (ev1 rfl) (ev3 rfl id)) ?_
      refine zab rfl rfl rfl (zac (.inl rfl) (ev1 rfl)) ?_
      refine zaj (gd_f rfl rfl rfl) rfl rfl rfl (zac (.inl rfl) (ev1 rfl)) ?_
      refine zaj (gd_f rfl rfl rfl) rfl rfl rfl (op_fa rfl fo51_1 (ev1 rfl)) ?_
      refine zaj (gd_f rfl rfl rfl) rfl rfl rfl (zal rfl tb3 (ev2 rfl) rfl rfl) ?_
      refine zaj (gd_f rfl rfl rfl) rfl rfl rfl (op_eql rfl (ev2 rfl) (ev2 rfl)) ?_
      refine zab rfl rfl rfl (op_or rfl (ev1 rfl) (ev3 rfl id)) ?_
      refine zab rfl rfl rfl (zac (.inl rfl) (ev1 rfl)) ?_
      refine zaj (gd_f rfl rfl rfl) rfl rfl rfl (zac (.inl rfl) (ev1 rfl)) ?_
      refine zaj (gd_f rfl rfl rfl) rfl rfl rfl (op_fa rfl fo51_1 (ev1 rfl)) ?_
      refine zaj (gd_f rfl rfl rfl) rfl rfl rfl (zal rfl tb3 (ev2 rfl) rfl rfl) ?_
      refine zaj (gd_f rfl rfl rfl) rfl rfl rfl (op_eql rfl (ev2 rfl) (ev2 rfl)) ?_
      refine zab rfl rfl rfl ((op_or rfl (ev1 rfl) (ev3 rfl id)).cast (d' := .val (.bool (edgB a b ⟨(x : Int), (y : Int)⟩))) (by unfold edgB; first | rfl | simp)) ?_
      refine zab rfl rfl rfl (zac (.inr rfl) (ev1 rfl)) ?_
      refine zae ?_
      refine zaf ?_
      refine zaf ?_
      refine zad ?_
      refine zab rfl rfl rfl (zac (.inl rfl) (ev1 rfl)) ?_
      refine zab rfl rfl rfl (op_fa rfl fo51_0 (ev1 rfl)) ?_
      refine zab rfl rfl rfl (zal rfl tb3 (ev1 rfl) rfl rfl) ?_
      refine zab rfl rfl rfl (op_fa rfl fo51_0 (ev1 rfl)) ?_
      refine zab rfl rfl rfl (zal rfl tb3 (ev1 rfl) rfl rfl) ?_
      refine zab rfl rfl rfl (zai [] [] [] rfl (ev1 rfl) (ec (ev1 rfl) (ec (ev1 rfl) (ec (ev1 rfl) en))) rfl rfl (btw_d (x : Int) a.x b.x) rfl rfl rfl rfl rfl rfl) ?_
      refine zab rfl rfl rfl (op_not rfl (ev1 rfl)) ?_
      refine zab rfl rfl rfl (zac (.inl rfl) (ev1 rfl)) ?_
      refine zaj (gd_f rfl rfl rfl) rfl rfl rfl (zac (.inl rfl) (ev1 rfl)) ?_
      refine zaj (gd_f rfl rfl rfl) rfl rfl rfl (op_fa rfl fo51_1 (ev1 rfl)) ?_
      refine zaj (gd_f rfl rfl rfl) rfl rfl rfl (zal rfl tb3 (ev2 rfl) rfl rfl) ?_
      refine zaj (gd_f rfl rfl rfl) rfl rfl rfl (op_fa rfl fo51_1 (ev1 rfl)) ?_
      refine zaj (gd_f rfl rfl rfl) rfl rfl rfl (zal rfl tb3 (ev2 rfl) rfl rfl) ?_
      refine zaj (gd_f rfl rfl rfl) rfl rfl rfl (zai [] [] [] rfl (ev1 rfl) (ec (ev2 rfl) (ec (ev2 rfl) (ec (ev2 rfl) en))) rfl rfl (btw_d (y : Int) a.y b.y) rfl rfl rfl rfl rfl rfl) ?_
      refine zaj (gd_f rfl rfl rfl) rfl rfl rfl (op_not rfl (ev2 rfl)) ?_
      refine zab rfl rfl rfl (op_or rfl (ev1 rfl) (ev3 rfl id)) ?_
      refine zab rfl rfl rfl (zac (.inl rfl) (ev1 rfl)) ?_
      refine zaj (gd_f rfl rfl rfl) rfl rfl rfl (zac (.inl rfl) (ev1 rfl)) ?_
      refine zaj (gd_f rfl rfl rfl) rfl rfl rfl ((op_eql rfl (ev2 rfl) (ev1 rfl)).cast (d' := .val (.bool true)) (by kernel_rfl)) ?_
      refine zaj (gd_f rfl rfl rfl) rfl rfl rfl (zac (.inl rfl) (ev2 rfl)) ?_
      refine zaj (gd_tt rfl rfl rfl) rfl rfl rfl (zac (.inl rfl) (ev1 rfl)) ?_
      refine zaj (gd_tt rfl rfl rfl) rfl rfl rfl (op_not rfl (ev2 rfl)) ?_
      refine zaj (gd_f rfl rfl rfl) rfl rfl rfl (op_and rfl (ev2 rfl) (ev2 rfl)) ?_
      refine zab rfl rfl rfl (op_or rfl (ev1 rfl) (ev3 rfl id)) ?_
      refine zae ?_
      refine dwp_cond rfl (fun c3 => ?_) (fun c3 => ?_)
      · have hno : rcF true a b ⟨(x : Int), (y : Int)⟩ = false := by
            unfold rcF
            simp only
            revert c3
            cases btw (x : Int) a.x b.x <;> cases btw (y : Int) a.y b.y <;> cases edgB a b ⟨(x : Int), (y : Int)⟩ <;> simp
        refine dwp_exit ?_
        refine zad ?_
        refine zab rfl rfl rfl (op_add' rfl (ev1 rfl) (ev1 rfl) (fun _ => IntWalk.i64_in _ (by omega))) ?_
        refine zab rfl rfl rfl (zac (.inl rfl) (ev1 rfl)) ?_
        refine zae ?_
        refine ⟨x + 1, [0, 1, 2, 3, 4, 5], by omega, by simp only []; omega, rfl, ⟨rfl, rfl, rfl, rfl, rfl, rfl, rfl, rfl, rfl, rfl, rfl, rfl, trivial⟩, ⟨rfl, rfl, rfl, rfl, rfl, by rw [gD_no hx8 hno]; rfl, trivial⟩⟩
      · have hyes : rcF true a b ⟨(x : Int), (y : Int)⟩ = true := by
            unfold rcF
            simp only
            revert c3
            cases btw (x : Int) a.x b.x <;> cases btw (y : Int) a.y b.y <;> cases edgB a b ⟨(x : Int), (y : Int)⟩ <;> simp
        refine dwp_skip ?_
        refine zaf ?_
        refine zah 1 (by simp only [holes, List.cons_append, List.nil_append]; exact rfl) ?_
        refine zad ?_
        refine zab rfl rfl rfl (op_ldw rfl tb27 (ev1 rfl) rfl rfl) ?_
        refine zak rfl rfl rfl (op_alloc 6 rfl zr27 rfl) (by simp only [upd, zaa, za]; exact rfl) ?_
        refine walk_s rfl rfl (op_stwa rfl tb27 (ev1 rfl) (ev1 rfl) rfl rfl rfl rfl) (by simp only [upd, zaa, za]; exact rfl) ?_
        refine zae ?_
        refine zaf ?_
        refine zaf ?_
        refine zad ?_
        refine zab rfl rfl rfl (zac (.inl rfl) (ev1 rfl)) ?_
        refine zab rfl rfl rfl ((op_eql rfl (ev1 rfl) (ev1 rfl)).cast (d' := .val (.bool false)) (by kernel_rfl)) ?_
        refine zae ?_
        refine dwp_if_f rfl (rfl) ?_
        refine dwp_skip ?_
        refine zad ?_
        refine zab rfl rfl rfl (op_ldmw rfl tb24 (ev1 rfl) rfl rfl) ?_
        refine zab rfl rfl rfl (zac (.inl rfl) (ev1 rfl)) ?_
        refine zab rfl rfl rfl (zac (.inl rfl) (ev1 rfl)) ?_
        refine zab rfl rfl rfl (op_ldw rfl tb27 (ev1 rfl) rfl rfl) ?_
        refine zab rfl rfl rfl (op_build (ps := [(0, .tmp 85), (1, .tmp 86), (2, .tmp 87)]) rfl fl96 zr96 (vc (ev1 rfl) (vc (ev1 rfl) (vc (ev1 rfl) vn))) rfl rfl) ?_
        refine zab rfl rfl rfl (zai [] [] [] rfl (ev1 rfl) (ec (ev1 rfl) (ec (ev1 rfl) en)) rfl rfl (put_d w h _ ⟨(x : Int), (y : Int), cmC false (getC w ts (x : Int) (y : Int)) c⟩ (hc.puts _)) rfl rfl rfl rfl rfl rfl) ?_
        refine walk_s rfl rfl (op_stmw rfl tb24 (ev1 rfl) (ev1 rfl) rfl rfl rfl rfl) (by simp only [upd, zaa, za]; exact rfl) ?_
        refine zae ?_
        refine zad ?_
        refine zab rfl rfl rfl (op_add' rfl (ev1 rfl) (ev1 rfl) (fun _ => IntWalk.i64_in _ (by omega))) ?_
        refine zab rfl rfl rfl (zac (.inl rfl) (ev1 rfl)) ?_
        refine zae ?_
        refine ⟨x + 1, [0, 1, 2, 3, 4, 5], by omega, by simp only []; omega, rfl, ⟨rfl, rfl, rfl, rfl, rfl, rfl, rfl, rfl, rfl, rfl, rfl, rfl, trivial⟩, ⟨rfl, rfl, rfl, rfl, rfl, by rw [gD_yes hx8 hyes, puts_one]; rfl, trivial⟩⟩
    · try simp only [decide_eq_true_eq, decide_eq_false_iff_not, beq_iff_eq, bne_iff_ne, beq_eq_false_iff_ne, bne_eq_false_iff_eq, Bool.not_eq_true', Bool.not_eq_false', Bool.and_eq_true, Bool.or_eq_true, Bool.or_eq_false_iff, ne_eq, Decidable.not_not, Int.not_lt, Int.not_le] at c2
      refine dwp_exit ?_
      refine zad ?_
      refine zab rfl rfl rfl (op_add' rfl (ev1 rfl) (ev1 rfl) (fun _ => IntWalk.i64_in _ (by omega))) ?_
      refine zab rfl rfl rfl (zac (.inl rfl) (ev1 rfl)) ?_
      refine zae ?_
      obtain rfl : x = (w * 8).toNat := by omega
      refine ⟨y + 1, [0, 1, 2, 3, 4, 5], by omega, by simp only []; omega, rfl, ⟨rfl, rfl, rfl, rfl, rfl, rfl, rfl, rfl, rfl, trivial⟩, ⟨rfl, rfl, rfl, rfl, rfl, by rw [Nat.succ_mul]; rfl, trivial⟩⟩
  · try simp only [decide_eq_true_eq, decide_eq_false_iff_not, beq_iff_eq, bne_iff_ne, beq_eq_false_iff_ne, bne_eq_false_iff_eq, Bool.not_eq_true', Bool.not_eq_false', Bool.and_eq_true, Bool.or_eq_true, Bool.or_eq_false_iff, ne_eq, Decidable.not_not, Int.not_lt, Int.not_le] at c1
    refine dwp_exit ?_
    refine zaf ?_
    obtain rfl : y = (h * 8).toNat := by omega
    refine zad ?_
    refine zab rfl rfl rfl (op_ldmw rfl tb24 (ev1 rfl) rfl rfl) ?_
    refine walk_s rfl rfl (op_stam rfl tb24 (ev1 rfl) (ev1 rfl) rfl rfl rfl rfl) (by simp only [upd, zaa, za]; exact rfl) ?_
    refine zae ?_
    refine dwp_ret ?_
    refine kend0 (rs1 rfl (rv_mw tb24 rfl rfl rfl)) rfl ?_
    rfl
set_option maxRecDepth 4000 in
set_option maxHeartbeats 1000000 in
theorem rrc_2 (w h : Int) (ts : List TL) (hc : CvOk w h ts) (c : C4) (a b : P2) (hg : tsRng ts) (hcr : c.rng) : DFun Tryz.prog 34 [shD w h ts, .val (.agg (c4 c).toArray), .val (.agg #[.int .i64 a.x, .int .i64 a.y]), .val (.agg #[.int .i64 b.x, .int .i64 b.y]), .val (.int .i64 2)] [] (shD w h (rcC true false w h ts c a b)) [] := by
  refine zam (N := 93) 0 (by kernel_rfl) Tryz.func34 rfl rfl rfl (by simp only [fr0, Nat.zero_add, Nat.reduceAdd]; exact rfl) rfl fun s0 hs0 => ?_
  refine zaf ?_
  have hb := mayS_b hc.may
  refine zah 5 (by simp only [holes, List.cons_append, List.nil_append]; exact rfl) ?_
  refine zad ?_
  refine zak rfl rfl rfl (op_boxam 0 rfl (ev1 rfl) rfl) (by simp only [upd, zaa, za]; exact rfl) ?_
  refine zak rfl rfl rfl (op_boxa 1 rfl (ev1 rfl) rfl) (by simp only [upd, zaa, za]; exact rfl) ?_
  refine zak rfl rfl rfl (op_boxa 2 rfl (ev1 rfl) rfl) (by simp only [upd, zaa, za]; exact rfl) ?_
  refine zak rfl rfl rfl (op_boxa 3 rfl (ev1 rfl) rfl) (by simp only [upd, zaa, za]; exact rfl) ?_
  refine zak rfl rfl rfl (op_alloc 4 rfl zr24 rfl) (by simp only [upd, zaa, za]; exact rfl) ?_
  refine zae ?_
  refine zaf ?_
  refine zah 1 (by simp only [holes, List.cons_append, List.nil_append]; exact rfl) ?_
  refine zad ?_
  refine zab rfl rfl rfl (op_ldmw rfl tb24 (ev1 rfl) rfl rfl) ?_
  refine zak rfl rfl rfl (op_alloc 5 rfl zr24 rfl) (by simp only [upd, zaa, za]; exact rfl) ?_
  refine walk_s rfl rfl (op_stam rfl tb24 (ev1 rfl) (ev1 rfl) rfl rfl rfl rfl) (by simp only [upd, zaa, za]; exact rfl) ?_
  refine zae ?_
  refine zaf ?_
  refine zaf ?_
  refine zad ?_
  refine zab rfl rfl rfl (op_fa rfl fo24_1 (ev1 rfl)) ?_
  refine zab rfl rfl rfl (op_ldm rfl tb3 (ev1 rfl) rfl rfl) ?_
  refine zab rfl rfl rfl (op_mul' rfl (ev1 rfl) (ev1 rfl) (fun _ => IntWalk.i64_in _ (by omega))) ?_
  refine zab rfl rfl rfl (zac (.inl rfl) (ev1 rfl)) ?_
  refine zae ?_
  refine dwp_block ?_
  refine dwp_loopS ⟨hs0, rfl⟩ (α := Nat) (fun y => [(20, .val (.int .i64 (y : Int)))]) [(4, _), (5, _), (6, _), (7, _), (8, _), (10, _), (11, _), (19, _)] (fun y => [(5, .mix 24 [.val (.int .i64 w), .val (.int .i64 h), .slf 256 (putsC w h ts (gD true w ts c (rcF false a b) (y * (w * 8).toNat))).length ((putsC w h ts (gD true w ts c (rcF false a b) (y * (w * 8).toNat))).flatMap tc)])]) [_, _, _, _, _, .hole] (fun y => (y : Int) ≤ h * 8) (fun y => (h * 8).toNat - y) 0 [0, 1, 2, 3, 4, 5] (by omega) rfl ⟨rfl, rfl, rfl, rfl, rfl, rfl, rfl, rfl, trivial⟩ ⟨rfl, trivial⟩ ⟨rfl, rfl, rfl, rfl, rfl, by rw [Nat.zero_mul]; rfl, trivial⟩ ?_
  intro y hx
  simp only [upd, zaa, za, List.cons_append, List.nil_append]
  have hy0 := hx
  refine zaf ?_
  refine zad ?_
  refine zab rfl rfl rfl (op_lss rfl (ev1 rfl) (ev1 rfl)) ?_
  refine zae ?_
  refine zaf ?_
  refine dwp_cond rfl (fun c1 => ?_) (fun c1 => ?_)
  · try simp only [decide_eq_true_eq, decide_eq_false_iff_not, beq_iff_eq, bne_iff_ne, beq_eq_false_iff_ne, bne_eq_false_iff_eq, Bool.not_eq_true', Bool.not_eq_false', Bool.and_eq_true, Bool.or_eq_true, Bool.or_eq_false_iff, ne_eq, Decidable.not_not, Int.not_lt, Int.not_le] at c1
    refine dwp_skip ?_
    refine zaf ?_
    refine dwp_block ?_
    refine zaf ?_
    refine zad ?_
    refine zab rfl rfl rfl (zac (.inl rfl) (ev1 rfl)) ?_
    refine zab rfl rfl rfl (zac (.inr rfl) (ev1 rfl)) ?_
    refine zae ?_
    refine zaf ?_
    refine zad ?_
    refine zab rfl rfl rfl (op_fa rfl fo24_0 (ev1 rfl)) ?_
    refine zab rfl rfl rfl (op_ldm rfl tb3 (ev1 rfl) rfl rfl) ?_
    refine zab rfl rfl rfl (op_mul' rfl (ev1 rfl) (ev1 rfl) (fun _ => IntWalk.i64_in _ (by omega))) ?_
    refine zab rfl rfl rfl (zac (.inl rfl) (ev1 rfl)) ?_
    refine zae ?_
    refine dwp_block ?_
    refine dwp_loopS ⟨hs0, rfl⟩ (α := Nat) (fun x => [(26, .val (.int .i64 (x : Int)))]) [(4, _), (5, _), (6, _), (7, _), (8, _), (10, _), (11, _), (12, _), (19, _), (20, _), (25, _)] (fun x => [(5, .mix 24 [.val (.int .i64 w), .val (.int .i64 h), .slf 256 (putsC w h ts (gD true w ts c (rcF false a b) (y * (w * 8).toNat + x))).length ((putsC w h ts (gD true w ts c (rcF false a b) (y * (w * 8).toNat + x))).flatMap tc)])]) [_, _, _, _, _, .hole] (fun x => (x : Int) ≤ w * 8) (fun x => (w * 8).toNat - x) 0 [0, 1, 2, 3, 4, 5] (by omega) rfl ⟨rfl, rfl, rfl, rfl, rfl, rfl, rfl, rfl, rfl, rfl, rfl, trivial⟩ ⟨rfl, trivial⟩ ⟨rfl, rfl, rfl, rfl, rfl, by rw [Nat.add_zero]; rfl, trivial⟩ ?_
    intro x hx
    simp only [upd, zaa, za, List.cons_append, List.nil_append]
    have hx0 := hx
    refine zaf ?_
    refine zad ?_
    refine zab rfl rfl rfl (op_lss rfl (ev1 rfl) (ev1 rfl)) ?_
    refine zae ?_
    refine zaf ?_
    refine dwp_cond rfl (fun c2 => ?_) (fun c2 => ?_)
    · try simp only [decide_eq_true_eq, decide_eq_false_iff_not, beq_iff_eq, bne_iff_ne, beq_eq_false_iff_ne, bne_eq_false_iff_eq, Bool.not_eq_true', Bool.not_eq_false', Bool.and_eq_true, Bool.or_eq_true, Bool.or_eq_false_iff, ne_eq, Decidable.not_not, Int.not_lt, Int.not_le] at c2
      refine dwp_skip ?_
      refine zaf ?_
      refine dwp_block ?_
      refine zaf ?_
      have hx8 : x < (w * 8).toNat := by omega
      have ho : onS w h (x : Int) (y : Int) = true := onS_iff.2 ⟨by omega, by omega⟩
      refine zad ?_
      refine zab rfl rfl rfl (zac (.inl rfl) (ev1 rfl)) ?_
      refine zab rfl rfl rfl (zac (.inr rfl) (ev1 rfl)) ?_
      refine zae ?_
      refine zaf ?_
      refine zad ?_
      refine zab rfl rfl rfl (zac (.inl rfl) (ev1 rfl)) ?_
      refine zab rfl rfl rfl (op_fa rfl fo51_0 (ev1 rfl)) ?_
      refine zab rfl rfl rfl (zal rfl tb3 (ev1 rfl) rfl rfl) ?_
      refine zab rfl rfl rfl (op_eql rfl (ev1 rfl) (ev1 rfl)) ?_
      refine zab rfl rfl rfl (zac (.inl rfl) (ev1 rfl)) ?_
      refine zaj (gd_f rfl rfl rfl) rfl rfl rfl (zac (.inl rfl) (ev1 rfl)) ?_
      refine zaj (gd_f rfl rfl rfl) rfl rfl rfl (op_fa rfl fo51_0 (ev1 rfl)) ?_
      refine zaj (gd_f rfl rfl rfl) rfl rfl rfl (zal rfl tb3 (ev2 rfl) rfl rfl) ?_
      refine zaj (gd_f rfl rfl rfl) rfl rfl rfl (op_eql rfl (ev2 rfl) (ev2 rfl)) ?_
      refine zab rfl rfl rfl (op_or rfl (ev1 rfl) (ev3 rfl id)) ?_
      refine zab rfl rfl rfl (zac (.inl rfl) (ev1 rfl)) ?_
      refine zaj (gd_f rfl rfl rfl) rfl rfl rfl (zac (.inl rfl) (ev1 rfl)) ?_
      refine zaj (gd_f rfl rfl rfl) rfl rfl rfl (op_fa rfl fo51_1 (ev1 rfl)) ?_
      refine zaj (gd_f rfl rfl rfl) rfl rfl rfl (zal rfl tb3 (ev2 rfl) rfl rfl) ?_
      refine zaj (gd_f rfl rfl rfl) rfl rfl rfl (op_eql rfl (ev2 rfl) (ev2 rfl)) ?_
      refine zab rfl rfl rfl (op_or rfl (ev1 rfl) (ev3 rfl id)) ?_
      refine zab rfl rfl rfl (zac (.inl rfl) (ev1 rfl)) ?_
      refine zaj (gd_f rfl rfl rfl) rfl rfl rfl (zac (.inl rfl) (ev1 rfl)) ?_
      refine zaj (gd_f rfl rfl rfl) rfl rfl rfl (op_fa rfl fo51_1 (ev1 rfl)) ?_
      refine zaj (gd_f rfl rfl rfl) rfl rfl rfl (zal rfl tb3 (ev2 rfl) rfl rfl) ?_
      refine zaj (gd_f rfl rfl rfl) rfl rfl rfl (op_eql rfl (ev2 rfl) (ev2 rfl)) ?_
      refine zab rfl rfl rfl ((op_or rfl (ev1 rfl) (ev3 rfl id)).cast (d' := .val (.bool (edgB a b ⟨(x : Int), (y : Int)⟩))) (by unfold edgB; first | rfl | simp)) ?_
      refine zab rfl rfl rfl (zac (.inr rfl) (ev1 rfl)) ?_
      refine zae ?_
      refine zaf ?_
      refine zaf ?_
      refine zad ?_
      refine zab rfl rfl rfl (zac (.inl rfl) (ev1 rfl)) ?_
      refine zab rfl rfl rfl (op_fa rfl fo51_0 (ev1 rfl)) ?_
      refine zab rfl rfl rfl (zal rfl tb3 (ev1 rfl) rfl rfl) ?_
      refine zab rfl rfl rfl (op_fa rfl fo51_0 (ev1 rfl)) ?_
      refine zab rfl rfl rfl (zal rfl tb3 (ev1 rfl) rfl rfl) ?_
      refine zab rfl rfl rfl (zai [] [] [] rfl (ev1 rfl) (ec (ev1 rfl) (ec (ev1 rfl) (ec (ev1 rfl) en))) rfl rfl (btw_d (x : Int) a.x b.x) rfl rfl rfl rfl rfl rfl) ?_
      refine zab rfl rfl rfl (op_not rfl (ev1 rfl)) ?_
      refine zab rfl rfl rfl (zac (.inl rfl) (ev1 rfl)) ?_
      refine zaj (gd_f rfl rfl rfl) rfl rfl rfl (zac (.inl rfl) (ev1 rfl)) ?_
      refine zaj (gd_f rfl rfl rfl) rfl rfl rfl (op_fa rfl fo51_1 (ev1 rfl)) ?_
      refine zaj (gd_f rfl rfl rfl) rfl rfl rfl (zal rfl tb3 (ev2 rfl) rfl rfl) ?_
      refine zaj (gd_f rfl rfl rfl) rfl rfl rfl (op_fa rfl fo51_1 (ev1 rfl)) ?_
      refine zaj (gd_f rfl rfl rfl) rfl rfl rfl (zal rfl tb3 (ev2 rfl) rfl rfl) ?_
      refine zaj (gd_f rfl rfl rfl) rfl rfl rfl (zai [] [] [] rfl (ev1 rfl) (ec (ev2 rfl) (ec (ev2 rfl) (ec (ev2 rfl) en))) rfl rfl (btw_d (y : Int) a.y b.y) rfl rfl rfl rfl rfl rfl) ?_
      refine zaj (gd_f rfl rfl rfl) rfl rfl rfl (op_not rfl (ev2 rfl)) ?_
      refine zab rfl rfl rfl (op_or rfl (ev1 rfl) (ev3 rfl id)) ?_
      refine zab rfl rfl rfl (zac (.inl rfl) (ev1 rfl)) ?_
      refine zaj (gd_f rfl rfl rfl) rfl rfl rfl (zac (.inl rfl) (ev1 rfl)) ?_
      refine zaj (gd_f rfl rfl rfl) rfl rfl rfl ((op_eql rfl (ev2 rfl) (ev1 rfl)).cast (d' := .val (.bool false)) (by kernel_rfl)) ?_
      refine zaj (gd_f rfl rfl rfl) rfl rfl rfl (zac (.inl rfl) (ev2 rfl)) ?_
      refine zaj (gd_tt rfl rfl rfl) rfl rfl rfl (zac (.inl rfl) (ev1 rfl)) ?_
      refine zaj (gd_tt rfl rfl rfl) rfl rfl rfl (op_not rfl (ev2 rfl)) ?_
      refine zaj (gd_f rfl rfl rfl) rfl rfl rfl ((op_and rfl (ev2 rfl) (ev2 rfl)).cast (d' := .val (.bool false)) (by rfl)) ?_
      refine zab rfl rfl rfl (op_or rfl (ev1 rfl) (ev3 rfl id)) ?_
      refine zae ?_
      refine dwp_cond rfl (fun c3 => ?_) (fun c3 => ?_)
      · have hno : rcF false a b ⟨(x : Int), (y : Int)⟩ = false := by
            unfold rcF
            simp only
            revert c3
            cases btw (x : Int) a.x b.x <;> cases btw (y : Int) a.y b.y <;> cases edgB a b ⟨(x : Int), (y : Int)⟩ <;> simp
        refine dwp_exit ?_
        refine zad ?_
        refine zab rfl rfl rfl (op_add' rfl (ev1 rfl) (ev1 rfl) (fun _ => IntWalk.i64_in _ (by omega))) ?_
        refine zab rfl rfl rfl (zac (.inl rfl) (ev1 rfl)) ?_
        refine zae ?_
        refine ⟨x + 1, [0, 1, 2, 3, 4, 5], by omega, by simp only []; omega, rfl, ⟨rfl, rfl, rfl, rfl, rfl, rfl, rfl, rfl, rfl, rfl, rfl, rfl, trivial⟩, ⟨rfl, rfl, rfl, rfl, rfl, by rw [gD_no hx8 hno]; rfl, trivial⟩⟩
      · have hyes : rcF false a b ⟨(x : Int), (y : Int)⟩ = true := by
            unfold rcF
            simp only
            revert c3
            cases btw (x : Int) a.x b.x <;> cases btw (y : Int) a.y b.y <;> cases edgB a b ⟨(x : Int), (y : Int)⟩ <;> simp
        refine dwp_skip ?_
        refine zaf ?_
        refine zah 1 (by simp only [holes, List.cons_append, List.nil_append]; exact rfl) ?_
        refine zad ?_
        refine zab rfl rfl rfl (op_ldw rfl tb27 (ev1 rfl) rfl rfl) ?_
        refine zak rfl rfl rfl (op_alloc 6 rfl zr27 rfl) (by simp only [upd, zaa, za]; exact rfl) ?_
        refine walk_s rfl rfl (op_stwa rfl tb27 (ev1 rfl) (ev1 rfl) rfl rfl rfl rfl) (by simp only [upd, zaa, za]; exact rfl) ?_
        refine zae ?_
        refine zaf ?_
        refine zaf ?_
        refine zad ?_
        refine zab rfl rfl rfl (zac (.inl rfl) (ev1 rfl)) ?_
        refine zab rfl rfl rfl ((op_eql rfl (ev1 rfl) (ev1 rfl)).cast (d' := .val (.bool true)) (by kernel_rfl)) ?_
        refine zae ?_
        refine dwp_if_t rfl (rfl) ?_
        refine dwp_draw [([0], []), ([], []), ([], []), ([], []), ([1], []), ([], []), ([6], [6])] mixed (by kernel_rfl) ?_
        refine zag rfl rfl (op_ldmw rfl tb24 (ev1 rfl) rfl rfl) ?_
        refine zag rfl rfl (zac (.inl rfl) (ev1 rfl)) ?_
        refine zag rfl rfl (zac (.inl rfl) (ev1 rfl)) ?_
        refine zag rfl rfl (zai [] [] [] rfl (ev1 rfl) (ec (ev1 rfl) (ec (ev1 rfl) (ec (ev1 rfl) en))) rfl rfl (rat_d w h ts (x : Int) (y : Int) hc ho) rfl rfl rfl rfl rfl rfl) ?_
        refine zag rfl rfl (op_ldw rfl tb27 (ev1 rfl) rfl rfl) ?_
        refine zag rfl rfl (zai [] [] [] rfl (ev1 rfl) (ec (ev1 rfl) (ec (ev1 rfl) en)) rfl rfl (over3_d (getC w ts (x : Int) (y : Int)) c (getC_rng hg _ _ _) hcr) rfl rfl rfl rfl rfl rfl) ?_
        refine lex_s rfl rfl (op_stwa rfl tb27 (ev1 rfl) (ev1 rfl) rfl rfl rfl rfl) rfl (by simp only [upd, zaa, za]; exact rfl) ?_
        refine lex_nil ?_
        refine zad ?_
        refine zab rfl rfl rfl (op_ldmw rfl tb24 (ev1 rfl) rfl rfl) ?_
        refine zab rfl rfl rfl (zac (.inl rfl) (ev1 rfl)) ?_
        refine zab rfl rfl rfl (zac (.inl rfl) (ev1 rfl)) ?_
        refine zab rfl rfl rfl (op_ldw rfl tb27 (ev1 rfl) rfl rfl) ?_
        refine zab rfl rfl rfl (op_build (ps := [(0, .tmp 85), (1, .tmp 86), (2, .tmp 87)]) rfl fl96 zr96 (vc (ev1 rfl) (vc (ev1 rfl) (vc (ev1 rfl) vn))) rfl rfl) ?_
        refine zab rfl rfl rfl (zai [] [] [] rfl (ev1 rfl) (ec (ev1 rfl) (ec (ev1 rfl) en)) rfl rfl (put_d w h _ ⟨(x : Int), (y : Int), cmC true (getC w ts (x : Int) (y : Int)) c⟩ (hc.puts _)) rfl rfl rfl rfl rfl rfl) ?_
        refine walk_s rfl rfl (op_stmw rfl tb24 (ev1 rfl) (ev1 rfl) rfl rfl rfl rfl) (by simp only [upd, zaa, za]; exact rfl) ?_
        refine zae ?_
        refine zad ?_
        refine zab rfl rfl rfl (op_add' rfl (ev1 rfl) (ev1 rfl) (fun _ => IntWalk.i64_in _ (by omega))) ?_
        refine zab rfl rfl rfl (zac (.inl rfl) (ev1 rfl)) ?_
        refine zae ?_
        refine ⟨x + 1, [0, 1, 2, 3, 4, 5], by omega, by simp only []; omega, rfl, ⟨rfl, rfl, rfl, rfl, rfl, rfl, rfl, rfl, rfl, rfl, rfl, rfl, trivial⟩, ⟨rfl, rfl, rfl, rfl, rfl, by rw [gD_yes hx8 hyes, puts_one]; rfl, trivial⟩⟩
    · try simp only [decide_eq_true_eq, decide_eq_false_iff_not, beq_iff_eq, bne_iff_ne, beq_eq_false_iff_ne, bne_eq_false_iff_eq, Bool.not_eq_true', Bool.not_eq_false', Bool.and_eq_true, Bool.or_eq_true, Bool.or_eq_false_iff, ne_eq, Decidable.not_not, Int.not_lt, Int.not_le] at c2
      refine dwp_exit ?_
      refine zad ?_
      refine zab rfl rfl rfl (op_add' rfl (ev1 rfl) (ev1 rfl) (fun _ => IntWalk.i64_in _ (by omega))) ?_
      refine zab rfl rfl rfl (zac (.inl rfl) (ev1 rfl)) ?_
      refine zae ?_
      obtain rfl : x = (w * 8).toNat := by omega
      refine ⟨y + 1, [0, 1, 2, 3, 4, 5], by omega, by simp only []; omega, rfl, ⟨rfl, rfl, rfl, rfl, rfl, rfl, rfl, rfl, rfl, trivial⟩, ⟨rfl, rfl, rfl, rfl, rfl, by rw [Nat.succ_mul]; rfl, trivial⟩⟩
  · try simp only [decide_eq_true_eq, decide_eq_false_iff_not, beq_iff_eq, bne_iff_ne, beq_eq_false_iff_ne, bne_eq_false_iff_eq, Bool.not_eq_true', Bool.not_eq_false', Bool.and_eq_true, Bool.or_eq_true, Bool.or_eq_false_iff, ne_eq, Decidable.not_not, Int.not_lt, Int.not_le] at c1
    refine dwp_exit ?_
    refine zaf ?_
    obtain rfl : y = (h * 8).toNat := by omega
    refine zad ?_
    refine zab rfl rfl rfl (op_ldmw rfl tb24 (ev1 rfl) rfl rfl) ?_
    refine walk_s rfl rfl (op_stam rfl tb24 (ev1 rfl) (ev1 rfl) rfl rfl rfl rfl) (by simp only [upd, zaa, za]; exact rfl) ?_
    refine zae ?_
    refine dwp_ret ?_
    refine kend0 (rs1 rfl (rv_mw tb24 rfl rfl rfl)) rfl ?_
    rfl
set_option maxRecDepth 4000 in
set_option maxHeartbeats 1000000 in
theorem drects_d (w h : Int) (ts : List TL) (hg : tsRng ts) (c : C4) (hcr : c.rng) (y : List P2) : DFun Tryz.prog 5 [shD w h ts, .val (.agg (c4 c).toArray), .slf 2 y.length (y.flatMap p2)] [.glob 0 (c4 redC)] (.val (.bool true)) [.glob 0 (c4 redC)] := by
  refine zam (N := 121) 1 (by kernel_rfl) Tryz.func5 rfl rfl rfl (by simp only [fr0, Nat.zero_add, Nat.reduceAdd]; exact rfl) rfl fun s0 hs0 => ?_
  refine dwp_len (t := 2) rfl fun hl2 hL2 => ?_
  refine zaf ?_
  refine zah 2 (by simp only [holes, List.cons_append, List.nil_append]; exact rfl) ?_
  refine zad ?_
  refine zak rfl rfl rfl (op_boxam 1 rfl (ev1 rfl) rfl) (by simp only [upd, zaa, za]; exact rfl) ?_
  refine zak rfl rfl rfl (op_boxa 2 rfl (ev1 rfl) rfl) (by simp only [upd, zaa, za]; exact rfl) ?_
  refine zab rfl rfl rfl (zac (.inr rfl) (ev1 rfl)) ?_
  refine zae ?_
  refine zaf ?_
  refine zaf ?_
  refine zad ?_
  refine zak rfl rfl rfl (zai [0] [] [] rfl (ev1 rfl) en rfl rfl (wakes_d) rfl rfl rfl rfl rfl rfl) (by simp only [upd, zaa, za]; exact rfl) ?_
  refine zab rfl rfl rfl ((op_not rfl (ev1 rfl)).cast (d' := .val (.bool false)) (by kernel_rfl)) ?_
  refine zae ?_
  refine dwp_if_f rfl (rfl) ?_
  refine dwp_skip ?_
  refine zaf ?_
  refine zah 1 (by simp only [holes, List.cons_append, List.nil_append]; exact rfl) ?_
  refine zad ?_
  refine zab rfl rfl rfl (op_ldmw rfl tb24 (ev1 rfl) rfl rfl) ?_
  refine zab rfl rfl rfl (zai [] [] [] rfl (ev1 rfl) (ec (ev1 rfl) en) rfl rfl (own_d w h ts) rfl rfl rfl rfl rfl rfl) ?_
  refine zak rfl rfl rfl (op_alloc 3 rfl zr24 rfl) (by simp only [upd, zaa, za]; exact rfl) ?_
  refine walk_s rfl rfl (op_stam rfl tb24 (ev1 rfl) (ev1 rfl) rfl rfl rfl rfl) (by simp only [upd, zaa, za]; exact rfl) ?_
  refine zae ?_
  refine zaf ?_
  by_cases hr : rightB w h (ts.take 17) = true
  · have hc := rightB_ok hr
    have hle := hc.le
    refine zad ?_
    refine zab rfl rfl rfl (op_ldmw rfl tb24 (ev1 rfl) rfl rfl) ?_
    refine zab rfl rfl rfl (zai [] [] [] rfl (ev1 rfl) (ec (ev1 rfl) en) rfl rfl (of_d w h (ts.take 17) hc) rfl rfl rfl rfl rfl rfl) ?_
    refine zab rfl rfl rfl (zac (.inl rfl) (ev1 rfl)) ?_
    refine zab rfl rfl rfl (op_ext rfl (ev1 rfl) rfl) ?_
    refine zab rfl rfl rfl (op_ext rfl (ev1 rfl) rfl) ?_
    refine zab rfl rfl rfl (zac (.inr rfl) (ev1 rfl)) ?_
    refine zab rfl rfl rfl (zac (.inr rfl) (ev1 rfl)) ?_
    refine zae ?_
    refine zaf ?_
    refine zaf ?_
    refine zad ?_
    refine zab rfl rfl rfl (zac (.inl rfl) (ev1 rfl)) ?_
    refine zab rfl rfl rfl ((op_neq rfl (ev1 rfl) (ev1 rfl)).cast (d' := .val (.bool false)) (by kernel_rfl)) ?_
    refine zae ?_
    refine dwp_if_f rfl (rfl) ?_
    refine dwp_skip ?_
    refine zaf ?_
    refine zaf ?_
    refine zad ?_
    refine zab rfl rfl rfl (zac (.inr rfl) (ev1 rfl)) ?_
    refine zae ?_
    refine dwp_block ?_
    refine dwp_loopS ⟨hs0, rfl⟩ (α := Nat) (fun k => [(10, .val (.int .i64 ((k : Int) + 1)))]) [(2, _), (4, _), (7, _), (8, _)] (fun k => []) [_, _, _, _] (fun k => k ≤ 4) (fun k => 4 - k) 0 [0, 1, 2, 3] (Nat.zero_le _) rfl ⟨rfl, rfl, rfl, rfl, trivial⟩ ⟨congrArg (fun z => some (D.val (.int .i64 z))) (by first | rfl | omega), trivial⟩ ⟨rfl, rfl, rfl, rfl, trivial⟩ ?_
    intro k hx
    simp only [upd, zaa, za, List.cons_append, List.nil_append]
    have hk0 := hx
    refine zaf ?_
    refine zaf ?_
    refine zad ?_
    refine zab rfl rfl rfl (zac (.inl rfl) (ev1 rfl)) ?_
    refine zab rfl rfl rfl (zac (.inl rfl) (ev1 rfl)) ?_
    refine zab rfl rfl rfl (op_len rfl sl48 (ev1 rfl)) ?_
    refine zab rfl rfl rfl (op_lss rfl (ev1 rfl) (ev1 rfl)) ?_
    refine zab rfl rfl rfl (zac (.inl rfl) (ev1 rfl)) ?_
    refine zaj (gd_t rfl rfl rfl) rfl rfl rfl (zac (.inl rfl) (ev1 rfl)) ?_
    refine zaj (gd_t rfl rfl rfl) rfl rfl rfl (op_lss rfl (ev2 rfl) (ev1 rfl)) ?_
    refine zab rfl rfl rfl (op_and rfl (ev1 rfl) (ev3 rfl id)) ?_
    refine zae ?_
    refine dwp_cond rfl (fun c9 => ?_) (fun c9 => ?_)
    · have hkk : k + 1 < y.length ∧ k < 4 := by simp at c9; omega
      obtain ⟨hk1, hk4⟩ := hkk
      have hk : k < y.length := by omega
      refine dwp_skip ?_
      refine zaf ?_
      refine dwp_block ?_
      refine zaf ?_
      refine zah 2 (by simp only [holes, List.cons_append, List.nil_append]; exact rfl) ?_
      refine dwp_draw [([], []), ([], []), ([], []), ([], []), ([], []), ([], []), ([], []), ([], []), ([], []), ([4], [4]), ([5], [5]), ([4], [4]), ([5], [5])] mixed (by kernel_rfl) ?_
      refine zag rfl rfl (zac (.inl rfl) (ev1 rfl)) ?_
      refine zag rfl rfl (zac (.inl rfl) (ev1 rfl)) ?_
      refine zag rfl rfl (op_sub' rfl (ev1 rfl) (ev1 rfl) (fun _ => IntWalk.i64_in _ (by omega))) ?_
      refine zag rfl rfl (op_ixsr (j := k) rfl sl48 (ev1 rfl) (ev1 rfl) (fun _ => rfl) (by decide) (by omega) (by omega)) ?_
      refine zag rfl rfl (op_ldwd rfl tb51 (ev1 rfl) rfl) ?_
      refine zag rfl rfl (zac (.inl rfl) (ev1 rfl)) ?_
      refine zag rfl rfl (zac (.inl rfl) (ev1 rfl)) ?_
      refine zag rfl rfl (op_ixsr (j := k + 1) rfl sl48 (ev1 rfl) (ev1 rfl) (fun _ => rfl) (by decide) (by omega) (by omega)) ?_
      refine zag rfl rfl (op_ldwd rfl tb51 (ev1 rfl) rfl) ?_
      refine lex_w rfl rfl (op_alloc 4 rfl zr51 rfl) rfl (by simp only [upd, zaa, za]; exact rfl) ?_
      refine lex_w rfl rfl (op_alloc 5 rfl zr51 rfl) rfl (by simp only [upd, zaa, za]; exact rfl) ?_
      refine lex_s rfl rfl (op_stwa rfl tb51 (ev1 rfl) (ev1 rfl) rfl rfl rfl rfl) rfl (by simp only [upd, zaa, za]; exact rfl) ?_
      refine lex_s rfl rfl (op_stwa rfl tb51 (ev1 rfl) (ev1 rfl) rfl rfl rfl rfl) rfl (by simp only [upd, zaa, za]; exact rfl) ?_
      refine lex_nil ?_
      refine zaf ?_
      refine zad ?_
      refine zab rfl rfl rfl (zac (.inr rfl) (ev1 rfl)) ?_
      refine zae ?_
      refine zaf ?_
      refine zaf ?_
      by_cases hab : (drwB y[k] && drwB y[k + 1]) = true
      · obtain ⟨ha, hb2⟩ := Bool.and_eq_true_iff.1 hab
        refine zad ?_
        refine zab rfl rfl rfl (op_ldw rfl tb51 (ev1 rfl) rfl rfl) ?_
        refine zab rfl rfl rfl ((zai [] [] [] rfl (ev1 rfl) (ec (ev1 rfl) en) rfl rfl (rmay_d y[k]) rfl rfl rfl rfl rfl rfl).cast (d' := .val (.bool true)) (by rw [ha])) ?_
        refine zab rfl rfl rfl (zac (.inl rfl) (ev1 rfl)) ?_
        refine walk_k (gd_t (b := true) rfl rfl rfl) rfl rfl rfl (op_ldw rfl tb51 (ev1 rfl) rfl rfl) (by simp only [upd, zaa, za]; exact rfl) ?_
        refine walk_k (gd_t (b := true) rfl rfl rfl) rfl rfl rfl ((zai [] [] [] rfl (ev1 rfl) (ec (ev2 rfl) en) rfl rfl (rmay_d y[k + 1]) rfl rfl rfl rfl rfl rfl).cast (d' := .val (.bool true)) (by rw [hb2])) (by simp only [upd, zaa, za]; exact rfl) ?_
        refine zab rfl rfl rfl ((op_and rfl (ev1 rfl) (ev3 rfl (fun _ => rfl))).cast (d' := .val (.bool true)) (by rfl)) ?_
        refine zae ?_
        refine dwp_if_t rfl (rfl) ?_
        refine zad ?_
        refine zab rfl rfl rfl (zac (.inr rfl) (ev1 rfl)) ?_
        refine zae ?_
        refine zaf ?_
        refine zad ?_
        refine zab rfl rfl rfl (zac (.inl rfl) (ev1 rfl)) ?_
        refine zab rfl rfl rfl (op_ldw rfl tb27 (ev1 rfl) rfl rfl) ?_
        refine zab rfl rfl rfl (op_ldw rfl tb51 (ev1 rfl) rfl rfl) ?_
        refine zab rfl rfl rfl (op_ldw rfl tb51 (ev1 rfl) rfl rfl) ?_
        refine zab rfl rfl rfl (zai [] [] [] rfl (ev1 rfl) (ec (ev1 rfl) (ec (ev1 rfl) (ec (ev1 rfl) (ec (ev1 rfl) en)))) rfl rfl (drect_d w h _ (ts.take 17) (dpR_ok _) hc c y[k] y[k + 1] ha hb2) rfl rfl rfl rfl rfl rfl) ?_
        refine zab rfl rfl rfl (zac (.inl rfl) (ev1 rfl)) ?_
        refine zab rfl rfl rfl (op_ext rfl (ev1 rfl) rfl) ?_
        refine zab rfl rfl rfl (op_ext rfl (ev1 rfl) rfl) ?_
        refine zab rfl rfl rfl (zac (.inr rfl) (ev1 rfl)) ?_
        refine zab rfl rfl rfl (zac (.inr rfl) (ev1 rfl)) ?_
        refine zae ?_
        refine zaf ?_
        refine zad ?_
        refine zab rfl rfl rfl (zac (.inl rfl) (ev1 rfl)) ?_
        refine zab rfl rfl rfl (op_ldw rfl tb27 (ev1 rfl) rfl rfl) ?_
        refine zab rfl rfl rfl (op_ldw rfl tb51 (ev1 rfl) rfl rfl) ?_
        refine zab rfl rfl rfl (op_ldw rfl tb51 (ev1 rfl) rfl rfl) ?_
        refine zab rfl rfl rfl (zai [] [] [] rfl (ev1 rfl) (ec (ev1 rfl) (ec (ev1 rfl) (ec (ev1 rfl) (ec (ev1 rfl) en)))) rfl rfl (frame_d w h _ (ts.take 17) (dpR_ok _) hc c y[k] y[k + 1] ha hb2) rfl rfl rfl rfl rfl rfl) ?_
        refine zab rfl rfl rfl (zac (.inl rfl) (ev1 rfl)) ?_
        refine zab rfl rfl rfl (op_ext rfl (ev1 rfl) rfl) ?_
        refine zab rfl rfl rfl (op_ext rfl (ev1 rfl) rfl) ?_
        refine zab rfl rfl rfl (zac (.inr rfl) (ev1 rfl)) ?_
        refine zab rfl rfl rfl (zac (.inr rfl) (ev1 rfl)) ?_
        refine zae ?_
        refine zaf ?_
        refine zad ?_
        refine zab rfl rfl rfl (zac (.inl rfl) (ev1 rfl)) ?_
        refine zab rfl rfl rfl (op_ldw rfl tb27 (ev1 rfl) rfl rfl) ?_
        refine zab rfl rfl rfl (op_ldw rfl tb51 (ev1 rfl) rfl rfl) ?_
        refine zab rfl rfl rfl (op_ldw rfl tb51 (ev1 rfl) rfl rfl) ?_
        refine zab rfl rfl rfl (zai [] [] [] rfl (ev1 rfl) (ec (ev1 rfl) (ec (ev1 rfl) (ec (ev1 rfl) (ec (ev1 rfl) en)))) rfl rfl (veil_d w h _ (ts.take 17) (dpR_ok _) hc c y[k] y[k + 1] ha hb2 (take_rng hg 17) hcr) rfl rfl rfl rfl rfl rfl) ?_
        refine zab rfl rfl rfl (zac (.inl rfl) (ev1 rfl)) ?_
        refine zab rfl rfl rfl (op_ext rfl (ev1 rfl) rfl) ?_
        refine zab rfl rfl rfl (op_ext rfl (ev1 rfl) rfl) ?_
        refine zab rfl rfl rfl (zac (.inr rfl) (ev1 rfl)) ?_
        refine zab rfl rfl rfl (zac (.inr rfl) (ev1 rfl)) ?_
        refine zae ?_
        refine zaf ?_
        refine zad ?_
        refine zab rfl rfl rfl (zac (.inl rfl) (ev1 rfl)) ?_
        refine zab rfl rfl rfl (zac (.inl rfl) (ev1 rfl)) ?_
        refine zab rfl rfl rfl (op_ldmw rfl tb24 (ev1 rfl) rfl rfl) ?_
        refine zab rfl rfl rfl (op_ldw rfl tb27 (ev1 rfl) rfl rfl) ?_
        refine zab rfl rfl rfl (op_ldw rfl tb51 (ev1 rfl) rfl rfl) ?_
        refine zab rfl rfl rfl (op_ldw rfl tb51 (ev1 rfl) rfl rfl) ?_
        refine zab rfl rfl rfl ((zai [] [] [] rfl (ev1 rfl) (ec (ev1 rfl) (ec (ev1 rfl) (ec (ev1 rfl) (ec (ev1 rfl) (ec (ev1 rfl) en))))) rfl rfl (rrc_0 w h (ts.take 17) hc c y[k] y[k + 1]) rfl rfl rfl rfl rfl rfl).cast (d' := shD w h (drwC false w h (ts.take 17) c (rectL y[k] y[k + 1]))) (by rw [rc_rect hc])) ?_
        refine zab rfl rfl rfl (zac (.inl rfl) (ev1 rfl)) ?_
        refine zab rfl rfl rfl (zai [] [] [] rfl (ev1 rfl) (ec (ev1 rfl) (ec (ev1 rfl) (ec (ev1 rfl) (ec (ev1 rfl) en)))) rfl rfl (says_d w h (drwC false w h (ts.take 17) c (rectL y[k] y[k + 1])) (drwC_ok hc _ _ _)) rfl rfl rfl rfl rfl rfl) ?_
        refine zab rfl rfl rfl ((op_not rfl (ev1 rfl)).cast (d' := .val (.bool false)) (by kernel_rfl)) ?_
        refine zab rfl rfl rfl (zac (.inl rfl) (ev1 rfl)) ?_
        refine walk_k (gd_f (b := false) rfl rfl rfl) rfl rfl rfl (zac (.inl rfl) (ev1 rfl)) (by simp only [upd, zaa, za]; exact rfl) ?_
        refine walk_k (gd_f (b := false) rfl rfl rfl) rfl rfl rfl (zac (.inl rfl) (ev1 rfl)) (by simp only [upd, zaa, za]; exact rfl) ?_
        refine walk_k (gd_f (b := false) rfl rfl rfl) rfl rfl rfl (op_ldmw rfl tb24 (ev1 rfl) rfl rfl) (by simp only [upd, zaa, za]; exact rfl) ?_
        refine walk_k (gd_f (b := false) rfl rfl rfl) rfl rfl rfl (op_ldw rfl tb27 (ev1 rfl) rfl rfl) (by simp only [upd, zaa, za]; exact rfl) ?_
        refine walk_k (gd_f (b := false) rfl rfl rfl) rfl rfl rfl (op_ldw rfl tb51 (ev1 rfl) rfl rfl) (by simp only [upd, zaa, za]; exact rfl) ?_
        refine walk_k (gd_f (b := false) rfl rfl rfl) rfl rfl rfl (op_ldw rfl tb51 (ev1 rfl) rfl rfl) (by simp only [upd, zaa, za]; exact rfl) ?_
        refine walk_k (gd_f (b := false) rfl rfl rfl) rfl rfl rfl ((zai [] [] [] rfl (ev1 rfl) (ec (ev2 rfl) (ec (ev2 rfl) (ec (ev2 rfl) (ec (ev2 rfl) (ec (ev1 rfl) en))))) rfl rfl (rrc_1 w h (ts.take 17) hc c y[k] y[k + 1]) rfl rfl rfl rfl rfl rfl).cast (d' := shD w h (drwC false w h (ts.take 17) c (uniL (frmR y[k] y[k + 1])))) (by rw [rc_frm hc c ha hb2])) (by simp only [upd, zaa, za]; exact rfl) ?_
        refine walk_k (gd_f (b := false) rfl rfl rfl) rfl rfl rfl (zac (.inl rfl) (ev1 rfl)) (by simp only [upd, zaa, za]; exact rfl) ?_
        refine walk_k (gd_f (b := false) rfl rfl rfl) rfl rfl rfl (zai [] [] [] rfl (ev1 rfl) (ec (ev2 rfl) (ec (ev2 rfl) (ec (ev2 rfl) (ec (ev2 rfl) en)))) rfl rfl (says_d w h (drwC false w h (ts.take 17) c (uniL (frmR y[k] y[k + 1]))) (drwC_ok hc _ _ _)) rfl rfl rfl rfl rfl rfl) (by simp only [upd, zaa, za]; exact rfl) ?_
        refine walk_k (gd_f (b := false) rfl rfl rfl) rfl rfl rfl ((op_not rfl (ev2 rfl)).cast (d' := .val (.bool false)) (by kernel_rfl)) (by simp only [upd, zaa, za]; exact rfl) ?_
        refine zab rfl rfl rfl ((op_or rfl (ev1 rfl) (ev3 rfl (fun _ => rfl))).cast (d' := .val (.bool false)) (by rfl)) ?_
        refine zab rfl rfl rfl (zac (.inl rfl) (ev1 rfl)) ?_
        refine walk_k (gd_f (b := false) rfl rfl rfl) rfl rfl rfl (zac (.inl rfl) (ev1 rfl)) (by simp only [upd, zaa, za]; exact rfl) ?_
        refine walk_k (gd_f (b := false) rfl rfl rfl) rfl rfl rfl (zac (.inl rfl) (ev1 rfl)) (by simp only [upd, zaa, za]; exact rfl) ?_
        refine walk_k (gd_f (b := false) rfl rfl rfl) rfl rfl rfl (op_ldmw rfl tb24 (ev1 rfl) rfl rfl) (by simp only [upd, zaa, za]; exact rfl) ?_
        refine walk_k (gd_f (b := false) rfl rfl rfl) rfl rfl rfl (op_ldw rfl tb27 (ev1 rfl) rfl rfl) (by simp only [upd, zaa, za]; exact rfl) ?_
        refine walk_k (gd_f (b := false) rfl rfl rfl) rfl rfl rfl (op_ldw rfl tb51 (ev1 rfl) rfl rfl) (by simp only [upd, zaa, za]; exact rfl) ?_
        refine walk_k (gd_f (b := false) rfl rfl rfl) rfl rfl rfl (op_ldw rfl tb51 (ev1 rfl) rfl rfl) (by simp only [upd, zaa, za]; exact rfl) ?_
        refine walk_k (gd_f (b := false) rfl rfl rfl) rfl rfl rfl ((zai [] [] [] rfl (ev1 rfl) (ec (ev2 rfl) (ec (ev2 rfl) (ec (ev2 rfl) (ec (ev2 rfl) (ec (ev1 rfl) en))))) rfl rfl (rrc_2 w h (ts.take 17) hc c y[k] y[k + 1] (take_rng hg 17) hcr) rfl rfl rfl rfl rfl rfl).cast (d' := shD w h (drwC true w h (ts.take 17) c (rectL y[k] y[k + 1]))) (by rw [rc_rect hc])) (by simp only [upd, zaa, za]; exact rfl) ?_
        refine walk_k (gd_f (b := false) rfl rfl rfl) rfl rfl rfl (zac (.inl rfl) (ev1 rfl)) (by simp only [upd, zaa, za]; exact rfl) ?_
        refine walk_k (gd_f (b := false) rfl rfl rfl) rfl rfl rfl (zai [] [] [] rfl (ev1 rfl) (ec (ev2 rfl) (ec (ev2 rfl) (ec (ev2 rfl) (ec (ev2 rfl) en)))) rfl rfl (says_d w h (drwC true w h (ts.take 17) c (rectL y[k] y[k + 1])) (drwC_ok hc _ _ _)) rfl rfl rfl rfl rfl rfl) (by simp only [upd, zaa, za]; exact rfl) ?_
        refine walk_k (gd_f (b := false) rfl rfl rfl) rfl rfl rfl ((op_not rfl (ev2 rfl)).cast (d' := .val (.bool false)) (by kernel_rfl)) (by simp only [upd, zaa, za]; exact rfl) ?_
        refine zab rfl rfl rfl ((op_or rfl (ev1 rfl) (ev3 rfl (fun _ => rfl))).cast (d' := .val (.bool false)) (by rfl)) ?_
        refine zae ?_
        refine dwp_if_f rfl (rfl) ?_
        refine dwp_skip ?_
        refine zad ?_
        refine zab rfl rfl rfl (zac (.inl rfl) (ev1 rfl)) ?_
        refine zab rfl rfl rfl (op_add' rfl (ev1 rfl) (ev1 rfl) (fun _ => IntWalk.i64_in _ (by omega))) ?_
        refine zab rfl rfl rfl (zac (.inr rfl) (ev1 rfl)) ?_
        refine zae ?_
        refine ⟨k + 1, [0, 1, 2, 3], by omega, by simp only []; omega, rfl, ⟨congrArg (fun z => some (D.val (.int .i64 z))) (by first | rfl | omega), rfl, rfl, rfl, rfl, trivial⟩, ⟨rfl, rfl, rfl, rfl, trivial⟩⟩
      · have hab2 : (drwB y[k] && drwB y[k + 1]) = false := by simpa using hab
        refine zad ?_
        refine zab rfl rfl rfl (op_ldw rfl tb51 (ev1 rfl) rfl rfl) ?_
        refine zab rfl rfl rfl (zai [] [] [] rfl (ev1 rfl) (ec (ev1 rfl) en) rfl rfl (rmay_d y[k]) rfl rfl rfl rfl rfl rfl) ?_
        refine zab rfl rfl rfl (zac (.inl rfl) (ev1 rfl)) ?_
        refine zaj (gd_t rfl rfl rfl) rfl rfl rfl (op_ldw rfl tb51 (ev1 rfl) rfl rfl) ?_
        refine zaj (gd_t rfl rfl rfl) rfl rfl rfl (zai [] [] [] rfl (ev1 rfl) (ec (ev2 rfl) en) rfl rfl (rmay_d y[k + 1]) rfl rfl rfl rfl rfl rfl) ?_
        refine zab rfl rfl rfl (op_and rfl (ev1 rfl) (ev3 rfl id)) ?_
        refine zae ?_
        refine dwp_if_f rfl (by simpa using hab2) ?_
        refine dwp_skip ?_
        refine zaf ?_
        refine zad ?_
        refine zab rfl rfl rfl (zac (.inl rfl) (ev1 rfl)) ?_
        refine zab rfl rfl rfl (op_ldw rfl tb27 (ev1 rfl) rfl rfl) ?_
        refine zab rfl rfl rfl (op_ldw rfl tb51 (ev1 rfl) rfl rfl) ?_
        refine zab rfl rfl rfl (op_ldw rfl tb51 (ev1 rfl) rfl rfl) ?_
        refine zab rfl rfl rfl (zai [] [] [] rfl (ev1 rfl) (ec (ev1 rfl) (ec (ev1 rfl) (ec (ev1 rfl) (ec (ev1 rfl) en)))) rfl rfl (drect_n w h _ (ts.take 17) (dpR_ok _) hc c y[k] y[k + 1] hab2) rfl rfl rfl rfl rfl rfl) ?_
        refine zab rfl rfl rfl (zac (.inl rfl) (ev1 rfl)) ?_
        refine zab rfl rfl rfl (op_ext rfl (ev1 rfl) rfl) ?_
        refine zab rfl rfl rfl (op_ext rfl (ev1 rfl) rfl) ?_
        refine zab rfl rfl rfl (zac (.inr rfl) (ev1 rfl)) ?_
        refine zab rfl rfl rfl (zac (.inr rfl) (ev1 rfl)) ?_
        refine zae ?_
        refine zaf ?_
        by_cases h15 : (drwB y[k] && drwB (ac2 y[k] y[k + 1])) = true
        · have h16 : (drwB y[k] && drwB (dn2 y[k] y[k + 1])) = false := by
            obtain ⟨q1, q2⟩ := Bool.and_eq_true_iff.1 h15
            rw [q1, Bool.true_and] at hab2
            rcases ac_no q1 hab2 with e | e
            · rw [q2] at e; cases e
            · rw [e, Bool.and_false]
          refine zad ?_
          refine zab rfl rfl rfl (zac (.inl rfl) (ev1 rfl)) ?_
          refine zab rfl rfl rfl (op_ldw rfl tb27 (ev1 rfl) rfl rfl) ?_
          refine zab rfl rfl rfl (op_ldw rfl tb51 (ev1 rfl) rfl rfl) ?_
          refine zab rfl rfl rfl (op_ldw rfl tb51 (ev1 rfl) rfl rfl) ?_
          refine zab rfl rfl rfl (zai [] [] [] rfl (ev1 rfl) (ec (ev1 rfl) (ec (ev1 rfl) (ec (ev1 rfl) (ec (ev1 rfl) en)))) rfl rfl (frame_n2 w h _ (ts.take 17) (dpR_ok _) hc c y[k] y[k + 1] h15 h16) rfl rfl rfl rfl rfl rfl) ?_
          refine zab rfl rfl rfl (zac (.inl rfl) (ev1 rfl)) ?_
          refine zab rfl rfl rfl (op_ext rfl (ev1 rfl) rfl) ?_
          refine zab rfl rfl rfl (op_ext rfl (ev1 rfl) rfl) ?_
          refine zab rfl rfl rfl (zac (.inr rfl) (ev1 rfl)) ?_
          refine zab rfl rfl rfl (zac (.inr rfl) (ev1 rfl)) ?_
          refine zae ?_
          refine zaf ?_
          refine zad ?_
          refine zab rfl rfl rfl (zac (.inl rfl) (ev1 rfl)) ?_
          refine zab rfl rfl rfl (op_ldw rfl tb27 (ev1 rfl) rfl rfl) ?_
          refine zab rfl rfl rfl (op_ldw rfl tb51 (ev1 rfl) rfl rfl) ?_
          refine zab rfl rfl rfl (op_ldw rfl tb51 (ev1 rfl) rfl rfl) ?_
          refine zab rfl rfl rfl (zai [] [] [] rfl (ev1 rfl) (ec (ev1 rfl) (ec (ev1 rfl) (ec (ev1 rfl) (ec (ev1 rfl) en)))) rfl rfl (veil_n w h _ (ts.take 17) (dpR_ok _) hc c y[k] y[k + 1] hab2) rfl rfl rfl rfl rfl rfl) ?_
          refine zab rfl rfl rfl (zac (.inl rfl) (ev1 rfl)) ?_
          refine zab rfl rfl rfl (op_ext rfl (ev1 rfl) rfl) ?_
          refine zab rfl rfl rfl (op_ext rfl (ev1 rfl) rfl) ?_
          refine zab rfl rfl rfl (zac (.inr rfl) (ev1 rfl)) ?_
          refine zab rfl rfl rfl (zac (.inr rfl) (ev1 rfl)) ?_
          refine zae ?_
          refine zaf ?_
          refine zad ?_
          refine zab rfl rfl rfl (zac (.inl rfl) (ev1 rfl)) ?_
          refine zab rfl rfl rfl (zac (.inl rfl) (ev1 rfl)) ?_
          refine zab rfl rfl rfl (op_ldmw rfl tb24 (ev1 rfl) rfl rfl) ?_
          refine zab rfl rfl rfl (op_ldw rfl tb27 (ev1 rfl) rfl rfl) ?_
          refine zab rfl rfl rfl (op_ldw rfl tb51 (ev1 rfl) rfl rfl) ?_
          refine zab rfl rfl rfl (op_ldw rfl tb51 (ev1 rfl) rfl rfl) ?_
          refine zab rfl rfl rfl (zai [] [] [] rfl (ev1 rfl) (ec (ev1 rfl) (ec (ev1 rfl) (ec (ev1 rfl) (ec (ev1 rfl) (ec (ev1 rfl) en))))) rfl rfl (rrc_0 w h (ts.take 17) hc c y[k] y[k + 1]) rfl rfl rfl rfl rfl rfl) ?_
          refine zab rfl rfl rfl (zac (.inl rfl) (ev1 rfl)) ?_
          refine zab rfl rfl rfl (zai [] [] [] rfl (ev1 rfl) (ec (ev1 rfl) (ec (ev1 rfl) (ec (ev1 rfl) (ec (ev1 rfl) en)))) rfl rfl (says_e w h (rcC false false w h (ts.take 17) c y[k] y[k + 1]) 2 (by decide)) rfl rfl rfl rfl rfl rfl) ?_
          refine zab rfl rfl rfl ((op_not rfl (ev1 rfl)).cast (d' := .val (.bool false)) (by kernel_rfl)) ?_
          refine zab rfl rfl rfl (zac (.inl rfl) (ev1 rfl)) ?_
          refine walk_k (gd_f (b := false) rfl rfl rfl) rfl rfl rfl (zac (.inl rfl) (ev1 rfl)) (by simp only [upd, zaa, za]; exact rfl) ?_
          refine walk_k (gd_f (b := false) rfl rfl rfl) rfl rfl rfl (zac (.inl rfl) (ev1 rfl)) (by simp only [upd, zaa, za]; exact rfl) ?_
          refine walk_k (gd_f (b := false) rfl rfl rfl) rfl rfl rfl (op_ldmw rfl tb24 (ev1 rfl) rfl rfl) (by simp only [upd, zaa, za]; exact rfl) ?_
          refine walk_k (gd_f (b := false) rfl rfl rfl) rfl rfl rfl (op_ldw rfl tb27 (ev1 rfl) rfl rfl) (by simp only [upd, zaa, za]; exact rfl) ?_
          refine walk_k (gd_f (b := false) rfl rfl rfl) rfl rfl rfl (op_ldw rfl tb51 (ev1 rfl) rfl rfl) (by simp only [upd, zaa, za]; exact rfl) ?_
          refine walk_k (gd_f (b := false) rfl rfl rfl) rfl rfl rfl (op_ldw rfl tb51 (ev1 rfl) rfl rfl) (by simp only [upd, zaa, za]; exact rfl) ?_
          refine walk_k (gd_f (b := false) rfl rfl rfl) rfl rfl rfl (zai [] [] [] rfl (ev1 rfl) (ec (ev2 rfl) (ec (ev2 rfl) (ec (ev2 rfl) (ec (ev2 rfl) (ec (ev1 rfl) en))))) rfl rfl (rrc_1 w h (ts.take 17) hc c y[k] y[k + 1]) rfl rfl rfl rfl rfl rfl) (by simp only [upd, zaa, za]; exact rfl) ?_
          refine walk_k (gd_f (b := false) rfl rfl rfl) rfl rfl rfl (zac (.inl rfl) (ev1 rfl)) (by simp only [upd, zaa, za]; exact rfl) ?_
          refine walk_k (gd_f (b := false) rfl rfl rfl) rfl rfl rfl (zai [] [] [] rfl (ev1 rfl) (ec (ev2 rfl) (ec (ev2 rfl) (ec (ev2 rfl) (ec (ev2 rfl) en)))) rfl rfl (says_e w h (rcC false true w h (ts.take 17) c y[k] y[k + 1]) 2 (by decide)) rfl rfl rfl rfl rfl rfl) (by simp only [upd, zaa, za]; exact rfl) ?_
          refine walk_k (gd_f (b := false) rfl rfl rfl) rfl rfl rfl ((op_not rfl (ev2 rfl)).cast (d' := .val (.bool false)) (by kernel_rfl)) (by simp only [upd, zaa, za]; exact rfl) ?_
          refine zab rfl rfl rfl ((op_or rfl (ev1 rfl) (ev3 rfl (fun _ => rfl))).cast (d' := .val (.bool false)) (by rfl)) ?_
          refine zab rfl rfl rfl (zac (.inl rfl) (ev1 rfl)) ?_
          refine walk_k (gd_f (b := false) rfl rfl rfl) rfl rfl rfl (zac (.inl rfl) (ev1 rfl)) (by simp only [upd, zaa, za]; exact rfl) ?_
          refine walk_k (gd_f (b := false) rfl rfl rfl) rfl rfl rfl (zac (.inl rfl) (ev1 rfl)) (by simp only [upd, zaa, za]; exact rfl) ?_
          refine walk_k (gd_f (b := false) rfl rfl rfl) rfl rfl rfl (op_ldmw rfl tb24 (ev1 rfl) rfl rfl) (by simp only [upd, zaa, za]; exact rfl) ?_
          refine walk_k (gd_f (b := false) rfl rfl rfl) rfl rfl rfl (op_ldw rfl tb27 (ev1 rfl) rfl rfl) (by simp only [upd, zaa, za]; exact rfl) ?_
          refine walk_k (gd_f (b := false) rfl rfl rfl) rfl rfl rfl (op_ldw rfl tb51 (ev1 rfl) rfl rfl) (by simp only [upd, zaa, za]; exact rfl) ?_
          refine walk_k (gd_f (b := false) rfl rfl rfl) rfl rfl rfl (op_ldw rfl tb51 (ev1 rfl) rfl rfl) (by simp only [upd, zaa, za]; exact rfl) ?_
          refine walk_k (gd_f (b := false) rfl rfl rfl) rfl rfl rfl (zai [] [] [] rfl (ev1 rfl) (ec (ev2 rfl) (ec (ev2 rfl) (ec (ev2 rfl) (ec (ev2 rfl) (ec (ev1 rfl) en))))) rfl rfl (rrc_2 w h (ts.take 17) hc c y[k] y[k + 1] (take_rng hg 17) hcr) rfl rfl rfl rfl rfl rfl) (by simp only [upd, zaa, za]; exact rfl) ?_
          refine walk_k (gd_f (b := false) rfl rfl rfl) rfl rfl rfl (zac (.inl rfl) (ev1 rfl)) (by simp only [upd, zaa, za]; exact rfl) ?_
          refine walk_k (gd_f (b := false) rfl rfl rfl) rfl rfl rfl (zai [] [] [] rfl (ev1 rfl) (ec (ev2 rfl) (ec (ev2 rfl) (ec (ev2 rfl) (ec (ev2 rfl) en)))) rfl rfl (says_e w h (rcC true false w h (ts.take 17) c y[k] y[k + 1]) 2 (by decide)) rfl rfl rfl rfl rfl rfl) (by simp only [upd, zaa, za]; exact rfl) ?_
          refine walk_k (gd_f (b := false) rfl rfl rfl) rfl rfl rfl ((op_not rfl (ev2 rfl)).cast (d' := .val (.bool false)) (by kernel_rfl)) (by simp only [upd, zaa, za]; exact rfl) ?_
          refine zab rfl rfl rfl ((op_or rfl (ev1 rfl) (ev3 rfl (fun _ => rfl))).cast (d' := .val (.bool false)) (by rfl)) ?_
          refine zae ?_
          refine dwp_if_f rfl (rfl) ?_
          refine dwp_skip ?_
          refine zad ?_
          refine zab rfl rfl rfl (zac (.inl rfl) (ev1 rfl)) ?_
          refine zab rfl rfl rfl (op_add' rfl (ev1 rfl) (ev1 rfl) (fun _ => IntWalk.i64_in _ (by omega))) ?_
          refine zab rfl rfl rfl (zac (.inr rfl) (ev1 rfl)) ?_
          refine zae ?_
          refine ⟨k + 1, [0, 1, 2, 3], by omega, by simp only []; omega, rfl, ⟨congrArg (fun z => some (D.val (.int .i64 z))) (by first | rfl | omega), rfl, rfl, rfl, rfl, trivial⟩, ⟨rfl, rfl, rfl, rfl, trivial⟩⟩
        · refine zad ?_
          refine zab rfl rfl rfl (zac (.inl rfl) (ev1 rfl)) ?_
          refine zab rfl rfl rfl (op_ldw rfl tb27 (ev1 rfl) rfl rfl) ?_
          refine zab rfl rfl rfl (op_ldw rfl tb51 (ev1 rfl) rfl rfl) ?_
          refine zab rfl rfl rfl (op_ldw rfl tb51 (ev1 rfl) rfl rfl) ?_
          refine zab rfl rfl rfl (zai [] [] [] rfl (ev1 rfl) (ec (ev1 rfl) (ec (ev1 rfl) (ec (ev1 rfl) (ec (ev1 rfl) en)))) rfl rfl (frame_n1 w h _ (ts.take 17) (dpR_ok _) hc c y[k] y[k + 1] (by simpa using h15)) rfl rfl rfl rfl rfl rfl) ?_
          refine zab rfl rfl rfl (zac (.inl rfl) (ev1 rfl)) ?_
          refine zab rfl rfl rfl (op_ext rfl (ev1 rfl) rfl) ?_
          refine zab rfl rfl rfl (op_ext rfl (ev1 rfl) rfl) ?_
          refine zab rfl rfl rfl (zac (.inr rfl) (ev1 rfl)) ?_
          refine zab rfl rfl rfl (zac (.inr rfl) (ev1 rfl)) ?_
          refine zae ?_
          refine zaf ?_
          refine zad ?_
          refine zab rfl rfl rfl (zac (.inl rfl) (ev1 rfl)) ?_
          refine zab rfl rfl rfl (op_ldw rfl tb27 (ev1 rfl) rfl rfl) ?_
          refine zab rfl rfl rfl (op_ldw rfl tb51 (ev1 rfl) rfl rfl) ?_
          refine zab rfl rfl rfl (op_ldw rfl tb51 (ev1 rfl) rfl rfl) ?_
          refine zab rfl rfl rfl (zai [] [] [] rfl (ev1 rfl) (ec (ev1 rfl) (ec (ev1 rfl) (ec (ev1 rfl) (ec (ev1 rfl) en)))) rfl rfl (veil_n w h _ (ts.take 17) (dpR_ok _) hc c y[k] y[k + 1] hab2) rfl rfl rfl rfl rfl rfl) ?_
          refine zab rfl rfl rfl (zac (.inl rfl) (ev1 rfl)) ?_
          refine zab rfl rfl rfl (op_ext rfl (ev1 rfl) rfl) ?_
          refine zab rfl rfl rfl (op_ext rfl (ev1 rfl) rfl) ?_
          refine zab rfl rfl rfl (zac (.inr rfl) (ev1 rfl)) ?_
          refine zab rfl rfl rfl (zac (.inr rfl) (ev1 rfl)) ?_
          refine zae ?_
          refine zaf ?_
          refine zad ?_
          refine zab rfl rfl rfl (zac (.inl rfl) (ev1 rfl)) ?_
          refine zab rfl rfl rfl (zac (.inl rfl) (ev1 rfl)) ?_
          refine zab rfl rfl rfl (op_ldmw rfl tb24 (ev1 rfl) rfl rfl) ?_
          refine zab rfl rfl rfl (op_ldw rfl tb27 (ev1 rfl) rfl rfl) ?_
          refine zab rfl rfl rfl (op_ldw rfl tb51 (ev1 rfl) rfl rfl) ?_
          refine zab rfl rfl rfl (op_ldw rfl tb51 (ev1 rfl) rfl rfl) ?_
          refine zab rfl rfl rfl (zai [] [] [] rfl (ev1 rfl) (ec (ev1 rfl) (ec (ev1 rfl) (ec (ev1 rfl) (ec (ev1 rfl) (ec (ev1 rfl) en))))) rfl rfl (rrc_0 w h (ts.take 17) hc c y[k] y[k + 1]) rfl rfl rfl rfl rfl rfl) ?_
          refine zab rfl rfl rfl (zac (.inl rfl) (ev1 rfl)) ?_
          refine zab rfl rfl rfl (zai [] [] [] rfl (ev1 rfl) (ec (ev1 rfl) (ec (ev1 rfl) (ec (ev1 rfl) (ec (ev1 rfl) en)))) rfl rfl (says_e w h (rcC false false w h (ts.take 17) c y[k] y[k + 1]) 2 (by decide)) rfl rfl rfl rfl rfl rfl) ?_
          refine zab rfl rfl rfl ((op_not rfl (ev1 rfl)).cast (d' := .val (.bool false)) (by kernel_rfl)) ?_
          refine zab rfl rfl rfl (zac (.inl rfl) (ev1 rfl)) ?_
          refine walk_k (gd_f (b := false) rfl rfl rfl) rfl rfl rfl (zac (.inl rfl) (ev1 rfl)) (by simp only [upd, zaa, za]; exact rfl) ?_
          refine walk_k (gd_f (b := false) rfl rfl rfl) rfl rfl rfl (zac (.inl rfl) (ev1 rfl)) (by simp only [upd, zaa, za]; exact rfl) ?_
          refine walk_k (gd_f (b := false) rfl rfl rfl) rfl rfl rfl (op_ldmw rfl tb24 (ev1 rfl) rfl rfl) (by simp only [upd, zaa, za]; exact rfl) ?_
          refine walk_k (gd_f (b := false) rfl rfl rfl) rfl rfl rfl (op_ldw rfl tb27 (ev1 rfl) rfl rfl) (by simp only [upd, zaa, za]; exact rfl) ?_
          refine walk_k (gd_f (b := false) rfl rfl rfl) rfl rfl rfl (op_ldw rfl tb51 (ev1 rfl) rfl rfl) (by simp only [upd, zaa, za]; exact rfl) ?_
          refine walk_k (gd_f (b := false) rfl rfl rfl) rfl rfl rfl (op_ldw rfl tb51 (ev1 rfl) rfl rfl) (by simp only [upd, zaa, za]; exact rfl) ?_
          refine walk_k (gd_f (b := false) rfl rfl rfl) rfl rfl rfl (zai [] [] [] rfl (ev1 rfl) (ec (ev2 rfl) (ec (ev2 rfl) (ec (ev2 rfl) (ec (ev2 rfl) (ec (ev1 rfl) en))))) rfl rfl (rrc_1 w h (ts.take 17) hc c y[k] y[k + 1]) rfl rfl rfl rfl rfl rfl) (by simp only [upd, zaa, za]; exact rfl) ?_
          refine walk_k (gd_f (b := false) rfl rfl rfl) rfl rfl rfl (zac (.inl rfl) (ev1 rfl)) (by simp only [upd, zaa, za]; exact rfl) ?_
          refine walk_k (gd_f (b := false) rfl rfl rfl) rfl rfl rfl (zai [] [] [] rfl (ev1 rfl) (ec (ev2 rfl) (ec (ev2 rfl) (ec (ev2 rfl) (ec (ev2 rfl) en)))) rfl rfl (says_e w h (rcC false true w h (ts.take 17) c y[k] y[k + 1]) 2 (by decide)) rfl rfl rfl rfl rfl rfl) (by simp only [upd, zaa, za]; exact rfl) ?_
          refine walk_k (gd_f (b := false) rfl rfl rfl) rfl rfl rfl ((op_not rfl (ev2 rfl)).cast (d' := .val (.bool false)) (by kernel_rfl)) (by simp only [upd, zaa, za]; exact rfl) ?_
          refine zab rfl rfl rfl ((op_or rfl (ev1 rfl) (ev3 rfl (fun _ => rfl))).cast (d' := .val (.bool false)) (by rfl)) ?_
          refine zab rfl rfl rfl (zac (.inl rfl) (ev1 rfl)) ?_
          refine walk_k (gd_f (b := false) rfl rfl rfl) rfl rfl rfl (zac (.inl rfl) (ev1 rfl)) (by simp only [upd, zaa, za]; exact rfl) ?_
          refine walk_k (gd_f (b := false) rfl rfl rfl) rfl rfl rfl (zac (.inl rfl) (ev1 rfl)) (by simp only [upd, zaa, za]; exact rfl) ?_
          refine walk_k (gd_f (b := false) rfl rfl rfl) rfl rfl rfl (op_ldmw rfl tb24 (ev1 rfl) rfl rfl) (by simp only [upd, zaa, za]; exact rfl) ?_
          refine walk_k (gd_f (b := false) rfl rfl rfl) rfl rfl rfl (op_ldw rfl tb27 (ev1 rfl) rfl rfl) (by simp only [upd, zaa, za]; exact rfl) ?_
          refine walk_k (gd_f (b := false) rfl rfl rfl) rfl rfl rfl (op_ldw rfl tb51 (ev1 rfl) rfl rfl) (by simp only [upd, zaa, za]; exact rfl) ?_
          refine walk_k (gd_f (b := false) rfl rfl rfl) rfl rfl rfl (op_ldw rfl tb51 (ev1 rfl) rfl rfl) (by simp only [upd, zaa, za]; exact rfl) ?_
          refine walk_k (gd_f (b := false) rfl rfl rfl) rfl rfl rfl (zai [] [] [] rfl (ev1 rfl) (ec (ev2 rfl) (ec (ev2 rfl) (ec (ev2 rfl) (ec (ev2 rfl) (ec (ev1 rfl) en))))) rfl rfl (rrc_2 w h (ts.take 17) hc c y[k] y[k + 1] (take_rng hg 17) hcr) rfl rfl rfl rfl rfl rfl) (by simp only [upd, zaa, za]; exact rfl) ?_
          refine walk_k (gd_f (b := false) rfl rfl rfl) rfl rfl rfl (zac (.inl rfl) (ev1 rfl)) (by simp only [upd, zaa, za]; exact rfl) ?_
          refine walk_k (gd_f (b := false) rfl rfl rfl) rfl rfl rfl (zai [] [] [] rfl (ev1 rfl) (ec (ev2 rfl) (ec (ev2 rfl) (ec (ev2 rfl) (ec (ev2 rfl) en)))) rfl rfl (says_e w h (rcC true false w h (ts.take 17) c y[k] y[k + 1]) 2 (by decide)) rfl rfl rfl rfl rfl rfl) (by simp only [upd, zaa, za]; exact rfl) ?_
          refine walk_k (gd_f (b := false) rfl rfl rfl) rfl rfl rfl ((op_not rfl (ev2 rfl)).cast (d' := .val (.bool false)) (by kernel_rfl)) (by simp only [upd, zaa, za]; exact rfl) ?_
          refine zab rfl rfl rfl ((op_or rfl (ev1 rfl) (ev3 rfl (fun _ => rfl))).cast (d' := .val (.bool false)) (by rfl)) ?_
          refine zae ?_
          refine dwp_if_f rfl (rfl) ?_
          refine dwp_skip ?_
          refine zad ?_
          refine zab rfl rfl rfl (zac (.inl rfl) (ev1 rfl)) ?_
          refine zab rfl rfl rfl (op_add' rfl (ev1 rfl) (ev1 rfl) (fun _ => IntWalk.i64_in _ (by omega))) ?_
          refine zab rfl rfl rfl (zac (.inr rfl) (ev1 rfl)) ?_
          refine zae ?_
          refine ⟨k + 1, [0, 1, 2, 3], by omega, by simp only []; omega, rfl, ⟨congrArg (fun z => some (D.val (.int .i64 z))) (by first | rfl | omega), rfl, rfl, rfl, rfl, trivial⟩, ⟨rfl, rfl, rfl, rfl, trivial⟩⟩
    · refine dwp_exit ?_
      refine zaf ?_
      refine dwp_draw [([], []), ([], []), ([3], []), ([], []), ([], [])] mixed (by kernel_rfl) ?_
      refine zag rfl rfl (zac (.inl rfl) (ev1 rfl)) ?_
      refine zag rfl rfl (zai [] [] [] rfl (ev1 rfl) (ec (ev1 rfl) en) rfl rfl (show_d w h _ (ts.take 17) (dpR_ok _) hc) rfl rfl rfl rfl rfl rfl) ?_
      refine zag rfl rfl (op_ldmw rfl tb24 (ev1 rfl) rfl rfl) ?_
      refine zag rfl rfl ((zai [] [] [] rfl (ev1 rfl) (ec (ev1 rfl) (ec (ev1 rfl) en)) rfl rfl (same_d w h w h (ts.take 17) (ts.take 17) (by omega)) rfl rfl rfl rfl rfl rfl).cast (d' := .val (.bool true)) (by simp)) ?_
      refine zag rfl rfl (zac (.inr rfl) (ev1 rfl)) ?_
      refine lex_nil ?_
      refine dwp_ret ?_
      refine kend [0] (rs1 rfl (rv_t rfl)) rfl rfl ?_ ⟨rfl, trivial⟩
      rfl
  · refine zad ?_
    refine zab rfl rfl rfl (op_ldmw rfl tb24 (ev1 rfl) rfl rfl) ?_
    refine zab rfl rfl rfl (zai [] [] [] rfl (ev1 rfl) (ec (ev1 rfl) en) rfl rfl (of_0 w h (ts.take 17) (by simpa using hr)) rfl rfl rfl rfl rfl rfl) ?_
    refine zab rfl rfl rfl (zac (.inl rfl) (ev1 rfl)) ?_
    refine zab rfl rfl rfl (op_ext rfl (ev1 rfl) rfl) ?_
    refine zab rfl rfl rfl (op_ext rfl (ev1 rfl) rfl) ?_
    refine zab rfl rfl rfl (zac (.inr rfl) (ev1 rfl)) ?_
    refine zab rfl rfl rfl (zac (.inr rfl) (ev1 rfl)) ?_
    refine zae ?_
    refine zaf ?_
    refine zaf ?_
    refine zad ?_
    refine zab rfl rfl rfl (zac (.inl rfl) (ev1 rfl)) ?_
    refine zab rfl rfl rfl ((op_neq rfl (ev1 rfl) (ev1 rfl)).cast (d' := .val (.bool true)) (by kernel_rfl)) ?_
    refine zae ?_
    refine dwp_if_t rfl (rfl) ?_
    refine zaf ?_
    refine zad ?_
    refine zab rfl rfl rfl (op_ldmw rfl tb24 (ev1 rfl) rfl rfl) ?_
    refine zab rfl rfl rfl ((zai [] [] [] rfl (ev1 rfl) (ec (ev1 rfl) en) rfl rfl (right_d w h (ts.take 17)) rfl rfl rfl rfl rfl rfl).cast (d' := .val (.bool false)) (by simpa using hr)) ?_
    refine zab rfl rfl rfl ((op_not rfl (ev1 rfl)).cast (d' := .val (.bool true)) (by kernel_rfl)) ?_
    refine zab rfl rfl rfl (zac (.inr rfl) (ev1 rfl)) ?_
    refine zae ?_
    refine dwp_ret ?_
    refine kend [0] (rs1 rfl (rv_t rfl)) rfl rfl ?_ ⟨rfl, trivial⟩
    rfl
end Go.Proofs.YtjgnalfnginjbaaGreatDoor
