/- A region that draws its order, one of whose operations panics, beside others that only read. Conditions: the kernel's look at its edges; what drawing rests on; the pixels of a canvas that a row of spans has; places gone through, up to a line; a canvas drawn on; what draws; strokes, lines, rectangles; what holds ahead of each law: drawing; painted twice; arguments that are opened; the variable that stays; a frame, and what is in it; rows of spans that are painted, and washed; rows of spans, by the document; strokes, by the document. No condition. -/
import Derived.Test.YtjgnalfnginjbaaGreatDoorR5
import Derived.Test.YtjgnalfnginjbaaGreatDoorRows
import Derived.SevenTiedAt
namespace Go.Proofs.YtjgnalfnginjbaaGreatDoor
set_option linter.unusedVariables false
set_option linter.unusedSimpArgs false
open Go.RowKit
theorem lk_key : ∀ {F : Fr} {t : Nat} {d : D}, lk F t = some d → ∃ p ∈ F, p.1 = t
  | [], _, _, h => by cases h
  | (t', d') :: F, t, d, h => by
    by_cases e : t' = t
    · exact ⟨(t', d'), List.mem_cons_self .., e⟩
    · have h2 : lk F t = some d := by
        unfold lk at h
        have e2 : Nat.beq t' t = false := Bool.eq_false_iff.2 fun q => e (Nat.eq_of_beq_eq_true q)
        rw [e2] at h
        exact h
      obtain ⟨p, hp, h3⟩ := lk_key h2
      exact ⟨p, List.mem_cons_of_mem _ hp, h3⟩
/-- what does nothing -/
def nopO : Oper := { dst := none, op := .move (.const (.bool true)), type := 0, pos := "", after := #[], guard := none }
theorem nop_d {P : Program} {pc : Bool} {F : Fr} {M : List Blk} : DOp P pc nopO F M [] (.val (.bool true)) [] := zac (.inl rfl) (ev1 rfl)
theorem nop_n (ops : Array Oper) : namesOf ops nopO = [] := rfl
/-- behind some number all stand behind the one that panics; what isn't forced ahead of it changes nothing, and it doesn't ask for it -/
def drawOkR (n : Nat) (lf : List Oper) (m N : Nat) (fps : List (List Nat × List Nat)) : Bool :=
  let bs := befL lf []
  fps.length == N && Nat.blt m N && Nat.ble N lf.length && (match fps[m]? with | some f => f.1.isEmpty && f.2.isEmpty | none => false) && ((List.range lf.length).all fun j => match lf[j]? with
    | some oj => oj.after.all (fun e => !Region.binds .any e || Nat.blt e.on j) && (Nat.blt j N || (bs.getD j 0).testBit m)
    | none => false) && ((List.range N).all fun i => i == m || match lf[i]?, fps[i]?, lf[m]? with
    | some oi, some fi, some om => (bs.getD m 0).testBit i || (fi.2.isEmpty && !meet oi.dst.toList (namesOf lf.toArray om))
    | _, _, _ => false) && (List.range N).all fun j => j == m ||
    match lf[j]?, fps[j]? with
    | some oj, some fj => dstB n oj.dst && noDef oj.op && fj.2.all (fun x => fj.1.contains x) && (List.range j).all fun i => i == m ||
      match lf[i]?, fps[i]? with
      | some oi, some fi => pairOk lf.toArray (bs.getD j 0) i oi oj fi fj
      | _, _ => false
    | _, _ => false
/-- **A region that draws its order, and panics**: what is not forced ahead of the panic only reads. -/
theorem dwp_drawR {P : Program} {s0 : St} {n : Cx} {id : Nat} {lf : List Oper} {op : Oper} {F : Fr} {M : List Blk} {K : Cont} (m N : Nat) (fps : List (List Nat × List Nat)) (hm : P.follows .mixedOrders = true) (hB : drawOkR n.n lf m N fps = true) (hfr : (F.all fun p => (lf.take N).all fun o => match o.dst with | some t => !Nat.beq t p.1 | none => true) = true) (hopn : lf[m]? = some op) (hndm : noDef op.op = true)
    (h : Lex P lf.toArray ((lf.take N).set m nopO) fps F M (fun F1 M1 => ∃ fp d wr, op.guard = none ∧ DOpP P true op F1 M1 fp d wr ∧ K (.panic d) F (upd M1 wr))) :
    dwp P s0 n (.region id lf.toArray true) F M K := by
  intro a w hi
  refine wpIn_region_any hm ?_
  simp only [drawOkR, Bool.and_eq_true, beq_iff_eq, List.all_eq_true, List.mem_range] at hB
  obtain ⟨⟨⟨⟨⟨⟨hlen0, hml⟩, hNl⟩, hfm⟩, hedge⟩, hpre0⟩, hB⟩ := hB
  have hml := Nat.blt_eq.mp hml
  have hNl := Nat.ble_eq.mp hNl
  have hfm2 : ∀ f, fps[m]? = some f → f.1 = [] ∧ f.2 = [] := fun f hf => by
    rw [hf] at hfm
    simpa using hfm
  obtain ⟨l, hl⟩ : ∃ l, l = (lf.take N).set m nopO := ⟨_, rfl⟩
  have hllen : l.length = N := by rw [hl, List.length_set, List.length_take]; omega
  rw [← hl] at h
  have hlen : fps.length = l.length := by omega
  have htk : ∀ i, i < l.length → i ≠ m → l[i]? = lf[i]? := fun i hi hne => by rw [hl, List.getElem?_set_ne (Ne.symm hne), List.getElem?_take, if_pos (by omega)]
  have hmk : l[m]? = some nopO := by rw [hl, List.getElem?_set_self (by rw [List.length_take]; omega)]
  have hon : ∀ (j : Nat) o, lf[j]? = some o → ∀ e ∈ o.after.toList, Region.binds .any e = true → e.on < j := by
    intro j o ho e he hb
    have h1 := hedge j (List.getElem?_eq_some_iff.1 ho).1
    rw [ho] at h1
    simp only [Bool.and_eq_true] at h1
    have := Array.all_eq_true_iff_forall_mem.1 h1.1 e (by simpa using he)
    rw [hb] at this
    exact Nat.blt_eq.mp (by simpa using this)
  have hbeh : ∀ i, l.length ≤ i → i < lf.length → ahead lf m i = true := by
    intro i h1 h2
    have h3 := hedge i h2
    rw [List.getElem?_eq_getElem h2] at h3
    simp only [Bool.and_eq_true, Bool.or_eq_true] at h3
    rcases h3.2 with h4 | h4
    · have := Nat.blt_eq.mp h4; omega
    · exact h4
  have hpre : ∀ (j : Nat) oj fj, lf[j]? = some oj → fps[j]? = some fj → j < l.length → j ≠ m → ahead lf j m = true ∨ (fj.2 = [] ∧ meet oj.dst.toList (namesOf lf.toArray op) = false) := fun j oj fj ho hf hj hne => by
    have h1 := hpre0 j (by omega)
    rw [ho, hf, hopn] at h1
    simp only [Bool.or_eq_true, Bool.and_eq_true, Bool.not_eq_true', List.isEmpty_iff, beq_iff_eq, hne, false_or] at h1
    exact h1
  subst hllen
  obtain ⟨E, e1, e2, e3⟩ := lex_recs l fps F M hlen h
  have at_ : ∀ k, k < l.length → ∃ o f, l[k]? = some o ∧ fps[k]? = some f := fun k hk => ⟨l[k], fps[k], List.getElem?_eq_getElem hk, List.getElem?_eq_getElem (by omega)⟩
  have hone : ∀ (j : Nat) o f, l[j]? = some o → fps[j]? = some f → (∀ e ∈ o.after.toList, Region.binds .any e = true → e.on < j) ∧ dstB n.n o.dst = true ∧ noDef o.op = true ∧ (∀ x ∈ f.2, x ∈ f.1) ∧ ∀ (i : Nat) oi fi, i < j → l[i]? = some oi → fps[i]? = some fi → ahead lf i j = true ∨ (meet oi.dst.toList (namesOf lf.toArray o) = false ∧ meet (namesOf lf.toArray oi) o.dst.toList = false ∧ meet fi.2 f.1 = false ∧ meet fi.1 f.2 = false) := by
    intro j o f ho hf
    have hj : j < l.length := (List.getElem?_eq_some_iff.1 ho).1
    by_cases ejm : j = m
    · subst ejm
      rw [hmk] at ho
      obtain rfl := Option.some.inj ho
      obtain ⟨k1, k2⟩ := hfm2 f hf
      refine ⟨fun e he => by simp [nopO] at he, rfl, rfl, fun x hx => (by rw [k2] at hx; cases hx), fun i oi fi hij hoi hfi => .inr ⟨?_, ?_, ?_, ?_⟩⟩
      · rw [nop_n]; simp [meet]
      · simp [meet, nopO]
      · rw [k1]; simp [meet]
      · rw [k2]; simp [meet]
    have h1 := hB j hj
    have ho2 := ho
    rw [htk j hj ejm] at ho2
    rw [ho2, hf] at h1
    simp only [Bool.and_eq_true, List.all_eq_true, List.mem_range, Bool.or_eq_true, beq_iff_eq, ejm, false_or] at h1
    obtain ⟨⟨⟨h2, hnd⟩, h3⟩, h4⟩ := h1
    refine ⟨hon j o ho2, h2, hnd, fun x hx => by simpa using h3 x hx, fun i oi fi hij hoi hfi => ?_⟩
    by_cases eim : i = m
    · subst eim
      rw [hmk] at hoi
      obtain rfl := Option.some.inj hoi
      obtain ⟨k1, k2⟩ := hfm2 fi hfi
      refine .inr ⟨?_, ?_, ?_, ?_⟩
      · simp [meet, nopO]
      · rw [nop_n]; simp [meet]
      · rw [k2]; simp [meet]
      · rw [k1]; simp [meet]
    have h5 := h4 i hij
    rw [← htk i (by omega) eim, hoi, hfi] at h5
    simp only [eim, false_or, pairOk, Bool.or_eq_true, Bool.not_eq_true', Bool.or_eq_false_iff] at h5
    rcases h5 with h5 | h5
    · exact .inl h5
    · exact .inr ⟨h5.1.1.1, h5.1.1.2, h5.1.2, h5.2⟩
  have meet_no : ∀ {x : List Nat} {y : List Nat} {t : Nat}, meet x y = false → t ∈ x → t ∈ y → False := by
    intro x y t hm hx hy
    simp only [meet, List.any_eq_false] at hm
    exact hm t hx (by simpa using hy)
  -- the state when some have been done
  have main : ∀ (f : Nat) (listed : Array Bool) (b : Act) (s : St), Ok s0 → listed.size = lf.length → (∀ k, l.length ≤ k → listed.getD k false = false) → listed.getD m false = false → unl listed lf.length = f → Tr s0 s →
      (∀ t d, lkS l E F (fun k => listed.getD k false) t l.length = some d → Rep s d (slot b t)) → s.M.length = M.length → (∀ i, i < M.length → s.M[i]? = memS E M (fun k => listed.getD k false) i l.length) →
      b.tmps.size = n.n → DfOk s0 s n.mks n.U b.defers → (∀ j i, listed.getD j false = true → j < l.length → ahead lf i j = true → listed.getD i false = true) →
      wpAnyIn (wd (n.ρ s0)) 0 P .any lf.toArray (PostK s0 n K) f listed b s.w := by
    intro f
    induction f with
    | zero =>
      intro listed b s h0 hs hbig hm0 hu ht hF hMl hM hn hd _
      have hall := unl_zero _ hu
      have h1 := hall m (by omega)
      rw [hm0] at h1
      cases h1
    | succ f ih =>
      intro listed b s h0 hs hbig hm0 hu ht hF hMl hM hn hd hcl
      refine ⟨fun hnone => ?_, fun i hi => ?_⟩
      · exfalso
        obtain ⟨i, h1, h2, h3⟩ := unl_some lf.length (listed := listed) (by omega)
        obtain ⟨o, ho⟩ : ∃ o, lf[i]? = some o := ⟨lf[i], List.getElem?_eq_getElem h1⟩
        have g1 := hon i o ho
        have : i ∈ Region.ready .any lf.toArray listed := mem_ready.2 ⟨by rw [getD_tf hs h1]; exact h2, o, by simpa using ho, fun e he hb => h3 _ (g1 e (by simpa using he) hb)⟩
        rw [hnone] at this
        cases this
      · obtain ⟨hun, o, ho, hall⟩ := mem_ready.1 hi
        have hof : lf[i]? = some o := by simpa using ho
        have hilf : i < lf.length := (List.getElem?_eq_some_iff.1 hof).1
        rw [getD_tf hs hilf] at hun
        have done0 : ∀ j, ahead lf j i = true → listed.getD j false = true := by
          intro j hj
          obtain ⟨e, he, hb, hcase⟩ := ahead_step hof hj
          have h1 := hall e (by simpa using he) hb
          rcases hcase with rfl | ⟨h2, h3⟩
          · exact h1
          · refine hcl e.on j h1 ?_ h3
            refine Classical.byContradiction fun hno => ?_
            rw [hbig e.on (by omega)] at h1
            cases h1
        by_cases hgt : l.length ≤ i
        · exfalso
          have h1 := done0 m (hbeh i hgt hilf)
          rw [hm0] at h1
          cases h1
        by_cases him : i = m
        · rw [him] at hof done0
          rw [hof] at hopn
          obtain rfl := Option.some.inj hopn
          obtain ⟨fp, d, wr, q1, q2, q3⟩ := e2
          have hMk : s.M = Mup E M l.length := by
            refine List.ext_getElem? fun i => ?_
            by_cases hi : i < M.length
            · rw [hM i hi, mup_at i hi]
              refine memS_congr _ fun j rj hj hrj hwj => ?_
              obtain ⟨oj, fj, hoj, hfj⟩ := at_ j hj
              have hsoft : ahead lf j m = true ∨ fj.2 = [] := by
                by_cases ejm : j = m
                · subst ejm; exact .inr (hfm2 fj hfj).2
                · exact (hpre j oj fj (by rw [← htk j hj ejm]; exact hoj) hfj hj ejm).imp_right (·.1)
              rcases hsoft with h1 | h1
              · exact done0 j h1
              · exfalso
                obtain ⟨_, _, r', hr', _, _, _, hw', _⟩ := e3 j oj fj hoj hfj
                rw [hrj] at hr'
                obtain rfl := Option.some.inj hr'
                rw [h1] at hw'
                rw [wrAt_none _ _ (by rw [hw']; simp)] at hwj
                cases hwj
            · rw [List.getElem?_eq_none (by omega), List.getElem?_eq_none (by rw [Mup_len]; omega)]
          have hslot : ∀ t d, t ∈ namesOf lf.toArray o → lk (Fup l E F l.length) t = some d → Rep s d (slot b t) := by
            intro t d' ht hd'
            refine hF t d' ?_
            rw [← hd', fup_lk]
            refine lkS_congr _ fun j oj hj hoj hjd => ?_
            obtain ⟨oj', fj, hoj', hfj⟩ := at_ j hj
            rw [hoj] at hoj'
            obtain rfl := Option.some.inj hoj'
            have ejm : j ≠ m := fun e => by
              subst e
              rw [hmk] at hoj
              obtain rfl := Option.some.inj hoj
              cases hjd
            rcases hpre j oj fj (by rw [← htk j hj ejm]; exact hoj) hfj hj ejm with h1 | ⟨_, h1⟩
            · exact done0 j h1
            · exact (meet_no h1 (by simp [hjd]) ht).elim
          have hFk : FOk s F b := fun t d' hd' => hF t d' (by
            rw [lkS_cut 0 l.length (Nat.zero_le _) fun j oj _ h2 hj hjd => ?_]
            · exact hd'
            · exfalso
              have ejm : j ≠ m := fun e => by
                subst e
                rw [hmk] at hj
                obtain rfl := Option.some.inj hj
                cases hjd
              obtain ⟨p, hp, rfl⟩ := lk_key hd'
              have h3 := List.all_eq_true.1 (List.all_eq_true.1 hfr p hp) oj (List.mem_of_getElem? (i := j) (by rw [List.getElem?_take, if_pos h2, ← htk j h2 ejm]; exact hj))
              rw [hjd] at h3
              simp at h3)
          unfold wpOpIn
          rw [ho]
          simp only
          have hw : Region.wanted o (yielded lf.toArray b.tmps) = true := by unfold Region.wanted; rw [q1]
          rw [if_pos hw]
          refine dgives_inP hndm (q2 rfl b s ht.ok (fun x hx d' hd' => ?_) (fun i _ => by rw [hMk])) fun s' v ht' ⟨w1, w2⟩ => ?_
          · cases x with
            | tmp t => exact hslot t d' (List.mem_append_left _ (List.mem_append_left _ (List.mem_filterMap.2 ⟨.tmp t, by simpa using hx, rfl⟩))) hd'
            | const v => obtain rfl := Option.some.inj hd'; exact .val v
            | func g => obtain rfl := Option.some.inj hd'; exact Rep.fn (vs := []) (us := []) rfl rfl (fun j d v h => by simp at h) (fun j d v h => by simp at h)
            | global g => obtain rfl := Option.some.inj hd'; exact .val _
          · exact ⟨F, upd (Mup E M l.length) wr, d, ⟨h0, s', v, w1.trans (by rw [hMk]), rfl, ht.trans ht', hFk.mono ht.ok ht', hn, hd.mono ht.ok ht', rfl, w2⟩, q3⟩
        have hil : i < l.length := by omega
        have ho' : l[i]? = some o := by rw [htk i hil him]; exact hof
        obtain ⟨fi, hfi⟩ : ∃ fi, fps[i]? = some fi := ⟨fps[i], List.getElem?_eq_getElem (by omega)⟩
        obtain ⟨pc, d, r, hr, hrd, hg, hop, hwi, hgw⟩ := e3 i o fi ho' hfi
        obtain ⟨g1, g2, hnd, g3, g4⟩ := hone i o fi ho' hfi
        have done := done0
        have undone : ∀ j, j < l.length → ahead lf i j = true → listed.getD j false = false := by
          intro j hj h1
          cases e : listed.getD j false with
          | false => rfl
          | true => rw [hcl j i e hj h1] at hun; cases hun
        have tset : ∀ t, t ∈ namesOf lf.toArray o → lkS l E F (fun k => listed.getD k false) t l.length = lkS l E F (fun _ => true) t i := by
          intro t ht
          rw [lkS_cut i l.length (by omega) fun j oj h1 h2 hj hjd => ?_]
          · refine lkS_congr i fun j oj hj hoj hjd => ?_
            obtain ⟨fj, hfj⟩ : ∃ fj, fps[j]? = some fj := ⟨fps[j], List.getElem?_eq_getElem (by omega)⟩
            rcases g4 j oj fj hj hoj hfj with h1 | h1
            · exact done j h1
            · exact (meet_no h1.1 (by simp [hjd]) ht).elim
          · by_cases e : j = i
            · subst e; exact hun
            · obtain ⟨fj, hfj⟩ : ∃ fj, fps[j]? = some fj := ⟨fps[j], List.getElem?_eq_getElem (by omega)⟩
              rcases (hone j oj fj hj hfj).2.2.2.2 i o fi (by omega) ho' hfi with h3 | h3
              · exact undone j h2 h3
              · exact (meet_no h3.2.1 ht (by simp [hjd])).elim
        have mset : ∀ x, x ∈ fi.1 → memS E M (fun k => listed.getD k false) x l.length = memS E M (fun _ => true) x i := by
          intro x hx
          have wmem : ∀ (j : Nat) rj fj, E[j]? = some rj → fps[j]? = some fj → j < l.length → (wrAt rj.wr x).isSome = true → x ∈ fj.2 := by
            intro j rj fj hrj hfj hj hw
            obtain ⟨oj, _, hoj, _⟩ := at_ j hj
            obtain ⟨_, _, r', hr', _, _, _, hw', _⟩ := e3 j oj fj hoj hfj
            rw [hrj] at hr'
            obtain rfl := Option.some.inj hr'
            rw [← hw']
            refine Classical.byContradiction fun hno => ?_
            rw [wrAt_none _ _ hno] at hw
            cases hw
          rw [memS_cut i l.length (by omega) fun j rj h1 h2 hrj hw => ?_]
          · refine memS_congr i fun j rj hj hrj hw => ?_
            obtain ⟨oj, fj, hoj, hfj⟩ := at_ j (by omega)
            rcases g4 j oj fj hj hoj hfj with h1 | h1
            · exact done j h1
            · exact (meet_no h1.2.2.1 (wmem j rj fj hrj hfj (by omega) hw) hx).elim
          · by_cases e : j = i
            · subst e; exact hun
            · obtain ⟨oj, fj, hoj, hfj⟩ := at_ j (by omega)
              rcases (hone j oj fj hoj hfj).2.2.2.2 i o fi (by omega) ho' hfi with h3 | h3
              · exact undone j h2 h3
              · exact (meet_no h3.2.2.2 hx (wmem j rj fj hrj hfj h2 hw)).elim
        have hslot : ∀ t d, t ∈ o.looksAt lf.toArray → lk (Fup l E F i) t = some d → Rep s d (slot b t) := by
          intro t d' ht hd'
          refine hF t d' ?_
          rw [tset t (List.mem_append_left _ ht), ← fup_lk]
          exact hd'
        have next : ∀ (s' : St) (v : Value), Tr s s' → s'.M = upd s.M r.wr → Rep s' r.d v → wpAnyIn (wd (n.ρ s0)) 0 P .any lf.toArray (PostK s0 n K) f (listed.setIfInBounds i true) (b.put o.dst v) s'.w := by
          intro s' v ht' hM' hrep
          have hset : ∀ k, (listed.setIfInBounds i true).getD k false = if i = k then true else listed.getD k false := fun k => getD_set _ _ _ (by rw [hs]; exact hilf)
          refine ih _ _ s' h0 (by simp [hs]) (fun k hk => by rw [hset, if_neg (by omega)]; exact hbig k hk) (by rw [hset, if_neg him]; exact hm0) ?_ (ht.trans ht') ?_ (by rw [hM', upd_len, hMl]) ?_ (by rw [put_size]; exact hn) (by rw [put_def]; exact hd.mono ht.ok ht') ?_
          · have := unl_set (by rw [hs]; exact hilf) hun lf.length
            rw [if_pos hilf] at this
            omega
          · intro t d' hd'
            by_cases htd : o.dst = some t
            · have e : lkS l E F (fun k => (listed.setIfInBounds i true).getD k false) t l.length = some r.d := by
                rw [lkS_cut (i + 1) l.length (by omega) fun j oj h1 h2 hj hjd => ?_]
                · unfold lkS
                  rw [ho', hr]
                  simp only
                  rw [if_pos ⟨by rw [hset, if_pos rfl], htd⟩]
                · rw [hset, if_neg (by omega)]
                  obtain ⟨fj, hfj⟩ : ∃ fj, fps[j]? = some fj := ⟨fps[j], List.getElem?_eq_getElem (by omega)⟩
                  rcases (hone j oj fj hj hfj).2.2.2.2 i o fi (by omega) ho' hfi with h3 | h3
                  · exact undone j h2 h3
                  · exact (meet_no (t := t) h3.2.1 (List.mem_append_right _ (by simp [htd])) (by simp [hjd])).elim
              rw [e] at hd'
              obtain rfl := Option.some.inj hd'
              have hsz : t < b.tmps.size := by
                rw [htd] at g2
                rw [hn]
                exact Nat.blt_eq.mp g2
              rw [htd, slot_put, if_pos ⟨rfl, hsz⟩]
              exact hrep
            · have e : slot (b.put o.dst v) t = slot b t := by
                cases hod : o.dst with
                | none => rfl
                | some x => rw [slot_put, if_neg (fun q => htd (by rw [hod, q.1]))]
              rw [e]
              refine (hF t d' ?_).mono ht.ok ht'
              rw [← hd']
              refine lkS_congr _ fun j oj hj hoj hjd => ?_
              rw [hset]
              by_cases ej : i = j
              · subst ej
                rw [ho'] at hoj
                obtain rfl := Option.some.inj hoj
                exact absurd hjd htd
              · rw [if_neg ej]
          · intro x hx
            rw [hM', upd_get _ _ _ (by omega), hM x hx]
            cases hw : wrAt r.wr x with
            | none =>
              rw [Option.none_or]
              refine memS_congr _ fun j rj hj hrj hwj => ?_
              rw [hset]
              by_cases ej : i = j
              · subst ej
                rw [hr] at hrj
                obtain rfl := Option.some.inj hrj
                rw [hw] at hwj; cases hwj
              · rw [if_neg ej]
            | some k =>
              rw [Option.some_or]
              have hxw : x ∈ fi.2 := by
                rw [← hwi]
                refine Classical.byContradiction fun hno => ?_
                rw [wrAt_none _ _ hno] at hw
                cases hw
              rw [memS_cut (i + 1) l.length (by omega) fun j rj h1 h2 hrj hwj => ?_]
              · unfold memS
                rw [hr]
                simp only
                rw [if_pos (by rw [hset, if_pos rfl]), hw, Option.some_or]
              · rw [hset, if_neg (by omega)]
                obtain ⟨oj, fj, hoj, hfj⟩ := at_ j (by omega)
                rcases (hone j oj fj hoj hfj).2.2.2.2 i o fi (by omega) ho' hfi with h3 | h3
                · exact undone j h2 h3
                · refine (meet_no h3.2.2.2 (g3 x hxw) ?_).elim
                  obtain ⟨_, _, r', hr', _, _, _, hw', _⟩ := e3 j oj fj hoj hfj
                  rw [hrj] at hr'
                  obtain rfl := Option.some.inj hr'
                  rw [← hw']
                  refine Classical.byContradiction fun hno => ?_
                  rw [wrAt_none _ _ hno] at hwj
                  cases hwj
          · intro j k hj hjl hk
            rw [hset] at hj ⊢
            by_cases e : i = k
            · rw [if_pos e]
            · rw [if_neg e]
              by_cases ej : i = j
              · subst ej; exact done k hk
              · rw [if_neg ej] at hj
                exact hcl j k hj hjl hk
        unfold wpOpIn
        rw [ho]
        simp only
        rw [gd_wanted hg hslot]
        cases pc with
        | true =>
          rw [if_pos rfl]
          refine dgives_in hnd (hop rfl b s ht.ok (fun x hx d' hd' => ?_) (fun x hx => ?_)) fun s' v ht' ⟨q1, q2⟩ => next s' v ht' q1 ?_
          · cases x with
            | tmp t => exact hslot t d' (List.mem_append_left _ (List.mem_filterMap.2 ⟨.tmp t, by simpa using hx, rfl⟩)) hd'
            | const v => obtain rfl := Option.some.inj hd'; exact .val v
            | func g => obtain rfl := Option.some.inj hd'; exact Rep.fn (vs := []) (us := []) rfl rfl (fun j d v h => by simp at h) (fun j d v h => by simp at h)
            | global g => obtain rfl := Option.some.inj hd'; exact .val _
          · by_cases hxl : x < M.length
            · rw [hM x hxl, mup_at x hxl, mset x hx]
            · rw [List.getElem?_eq_none (by omega), List.getElem?_eq_none (by rw [Mup_len]; omega)]
          · rw [hrd]
            unfold gdd
            split
            · exact q2
            · exact .opt (fun _ => q2) (fun h => by cases h)
        | false =>
          rw [if_neg (by simp)]
          have hgs : o.guard.isSome = true := by
            unfold Gd at hg
            cases e : o.guard with
            | none => rw [e] at hg; cases hg
            | some x => rfl
          refine ⟨fun _ _ => trivial, next s undef (Tr.refl ht.ok) (by rw [hgw rfl]; rfl) ?_⟩
          rw [hrd]
          unfold gdd
          split
          · rename_i e; rw [e] at hgs; cases hgs
          · exact .opt (fun h => by cases h) (fun _ => rfl)
  obtain ⟨h0, s, h1, h2, h3, h4, h5, h6⟩ := hi
  subst h1 h2
  have hst := step_same h3.ok { s.w with drawn := s.w.drawn + 1 } rfl rfl rfl rfl
  have hno : ∀ k, (Array.replicate lf.toArray.size false).getD k false = false := fun k => by
    simp only [Array.getD_eq_getD_getElem?, Array.getElem?_replicate]
    split <;> rfl
  have := main lf.length (Array.replicate lf.toArray.size false) a ⟨s.β, s.I, s.M, { s.w with drawn := s.w.drawn + 1 }⟩ h0 (by simp) (fun k _ => hno k) (hno m) (by
      have := unl_start lf.toArray.size lf.length (by simp)
      exact this) (h3.trans hst) (fun t d hd => ?_) rfl (fun i hi => ?_) h5 (h6.mono h3.ok hst) (fun j i hj => by rw [hno] at hj; cases hj)
  · simpa using this
  · rw [lkS_cut 0 l.length (by omega) fun j o _ _ _ _ => hno j] at hd
    exact (h4 t d hd).mono h3.ok hst
  · rw [memS_cut 0 l.length (by omega) fun j r _ _ _ _ => hno j]
    rfl
end Go.Proofs.YtjgnalfnginjbaaGreatDoor
namespace Go.Proofs.YtjgnalfnginjbaaGreatDoor
set_option maxRecDepth 4000
set_option linter.unusedVariables false
set_option linter.unusedSimpArgs false
open Go.RowKit
theorem fl122 : fdL Tryz.prog 122 = some [(0, 1)] := by kernel_rfl
theorem fl85 : fdL Tryz.prog 85 = some [(0, 1)] := by kernel_rfl
theorem fo122_0 : fdO Tryz.prog 122 0 = some 0 := by kernel_rfl
theorem ni122 : niF Tryz.prog 122 = true := by kernel_rfl
theorem tb122 : tyB Tryz.prog 122 = some (true, 1) := by kernel_rfl
theorem tb34 : tyB Tryz.prog 34 = some (false, 1) := by kernel_rfl
theorem tb85 : tyB Tryz.prog 85 = some (true, 1) := by kernel_rfl
theorem zr122 : zrC Tryz.prog 122 = some [.int .i64 0] := by kernel_rfl
theorem zr85 : zrC Tryz.prog 85 = some [.pointer none] := by kernel_rfl
theorem zv122 : zrV Tryz.prog 122 = some (.agg #[.int .i64 0]) := by kernel_rfl
theorem getC_put {w h : Int} {us : List TL} {d : Dt} (hc : CvOk w h us) (ho : onS w h d.x d.y = true) : getC w (putC w h us d) d.x d.y = d.c := by
  have hp := hc.pl ho
  have hq := (on_pl hc.may ho).2.2.2
  unfold getC putC
  rw [if_pos ho, tl_at (by simpa using hp), List.getElem_set_self]
  unfold TL.get TL.set
  rw [List.getD_eq_getElem?_getD, List.getElem?_set_self (by rw [TL.h]; exact hq)]
  rfl
def lastF (x y : Int) (l : List Dt) : C4 × Bool := l.foldl (fun s d => if d.x = x ∧ d.y = y then (d.c, true) else s) (zC4, false)
theorem lastF_add {x y : Int} {l : List Dt} {k : Nat} (h : k < l.length) : lastF x y (l.take (k + 1)) = if l[k].x = x ∧ l[k].y = y then (l[k].c, true) else lastF x y (l.take k) := by
  rw [List.take_succ_eq_append_getElem h, lastF, List.foldl_append]; rfl
theorem pl_inj {w h x y x2 y2 : Int} (hm : mayS w h = true) (ho : onS w h x y = true) (ho2 : onS w h x2 y2 = true) (h1 : plN w x y = plN w x2 y2) : x / 8 = x2 / 8 ∧ y / 8 = y2 / 8 := by
  have hb := mayS_b hm
  have e1 := (on_pl hm ho).1
  have e2 := (on_pl hm ho2).1
  have g1 := onS_iff.1 ho
  have g2 := onS_iff.1 ho2
  rw [h1] at e1
  have hw : w = 1 ∨ w = 2 ∨ w = 3 ∨ w = 4 := by omega
  rcases hw with rfl | rfl | rfl | rfl <;> omega
theorem px_inj {w h x y x2 y2 : Int} (hm : mayS w h = true) (ho : onS w h x y = true) (ho2 : onS w h x2 y2 = true) (h1 : plN w x y = plN w x2 y2) (h2 : pxN x y = pxN x2 y2) : x = x2 ∧ y = y2 := by
  have e1 := (on_pl hm ho).2.2.1
  have e2 := (on_pl hm ho2).2.2.1
  have e3 := pl_inj hm ho ho2 h1
  rw [h2] at e1
  omega
theorem getC_putne {w h x y : Int} {us : List TL} {d : Dt} (hc : CvOk w h us) (ho : onS w h x y = true) (hne : ¬ (d.x = x ∧ d.y = y)) : getC w (putC w h us d) x y = getC w us x y := by
  unfold putC
  split
  · rename_i hd
    unfold getC
    by_cases e : plN w d.x d.y = plN w x y
    · have e2 : pxN d.x d.y ≠ pxN x y := fun e2 => hne (px_inj hc.may hd ho e e2)
      have hp := hc.pl ho
      rw [e, tl_at (by simpa using hp), List.getElem_set_self]
      unfold TL.get TL.set
      rw [List.getD_eq_getElem?_getD, List.getElem?_set_ne e2, ← List.getD_eq_getElem?_getD]
    · rw [List.getD_eq_getElem?_getD, List.getElem?_set_ne e, ← List.getD_eq_getElem?_getD]
  · rfl
theorem getC_puts {w h x y : Int} {us : List TL} (hc : CvOk w h us) (ho : onS w h x y = true) (l : List Dt) : getC w (putsC w h us l) x y = if (lastF x y l).2 = true then (lastF x y l).1 else getC w us x y := by
  have key : ∀ k, k ≤ l.length → getC w (putsC w h us (l.take k)) x y = if (lastF x y (l.take k)).2 = true then (lastF x y (l.take k)).1 else getC w us x y := fun k => by
    induction k with
    | zero => intro _; rfl
    | succ k ih =>
      intro hk
      rw [putsC_take (by omega), lastF_add (by omega)]
      by_cases hd : l[k].x = x ∧ l[k].y = y
      · rw [if_pos hd]
        obtain ⟨rfl, rfl⟩ := hd
        rw [getC_put (hc.puts _) ho]
        rfl
      · rw [if_neg hd, getC_putne (hc.puts _) ho hd, ih (by omega)]
  have := key l.length (Nat.le_refl _)
  rwa [List.take_length] at this
theorem lastG_no {x y : Int} : ∀ {l : List Dt} (s : C4 × Bool), (∀ d ∈ l, ¬ (d.x = x ∧ d.y = y)) → l.foldl (fun s d => if d.x = x ∧ d.y = y then (d.c, true) else s) s = s
  | [], _, _ => rfl
  | d :: l, s, h => by rw [List.foldl_cons, if_neg (h d (by simp))]; exact lastG_no s fun e he => h e (List.mem_cons_of_mem _ he)
theorem lastG_yes {x y : Int} {c : C4} : ∀ {l : List Dt} (s : C4 × Bool), (∃ d ∈ l, d.x = x ∧ d.y = y) → (∀ d ∈ l, d.x = x ∧ d.y = y → d.c = c) → l.foldl (fun s d => if d.x = x ∧ d.y = y then (d.c, true) else s) s = (c, true)
  | [], _, h, _ => by obtain ⟨d, hd, _⟩ := h; cases hd
  | d :: l, s, h, hc => by
    rw [List.foldl_cons]
    by_cases hl : ∃ d ∈ l, d.x = x ∧ d.y = y
    · exact lastG_yes _ hl fun e he => hc e (List.mem_cons_of_mem _ he)
    · rw [lastG_no _ fun e he k => hl ⟨e, he, k⟩]
      obtain ⟨e, he, k⟩ := h
      rcases List.mem_cons.1 he with rfl | he
      · rw [if_pos k, hc e (by simp) k]
      · exact absurd ⟨e, he, k⟩ hl
theorem lastF_no {x y : Int} {l : List Dt} (h : ∀ d ∈ l, ¬ (d.x = x ∧ d.y = y)) : lastF x y l = (zC4, false) := lastG_no _ h
theorem lastF_yes {x y : Int} {c : C4} {l : List Dt} (he : ∃ d ∈ l, d.x = x ∧ d.y = y) (hc : ∀ d ∈ l, d.x = x ∧ d.y = y → d.c = c) : lastF x y l = (c, true) := lastG_yes _ he hc
theorem cv_ext {w h : Int} {ts us : List TL} (hc : CvOk w h ts) (hd : CvOk w h us) (he : ∀ x y, onS w h x y = true → getC w ts x y = getC w us x y) : ts = us := by
  have hb := mayS_b hc.may
  have : sameF w h ts us = true := by
    unfold sameF allEq
    refine List.all_eq_true.2 fun y hy => ?_
    unfold rowEq
    refine List.all_eq_true.2 fun x hx => ?_
    have h1 := List.mem_range.1 hy
    have h2 := List.mem_range.1 hx
    exact decide_eq_true (he _ _ (onS_iff.2 ⟨by omega, by omega⟩))
  rw [sameF_iff hc hd] at this
  simpa using this
def tsRng (ts : List TL) : Prop := ∀ t ∈ ts, ∀ c ∈ t.l, c.rng
theorem tl_rng {t : TL} (h : ∀ c ∈ t.l, c.rng) (q : Nat) : (t.get q).rng := by
  unfold TL.get
  rw [List.getD_eq_getElem?_getD]
  by_cases hq : q < t.l.length
  · rw [List.getElem?_eq_getElem hq]; exact h _ (List.getElem_mem hq)
  · rw [List.getElem?_eq_none (by omega)]; exact zC4_rng
theorem getC_rng {ts : List TL} (h : tsRng ts) (w x y : Int) : (getC w ts x y).rng := by
  unfold getC
  refine tl_rng (fun c hc => ?_) _
  rw [List.getD_eq_getElem?_getD] at hc
  by_cases hp : plN w x y < ts.length
  · rw [List.getElem?_eq_getElem hp] at hc; exact h _ (List.getElem_mem hp) c hc
  · rw [List.getElem?_eq_none (by omega)] at hc
    have : c ∈ zT.l := hc
    rw [show c = zC4 from List.eq_of_mem_replicate this]
    exact zC4_rng
def cmC (k : Bool) (u c : C4) : C4 := if k = true then overC u c else c
def dtK (k : Bool) (w : Int) (ts : List TL) (c : C4) (p : P2) : Dt := ⟨p.x, p.y, cmC k (getC w ts p.x p.y) c⟩
def mpK (k : Bool) (w : Int) (ts : List TL) (c : C4) (P : List P2) : List (P2 × C4) := P.map fun p => (p, cmC k (getC w ts p.x p.y) c)
theorem mpK_add (k : Bool) (w : Int) (ts : List TL) (c : C4) (P : List P2) (p : P2) : mpK k w ts c P ++ [(p, cmC k (getC w ts p.x p.y) c)] = mpK k w ts c (P ++ [p]) := by unfold mpK; rw [List.map_append]; rfl
theorem mpK_keys (k : Bool) (w : Int) (ts : List TL) (c : C4) (P : List P2) : (mpK k w ts c P).map (·.1) = P := by unfold mpK; rw [List.map_map]; exact List.map_id' _
theorem mpK_len (k : Bool) (w : Int) (ts : List TL) (c : C4) (P : List P2) : (mpK k w ts c P).length = P.length := by unfold mpK; simp
def lowS (H : Int) (l : List Sp) : List Sp := l.filter fun s => decide (s.y < H)
def lowB (H : Int) (l : List Sp) : Bool := l.all fun s => decide (s.y < H)
theorem lowS_all {H : Int} {l : List Sp} (h : lowB H l = true) : lowS H l = l := List.filter_eq_self.2 fun s hs => List.all_eq_true.1 h s hs
theorem lowB_add {H : Int} {l : List Sp} {i : Nat} (hi : i < l.length) (h : lowB H (l.take i) = true) (hg : l[i].y < H) : lowB H (l.take (i + 1)) = true := by
  unfold lowB at *
  rw [List.take_succ_eq_append_getElem hi, List.all_append, h]
  simpa using hg
theorem lowB_no {H : Int} {l : List Sp} {i : Nat} (hi : i < l.length) (hg : ¬ l[i].y < H) : lowB H l = false := List.all_eq_false.2 ⟨_, List.getElem_mem hi, by simpa using hg⟩
theorem lowS_stop {H : Int} {l : List Sp} (hc : chkS l) {i : Nat} (hi : i < l.length) (h : lowB H (l.take i) = true) (hg : ¬ l[i].y < H) : lowS H l = l.take i := by
  have e : l = l.take i ++ l.drop i := (List.take_append_drop i l).symm
  have h2 : lowS H (l.drop i) = [] := List.filter_eq_nil_iff.2 fun s hs => by
    obtain ⟨j, hj, rfl⟩ := List.getElem_of_mem hs
    rw [List.length_drop] at hj
    rw [List.getElem_drop]
    by_cases e : j = 0
    · subst e; simpa using hg
    · have h3 := List.pairwise_iff_getElem.1 hc.2 i (i + j) hi (by omega) (by omega)
      unfold apS at h3
      simp
      omega
  have h1 := lowS_all h
  unfold lowS at *
  rw [e, List.filter_append, h2, List.append_nil]
  rw [← e]
  exact h1
theorem lowS_mem {H : Int} {l : List Sp} {p : P2} : p ∈ ptsS (lowS H l) ↔ p ∈ ptsS l ∧ p.y < H := by
  rw [ptsS_mem, ptsS_mem]
  unfold hasS lowS
  constructor
  · rintro ⟨s, hs, h⟩
    obtain ⟨h1, h2⟩ := List.mem_filter.1 hs
    have h3 : s.y < H := by simpa using h2
    have h4 := h.1
    exact ⟨⟨s, h1, h⟩, by omega⟩
  · rintro ⟨⟨s, hs, h⟩, h2⟩
    have h4 := h.1
    exact ⟨s, List.mem_filter.2 ⟨hs, by simp; omega⟩, h⟩
theorem fresh {P Q : List P2} {q : P2} {k : Nat} (h : (P ++ Q).Nodup) (hk : k < Q.length) (hq : Q[k] = q) : q ∉ P ++ Q.take k := fun hm => by
  subst hq
  obtain ⟨h1, h2, h3⟩ := List.nodup_append.1 h
  rcases List.mem_append.1 hm with hm | hm
  · exact h3 _ hm _ (List.getElem_mem hk) rfl
  · obtain ⟨j, hj, e⟩ := List.mem_take_iff_getElem.1 hm
    have := (List.getElem_inj h2 (h₀ := by omega) (h₁ := hk)).1 e
    omega
theorem puts_tell {w h : Int} {ts : List TL} (hc : CvOk w h ts) {f : P2 → C4} {l : List Dt} (hl : ∀ d ∈ l, d.c = f ⟨d.x, d.y⟩) {x y : Int} (ho : onS w h x y = true) : getC w (putsC w h ts l) x y = if ∃ d ∈ l, d.x = x ∧ d.y = y then f ⟨x, y⟩ else getC w ts x y := by
  rw [getC_puts hc ho]
  by_cases e : ∃ d ∈ l, d.x = x ∧ d.y = y
  · rw [if_pos e, lastF_yes (c := f ⟨x, y⟩) e fun d hd e => by rw [hl d hd, e.1, e.2], if_pos rfl]
  · rw [if_neg e, lastF_no fun d hd g => e ⟨d, hd, g⟩]
    rfl
theorem puts_ext {w h : Int} {ts : List TL} (hc : CvOk w h ts) {f : P2 → C4} {l r : List Dt} (hl : ∀ d ∈ l, d.c = f ⟨d.x, d.y⟩) (hr : ∀ d ∈ r, d.c = f ⟨d.x, d.y⟩) (he : ∀ x y, onS w h x y = true → ((∃ d ∈ l, d.x = x ∧ d.y = y) ↔ ∃ d ∈ r, d.x = x ∧ d.y = y)) : putsC w h ts l = putsC w h ts r :=
  cv_ext (hc.puts l) (hc.puts r) fun x y ho => by
    rw [puts_tell hc hl ho, puts_tell hc hr ho]
    have this := he x y ho
    by_cases e : ∃ d ∈ l, d.x = x ∧ d.y = y
    · rw [if_pos e, if_pos (this.1 e)]
    · rw [if_neg e, if_neg fun g => e (this.2 g)]
theorem ptsS_nd {l : List Sp} (hl : chkS l) (i : Nat) : (ptsS (l.take i)).Nodup := ptsS_nodup ⟨fun s hs => hl.ok.1 s (List.mem_of_mem_take hs), hl.ok.2.sublist (List.take_sublist ..)⟩
theorem mpK_get {k : Bool} {w : Int} {ts : List TL} {c : C4} {P : List P2} {p : Nat} {q : P2} {e : C4} (h : (mpK k w ts c P)[p]? = some (q, e)) : P[p]? = some q ∧ e = cmC k (getC w ts q.x q.y) c := by
  unfold mpK at h
  rw [List.getElem?_map] at h
  cases h1 : P[p]? with
  | none => rw [h1] at h; cases h
  | some a => rw [h1] at h; cases h; exact ⟨rfl, rfl⟩
def drwC (k : Bool) (w h : Int) (ts : List TL) (c : C4) (l : List Sp) : List TL := putsC w h ts ((ptsS l).map (dtK k w ts c))
theorem dtK_tell (k : Bool) (w : Int) (ts : List TL) (c : C4) (P : List P2) : ∀ d ∈ P.map (dtK k w ts c), d.c = (fun p : P2 => cmC k (getC w ts p.x p.y) c) ⟨d.x, d.y⟩ := fun d hd => by
  obtain ⟨p, _, rfl⟩ := List.mem_map.1 hd
  rfl
theorem dtK_at {k : Bool} {w : Int} {ts : List TL} {c : C4} {P : List P2} {x y : Int} : (∃ d ∈ P.map (dtK k w ts c), d.x = x ∧ d.y = y) ↔ (⟨x, y⟩ : P2) ∈ P := by
  constructor
  · rintro ⟨d, hd, h1, h2⟩
    obtain ⟨p, hp, rfl⟩ := List.mem_map.1 hd
    obtain ⟨a, b⟩ := p
    change a = x at h1
    change b = y at h2
    subst h1 h2
    exact hp
  · exact fun h => ⟨_, List.mem_map.2 ⟨_, h, rfl⟩, rfl, rfl⟩
def dlN (k : Bool) (w : Int) (ts : List TL) (c : C4) (P : List P2) (sn : List Nat) : List Dt := sn.map fun p => dtK k w ts c (P.getD p zP2)
theorem dlN_add {k : Bool} {w : Int} {ts : List TL} {c : C4} {P : List P2} {sn : List Nat} {p : Nat} {q : P2} (h : P[p]? = some q) : dlN k w ts c P (sn ++ [p]) = dlN k w ts c P sn ++ [dtK k w ts c q] := by
  unfold dlN
  rw [List.map_append, List.map_cons, List.map_nil, List.getD_eq_getElem?_getD, h]
  rfl
theorem dlN_len (k : Bool) (w : Int) (ts : List TL) (c : C4) (P : List P2) (sn : List Nat) : (dlN k w ts c P sn).length = sn.length := by unfold dlN; simp
theorem dlN_puts {k : Bool} {w h : Int} {ts : List TL} (hc : CvOk w h ts) (c : C4) {l L : List Sp} (hL : ∀ x y, onS w h x y = true → ((⟨x, y⟩ : P2) ∈ ptsS L ↔ (⟨x, y⟩ : P2) ∈ ptsS l)) {sn : List Nat} (hlt : ∀ p ∈ sn, p < (ptsS L).length) (hall : ∀ p, p < (ptsS L).length → p ∈ sn) : putsC w h ts (dlN k w ts c (ptsS L) sn) = drwC k w h ts c l := by
  have e : dlN k w ts c (ptsS L) sn = (sn.map fun p => (ptsS L).getD p zP2).map (dtK k w ts c) := by unfold dlN; rw [List.map_map]; rfl
  unfold drwC
  rw [e]
  refine puts_ext hc (f := fun p : P2 => cmC k (getC w ts p.x p.y) c) (fun d hd => dtK_tell k w ts c _ d hd) (fun d hd => dtK_tell k w ts c _ d hd) fun x y ho => ?_
  rw [dtK_at, dtK_at, ← hL x y ho, List.mem_map]
  constructor
  · rintro ⟨p, hp, e⟩
    rw [List.getD_eq_getElem?_getD, List.getElem?_eq_getElem (hlt p hp)] at e
    exact e ▸ List.getElem_mem _
  · intro hm
    obtain ⟨j, hj, e⟩ := List.getElem_of_mem hm
    exact ⟨j, hall j hj, by rw [List.getD_eq_getElem?_getD, List.getElem?_eq_getElem hj]; exact e⟩
theorem low_len {H : Int} {l : List Sp} (hl : chkS l) (hn : l.length ≤ 1000000) : (ptsS (lowS H l)).length ≤ 600000000 := by
  have h1 : ((lowS H l).map Sp.wd).sum ≤ (l.map Sp.wd).sum := by
    unfold lowS
    induction l with
    | nil => exact Nat.le_refl _
    | cons a l ih =>
      have := ih ⟨fun s hs => hl.1 s (List.mem_cons_of_mem _ hs), (List.pairwise_cons.1 hl.2).2⟩ (by simp at hn; omega)
      rw [List.filter_cons]
      split
      · simp only [List.map_cons, List.sum_cons]; omega
      · simp only [List.map_cons, List.sum_cons]; omega
  have h2 := cnt_le hl l.length
  rw [List.take_length] at h2
  rw [ptsS_len]
  unfold cntS at *
  omega
theorem clip_chk {c : Bx} {l : List Sp} (h : chkS l) : chkS (clipS c l) := by
  have hk := clip_ok (c := c) h.ok
  refine ⟨fun s hs => ⟨?_, hk.1 s hs⟩, hk.2⟩
  obtain ⟨h1, h2⟩ := List.mem_filter.1 hs
  obtain ⟨r, hr, rfl⟩ := List.mem_map.1 h1
  have h3 := h.1 r hr
  have h4 := hk.1 _ hs
  unfold rchS at *
  unfold Sp.clip at *
  simp only at *
  omega
def eqP2 (a b : P2) : Bool := (a.x == b.x) && ((a.y == b.y) && true)
theorem eqP2_iff {a b : P2} : eqP2 a b = decide (a = b) := by
  obtain ⟨x, y⟩ := a
  obtain ⟨x', y'⟩ := b
  rw [Bool.eq_iff_iff]
  simp [eqP2]
theorem keyP : KeyT Tryz.prog 51 p2 where
  row := ⟨_, Tryz.underlying51, rfl⟩
  eq a b w := by
    have e : eqT Tryz.prog 9 51 (p2 a) (p2 b) = some (eqP2 a b) := by kernel_rfl
    have := eqT_run (P := Tryz.prog) 9 9991 51 _ _ _ w e
    rw [row_val tb51, row_val tb51, eqP2_iff] at this
    exact this
  chk b a w := by kernel_rfl
  bits a := by simp [Instr.sameBits, p2]
set_option maxRecDepth 4000 in
set_option maxHeartbeats 1000000 in
theorem dtold_no : DFun Tryz.prog 47 [.val .nilIface] [] (.val (.int .i64 0)) [] := by
  refine zam (N := 13) 0 (by kernel_rfl) Tryz.func47 rfl rfl rfl (by simp only [fr0, Nat.zero_add, Nat.reduceAdd]; exact rfl) rfl fun s0 hs0 => ?_
  refine zaf ?_
  refine zad ?_
  refine zab rfl rfl rfl (zac (.inr rfl) (ev1 rfl)) ?_
  refine zae ?_
  refine zaf ?_
  refine zaf ?_
  refine zah 1 (by simp only [holes, List.cons_append, List.nil_append]; exact rfl) ?_
  refine zad ?_
  refine zab rfl rfl rfl (zac (.inl rfl) (ev1 rfl)) ?_
  refine zab rfl rfl rfl (op_tan rfl ni122 zv122 (ev1 rfl)) ?_
  refine zab rfl rfl rfl (zac (.inl rfl) (ev1 rfl)) ?_
  refine zab rfl rfl rfl (op_ext rfl (ev1 rfl) rfl) ?_
  refine zab rfl rfl rfl (op_ext rfl (ev1 rfl) rfl) ?_
  refine zak rfl rfl rfl (op_alloc 0 rfl zr122 rfl) (by simp only [upd, zaa, za]; exact rfl) ?_
  refine walk_s rfl rfl (op_stwa rfl tb122 (ev1 rfl) (ev1 rfl) rfl rfl rfl rfl) (by simp only [upd, zaa, za]; exact rfl) ?_
  refine zab rfl rfl rfl (zac (.inr rfl) (ev1 rfl)) ?_
  refine zae ?_
  refine zaf ?_
  refine zad ?_
  refine zab rfl rfl rfl (zac (.inl rfl) (ev1 rfl)) ?_
  refine zae ?_
  refine dwp_if_f rfl (rfl) ?_
  refine dwp_skip ?_
  refine zaf ?_
  refine zad ?_
  refine zab rfl rfl rfl (zac (.inr rfl) (ev1 rfl)) ?_
  refine zae ?_
  refine dwp_ret ?_
  refine kend0 (rs1 rfl (rv_t rfl)) rfl ?_
  rfl
set_option maxRecDepth 4000 in
set_option maxHeartbeats 1000000 in
theorem dtold_w (n : Int) : DFun Tryz.prog 47 [.ifc 122 (.val (.agg #[.int .i64 n]))] [] (.val (.int .i64 n)) [] := by
  refine zam (N := 13) 0 (by kernel_rfl) Tryz.func47 rfl rfl rfl (by simp only [fr0, Nat.zero_add, Nat.reduceAdd]; exact rfl) rfl fun s0 hs0 => ?_
  refine zaf ?_
  refine zad ?_
  refine zab rfl rfl rfl (zac (.inr rfl) (ev1 rfl)) ?_
  refine zae ?_
  refine zaf ?_
  refine zaf ?_
  refine zah 1 (by simp only [holes, List.cons_append, List.nil_append]; exact rfl) ?_
  refine zad ?_
  refine zab rfl rfl rfl (zac (.inl rfl) (ev1 rfl)) ?_
  refine zab rfl rfl rfl (op_tay rfl ni122 (ev1 rfl)) ?_
  refine zab rfl rfl rfl (zac (.inl rfl) (ev1 rfl)) ?_
  refine zab rfl rfl rfl (op_ext rfl (ev1 rfl) rfl) ?_
  refine zab rfl rfl rfl (op_ext rfl (ev1 rfl) rfl) ?_
  refine zak rfl rfl rfl (op_alloc 0 rfl zr122 rfl) (by simp only [upd, zaa, za]; exact rfl) ?_
  refine walk_s rfl rfl (op_stwa rfl tb122 (ev1 rfl) (ev1 rfl) rfl rfl rfl rfl) (by simp only [upd, zaa, za]; exact rfl) ?_
  refine zab rfl rfl rfl (zac (.inr rfl) (ev1 rfl)) ?_
  refine zae ?_
  refine zaf ?_
  refine zad ?_
  refine zab rfl rfl rfl (zac (.inl rfl) (ev1 rfl)) ?_
  refine zae ?_
  refine dwp_if_t rfl (rfl) ?_
  refine zaf ?_
  refine zad ?_
  refine zab rfl rfl rfl (op_fa rfl fo122_0 (ev1 rfl)) ?_
  refine zab rfl rfl rfl (zal rfl tb34 (ev1 rfl) rfl rfl) ?_
  refine zab rfl rfl rfl (zac (.inr rfl) (ev1 rfl)) ?_
  refine zae ?_
  refine dwp_ret ?_
  refine kend0 (rs1 rfl (rv_t rfl)) rfl ?_
  rfl
set_option maxRecDepth 4000 in
set_option maxHeartbeats 1000000 in
theorem dpaint1_caught (e n : Int) : DDef Tryz.prog 46 [.loc 0 0] [.flat 34 [.int .i64 e]] (some (.ifc 122 (.val (.agg #[.int .i64 n])))) none [.flat 34 [.int .i64 n]] := by
  refine ddef_go1 (dr := .tup []) (t := 1) (N := 3) 1 (by kernel_rfl) Tryz.func46 rfl rfl rfl (by simp only [fr0, Nat.zero_add, Nat.reduceAdd]; exact rfl) rfl rfl rfl rfl rfl fun s0 hs0 => ?_
  refine zab rfl rfl rfl (zai [] [] [] rfl (ev1 rfl) (ec (ev1 rfl) en) rfl rfl (dtold_w n) rfl rfl rfl rfl rfl rfl) ?_
  refine walk_s rfl rfl (op_stwi rfl tb34 (ev1 rfl) (ev1 rfl) rfl) (by simp only [upd, zaa, za]; exact rfl) ?_
  refine zae ?_
  refine kend [0] (res_none rfl) rfl rfl ?_ ⟨rfl, trivial⟩
  rfl
set_option maxRecDepth 4000 in
set_option maxHeartbeats 1000000 in
theorem dstroke1_caught (e n : Int) : DDef Tryz.prog 63 [.loc 0 0] [.flat 34 [.int .i64 e]] (some (.ifc 122 (.val (.agg #[.int .i64 n])))) none [.flat 34 [.int .i64 n]] := by
  refine ddef_go1 (dr := .tup []) (t := 1) (N := 3) 1 (by kernel_rfl) Tryz.func63 rfl rfl rfl (by simp only [fr0, Nat.zero_add, Nat.reduceAdd]; exact rfl) rfl rfl rfl rfl rfl fun s0 hs0 => ?_
  refine zab rfl rfl rfl (zai [] [] [] rfl (ev1 rfl) (ec (ev1 rfl) en) rfl rfl (dtold_w n) rfl rfl rfl rfl rfl rfl) ?_
  refine walk_s rfl rfl (op_stwi rfl tb34 (ev1 rfl) (ev1 rfl) rfl) (by simp only [upd, zaa, za]; exact rfl) ?_
  refine zae ?_
  refine kend [0] (res_none rfl) rfl rfl ?_ ⟨rfl, trivial⟩
  rfl
set_option maxRecDepth 4000 in
set_option maxHeartbeats 1000000 in
theorem dline1_idle (e : Int) : DDef Tryz.prog 67 [.loc 0 0] [.flat 34 [.int .i64 e]] none none [.flat 34 [.int .i64 0]] := by
  refine ddef_go1 (dr := .tup []) (t := 1) (N := 3) 1 (by kernel_rfl) Tryz.func67 rfl rfl rfl (by simp only [fr0, Nat.zero_add, Nat.reduceAdd]; exact rfl) rfl rfl rfl rfl rfl fun s0 hs0 => ?_
  refine zab rfl rfl rfl (zai [] [] [] rfl (ev1 rfl) (ec (ev1 rfl) en) rfl rfl (dtold_no) rfl rfl rfl rfl rfl rfl) ?_
  refine walk_s rfl rfl (op_stwi rfl tb34 (ev1 rfl) (ev1 rfl) rfl) (by simp only [upd, zaa, za]; exact rfl) ?_
  refine zae ?_
  refine kend [0] (res_none rfl) rfl rfl ?_ ⟨rfl, trivial⟩
  rfl
set_option maxRecDepth 4000 in
set_option maxHeartbeats 1000000 in
theorem drect1_idle (e : Int) : DDef Tryz.prog 70 [.loc 0 0] [.flat 34 [.int .i64 e]] none none [.flat 34 [.int .i64 0]] := by
  refine ddef_go1 (dr := .tup []) (t := 1) (N := 3) 1 (by kernel_rfl) Tryz.func70 rfl rfl rfl (by simp only [fr0, Nat.zero_add, Nat.reduceAdd]; exact rfl) rfl rfl rfl rfl rfl fun s0 hs0 => ?_
  refine zab rfl rfl rfl (zai [] [] [] rfl (ev1 rfl) (ec (ev1 rfl) en) rfl rfl (dtold_no) rfl rfl rfl rfl rfl rfl) ?_
  refine walk_s rfl rfl (op_stwi rfl tb34 (ev1 rfl) (ev1 rfl) rfl) (by simp only [upd, zaa, za]; exact rfl) ?_
  refine zae ?_
  refine kend [0] (res_none rfl) rfl rfl ?_ ⟨rfl, trivial⟩
  rfl
set_option maxRecDepth 4000 in
set_option maxHeartbeats 1000000 in
theorem drect1_caught (e n : Int) : DDef Tryz.prog 70 [.loc 0 0] [.flat 34 [.int .i64 e]] (some (.ifc 122 (.val (.agg #[.int .i64 n])))) none [.flat 34 [.int .i64 n]] := by
  refine ddef_go1 (dr := .tup []) (t := 1) (N := 3) 1 (by kernel_rfl) Tryz.func70 rfl rfl rfl (by simp only [fr0, Nat.zero_add, Nat.reduceAdd]; exact rfl) rfl rfl rfl rfl rfl fun s0 hs0 => ?_
  refine zab rfl rfl rfl (zai [] [] [] rfl (ev1 rfl) (ec (ev1 rfl) en) rfl rfl (dtold_w n) rfl rfl rfl rfl rfl rfl) ?_
  refine walk_s rfl rfl (op_stwi rfl tb34 (ev1 rfl) (ev1 rfl) rfl) (by simp only [upd, zaa, za]; exact rfl) ?_
  refine zae ?_
  refine kend [0] (res_none rfl) rfl rfl ?_ ⟨rfl, trivial⟩
  rfl
set_option maxRecDepth 4000 in
set_option maxHeartbeats 1000000 in
theorem dframe1_idle (e : Int) : DDef Tryz.prog 72 [.loc 0 0] [.flat 34 [.int .i64 e]] none none [.flat 34 [.int .i64 0]] := by
  refine ddef_go1 (dr := .tup []) (t := 1) (N := 3) 1 (by kernel_rfl) Tryz.func72 rfl rfl rfl (by simp only [fr0, Nat.zero_add, Nat.reduceAdd]; exact rfl) rfl rfl rfl rfl rfl fun s0 hs0 => ?_
  refine zab rfl rfl rfl (zai [] [] [] rfl (ev1 rfl) (ec (ev1 rfl) en) rfl rfl (dtold_no) rfl rfl rfl rfl rfl rfl) ?_
  refine walk_s rfl rfl (op_stwi rfl tb34 (ev1 rfl) (ev1 rfl) rfl) (by simp only [upd, zaa, za]; exact rfl) ?_
  refine zae ?_
  refine kend [0] (res_none rfl) rfl rfl ?_ ⟨rfl, trivial⟩
  rfl
set_option maxRecDepth 4000 in
set_option maxHeartbeats 1000000 in
theorem dframe1_caught (e n : Int) : DDef Tryz.prog 72 [.loc 0 0] [.flat 34 [.int .i64 e]] (some (.ifc 122 (.val (.agg #[.int .i64 n])))) none [.flat 34 [.int .i64 n]] := by
  refine ddef_go1 (dr := .tup []) (t := 1) (N := 3) 1 (by kernel_rfl) Tryz.func72 rfl rfl rfl (by simp only [fr0, Nat.zero_add, Nat.reduceAdd]; exact rfl) rfl rfl rfl rfl rfl fun s0 hs0 => ?_
  refine zab rfl rfl rfl (zai [] [] [] rfl (ev1 rfl) (ec (ev1 rfl) en) rfl rfl (dtold_w n) rfl rfl rfl rfl rfl rfl) ?_
  refine walk_s rfl rfl (op_stwi rfl tb34 (ev1 rfl) (ev1 rfl) rfl) (by simp only [upd, zaa, za]; exact rfl) ?_
  refine zae ?_
  refine kend [0] (res_none rfl) rfl rfl ?_ ⟨rfl, trivial⟩
  rfl
set_option maxRecDepth 4000 in
set_option maxHeartbeats 1000000 in
theorem dveil1_idle (e : Int) : DDef Tryz.prog 74 [.loc 0 0] [.flat 34 [.int .i64 e]] none none [.flat 34 [.int .i64 0]] := by
  refine ddef_go1 (dr := .tup []) (t := 1) (N := 3) 1 (by kernel_rfl) Tryz.func74 rfl rfl rfl (by simp only [fr0, Nat.zero_add, Nat.reduceAdd]; exact rfl) rfl rfl rfl rfl rfl fun s0 hs0 => ?_
  refine zab rfl rfl rfl (zai [] [] [] rfl (ev1 rfl) (ec (ev1 rfl) en) rfl rfl (dtold_no) rfl rfl rfl rfl rfl rfl) ?_
  refine walk_s rfl rfl (op_stwi rfl tb34 (ev1 rfl) (ev1 rfl) rfl) (by simp only [upd, zaa, za]; exact rfl) ?_
  refine zae ?_
  refine kend [0] (res_none rfl) rfl rfl ?_ ⟨rfl, trivial⟩
  rfl
set_option maxRecDepth 4000 in
set_option maxHeartbeats 1000000 in
theorem dveil1_caught (e n : Int) : DDef Tryz.prog 74 [.loc 0 0] [.flat 34 [.int .i64 e]] (some (.ifc 122 (.val (.agg #[.int .i64 n])))) none [.flat 34 [.int .i64 n]] := by
  refine ddef_go1 (dr := .tup []) (t := 1) (N := 3) 1 (by kernel_rfl) Tryz.func74 rfl rfl rfl (by simp only [fr0, Nat.zero_add, Nat.reduceAdd]; exact rfl) rfl rfl rfl rfl rfl fun s0 hs0 => ?_
  refine zab rfl rfl rfl (zai [] [] [] rfl (ev1 rfl) (ec (ev1 rfl) en) rfl rfl (dtold_w n) rfl rfl rfl rfl rfl rfl) ?_
  refine walk_s rfl rfl (op_stwi rfl tb34 (ev1 rfl) (ev1 rfl) rfl) (by simp only [upd, zaa, za]; exact rfl) ?_
  refine zae ?_
  refine kend [0] (res_none rfl) rfl rfl ?_ ⟨rfl, trivial⟩
  rfl
set_option maxRecDepth 4000 in
set_option maxHeartbeats 1000000 in
theorem mustS_d (l : List Sp) : DFun Tryz.prog 64 [.slf 3 l.length (l.flatMap s3), .val (.int .i64 0)] [] (.slf 3 l.length (l.flatMap s3)) [] := by
  refine zam (N := 11) 0 (by kernel_rfl) Tryz.func64 rfl rfl rfl (by simp only [fr0, Nat.zero_add, Nat.reduceAdd]; exact rfl) rfl fun s0 hs0 => ?_
  refine dwp_len (t := 0) rfl fun hl0 hL0 => ?_
  refine zaf ?_
  refine zad ?_
  refine zab rfl rfl rfl (zac (.inr rfl) (ev1 rfl)) ?_
  refine zae ?_
  refine zaf ?_
  refine zaf ?_
  refine zad ?_
  refine zab rfl rfl rfl (zac (.inl rfl) (ev1 rfl)) ?_
  refine zab rfl rfl rfl (op_neq rfl (ev1 rfl) (ev1 rfl)) ?_
  refine zae ?_
  refine dwp_if_f rfl (rfl) ?_
  refine dwp_skip ?_
  refine zaf ?_
  refine zad ?_
  refine zab rfl rfl rfl (zac (.inl rfl) (ev1 rfl)) ?_
  refine zab rfl rfl rfl (zac (.inr rfl) (ev1 rfl)) ?_
  refine zae ?_
  refine dwp_ret ?_
  refine kend0 (rs1 rfl (rv_t rfl)) rfl ?_
  rfl
set_option maxRecDepth 4000 in
set_option maxHeartbeats 1000000 in
theorem mustP_d (l : List P2) : DFun Tryz.prog 68 [.slf 2 l.length (l.flatMap p2), .val (.int .i64 0)] [] (.slf 2 l.length (l.flatMap p2)) [] := by
  refine zam (N := 11) 0 (by kernel_rfl) Tryz.func68 rfl rfl rfl (by simp only [fr0, Nat.zero_add, Nat.reduceAdd]; exact rfl) rfl fun s0 hs0 => ?_
  refine dwp_len (t := 0) rfl fun hl0 hL0 => ?_
  refine zaf ?_
  refine zad ?_
  refine zab rfl rfl rfl (zac (.inr rfl) (ev1 rfl)) ?_
  refine zae ?_
  refine zaf ?_
  refine zaf ?_
  refine zad ?_
  refine zab rfl rfl rfl (zac (.inl rfl) (ev1 rfl)) ?_
  refine zab rfl rfl rfl (op_neq rfl (ev1 rfl) (ev1 rfl)) ?_
  refine zae ?_
  refine dwp_if_f rfl (rfl) ?_
  refine dwp_skip ?_
  refine zaf ?_
  refine zad ?_
  refine zab rfl rfl rfl (zac (.inl rfl) (ev1 rfl)) ?_
  refine zab rfl rfl rfl (zac (.inr rfl) (ev1 rfl)) ?_
  refine zae ?_
  refine dwp_ret ?_
  refine kend0 (rs1 rfl (rv_t rfl)) rfl ?_
  rfl
set_option maxRecDepth 4000 in
set_option maxHeartbeats 1000000 in
theorem mustS_p (l : List Sp) (n : Int) (hn : n ≠ 0) : DPan Tryz.prog 64 [.slf 3 l.length (l.flatMap s3), .val (.int .i64 n)] [] (.ifc 122 (.val (.agg #[.int .i64 n]))) [] := by
  refine zam (N := 11) 0 (by kernel_rfl) Tryz.func64 rfl rfl rfl (by simp only [fr0, Nat.zero_add, Nat.reduceAdd]; exact rfl) rfl fun s0 hs0 => ?_
  refine dwp_len (t := 0) rfl fun hl0 hL0 => ?_
  refine zaf ?_
  refine zad ?_
  refine zab rfl rfl rfl (zac (.inr rfl) (ev1 rfl)) ?_
  refine zae ?_
  refine zaf ?_
  refine zaf ?_
  refine zad ?_
  refine zab rfl rfl rfl (zac (.inl rfl) (ev1 rfl)) ?_
  refine zab rfl rfl rfl (op_neq rfl (ev1 rfl) (ev1 rfl)) ?_
  refine zae ?_
  refine dwp_if_t rfl (by simpa using hn) ?_
  refine zad ?_
  refine zab rfl rfl rfl (zac (.inl rfl) (ev1 rfl)) ?_
  refine zab rfl rfl rfl (op_build (ps := [(0, .tmp 7)]) rfl fl122 zr122 (vc (ev1 rfl) vn) rfl rfl) ?_
  refine zab rfl rfl rfl (op_mi rfl ni122 (ev1 rfl)) ?_
  refine walk_p rfl (op_pan rfl (ev1 rfl)) rfl ?_
  refine kpan0 rfl ?_
  rfl
set_option maxRecDepth 4000 in
set_option maxHeartbeats 1000000 in
theorem easel_d (w h : Int) (ds : List D) : DFun Tryz.prog 48 [cvD w h ds] [] (.agg [cvD w h ds]) [] := by
  refine zam (N := 9) 0 (by kernel_rfl) Tryz.func48 rfl rfl rfl (by simp only [fr0, Nat.zero_add, Nat.reduceAdd]; exact rfl) rfl fun s0 hs0 => ?_
  refine zaf ?_
  refine zah 1 (by simp only [holes, List.cons_append, List.nil_append]; exact rfl) ?_
  refine zad ?_
  refine zak rfl rfl rfl (op_alloc 0 rfl zr85 rfl) (by simp only [upd, zaa, za]; exact rfl) ?_
  refine zae ?_
  refine zaf ?_
  refine zaf ?_
  refine zad ?_
  refine zab rfl rfl rfl (zac (.inl rfl) (ev1 rfl)) ?_
  refine zab rfl rfl rfl (op_pnilm rfl pt33 (ev1 rfl)) ?_
  refine zae ?_
  refine dwp_if_f rfl (by simp) ?_
  refine dwp_skip ?_
  refine zaf ?_
  refine zad ?_
  refine zab rfl rfl rfl (zac (.inl rfl) (ev1 rfl)) ?_
  refine zab rfl rfl rfl (op_bldD (ps := [(0, .tmp 7)]) rfl fl85 zr85 (ec (ev1 rfl) en) rfl rfl rfl) ?_
  refine walk_s rfl rfl (op_stam2 rfl tb85 (ev1 rfl) (ev1 rfl) rfl rfl rfl rfl) (by simp only [upd, zaa, za]; exact rfl) ?_
  refine zae ?_
  refine dwp_ret ?_
  refine kend0 (rs1 rfl (rv_mw tb85 rfl rfl rfl)) rfl ?_
  rfl
set_option maxRecDepth 4000 in
set_option maxHeartbeats 1000000 in
theorem easel_p : DPan Tryz.prog 48 [.val (.pointer none)] [] (.ifc 122 (.val (.agg #[.int .i64 1]))) [] := by
  refine zam (N := 9) 0 (by kernel_rfl) Tryz.func48 rfl rfl rfl (by simp only [fr0, Nat.zero_add, Nat.reduceAdd]; exact rfl) rfl fun s0 hs0 => ?_
  refine zaf ?_
  refine zah 1 (by simp only [holes, List.cons_append, List.nil_append]; exact rfl) ?_
  refine zad ?_
  refine zak rfl rfl rfl (op_alloc 0 rfl zr85 rfl) (by simp only [upd, zaa, za]; exact rfl) ?_
  refine zae ?_
  refine zaf ?_
  refine zaf ?_
  refine zad ?_
  refine zab rfl rfl rfl (zac (.inl rfl) (ev1 rfl)) ?_
  refine zab rfl rfl rfl (op_pnil0 rfl pt33 (ev1 rfl)) ?_
  refine zae ?_
  refine dwp_if_t rfl (rfl) ?_
  refine zad ?_
  refine zab rfl rfl rfl (op_build (ps := [(0, .const (.int .i64 1))]) rfl fl122 zr122 (vc (ev1 rfl) vn) rfl rfl) ?_
  refine zab rfl rfl rfl (op_mi rfl ni122 (ev1 rfl)) ?_
  refine walk_p rfl (op_pan rfl (ev1 rfl)) rfl ?_
  refine kpan0 rfl ?_
  rfl
set_option maxRecDepth 4000 in
set_option maxHeartbeats 1000000 in
theorem paints_d (cc : C4) : DFun Tryz.prog 50 [.val (.agg (c4 cc).toArray)] [] (.fn (.func 86) [] [.loc 0 0]) [.flat 27 (c4 cc)] := by
  refine zam (N := 4) 0 (by kernel_rfl) Tryz.func50 rfl rfl rfl (by simp only [fr0, Nat.zero_add, Nat.reduceAdd]; exact rfl) rfl fun s0 hs0 => ?_
  refine zaf ?_
  refine zah 1 (by simp only [holes, List.cons_append, List.nil_append]; exact rfl) ?_
  refine zad ?_
  refine zak rfl rfl rfl (op_boxa 0 rfl (ev1 rfl) rfl) (by simp only [upd, zaa, za]; exact rfl) ?_
  refine zab rfl rfl rfl (zac (.inr rfl) (ev1 rfl)) ?_
  refine zae ?_
  refine zaf ?_
  refine zad ?_
  refine zab rfl rfl rfl (op_mkf rfl en (ec (ev1 rfl) en)) ?_
  refine zab rfl rfl rfl (zac (.inr rfl) (ev1 rfl)) ?_
  refine zae ?_
  refine dwp_ret ?_
  refine kend [0] (rs1 rfl (rv_t rfl)) rfl rfl ?_ ⟨rfl, trivial⟩
  rfl
set_option maxRecDepth 4000 in
set_option maxHeartbeats 1000000 in
theorem washes_d (cc : C4) : DFun Tryz.prog 52 [.val (.agg (c4 cc).toArray)] [] (.fn (.func 87) [] [.loc 0 0]) [.flat 27 (c4 cc)] := by
  refine zam (N := 4) 0 (by kernel_rfl) Tryz.func52 rfl rfl rfl (by simp only [fr0, Nat.zero_add, Nat.reduceAdd]; exact rfl) rfl fun s0 hs0 => ?_
  refine zaf ?_
  refine zah 1 (by simp only [holes, List.cons_append, List.nil_append]; exact rfl) ?_
  refine zad ?_
  refine zak rfl rfl rfl (op_boxa 0 rfl (ev1 rfl) rfl) (by simp only [upd, zaa, za]; exact rfl) ?_
  refine zab rfl rfl rfl (zac (.inr rfl) (ev1 rfl)) ?_
  refine zae ?_
  refine zaf ?_
  refine zad ?_
  refine zab rfl rfl rfl (op_mkf rfl en (ec (ev1 rfl) en)) ?_
  refine zab rfl rfl rfl (zac (.inr rfl) (ev1 rfl)) ?_
  refine zae ?_
  refine dwp_ret ?_
  refine kend [0] (rs1 rfl (rv_t rfl)) rfl rfl ?_ ⟨rfl, trivial⟩
  rfl
set_option maxRecDepth 4000 in
set_option maxHeartbeats 1000000 in
theorem come_p (cc u : C4) : DFun Tryz.prog 86 [.val (.agg (c4 u).toArray), .loc 0 0] [.flat 27 (c4 cc)] (.val (.agg (c4 cc).toArray)) [.flat 27 (c4 cc)] := by
  refine zam (N := 5) 1 (by kernel_rfl) Tryz.func86 rfl rfl rfl (by simp only [fr0, Nat.zero_add, Nat.reduceAdd]; exact rfl) rfl fun s0 hs0 => ?_
  refine zaf ?_
  refine zah 2 (by simp only [holes, List.cons_append, List.nil_append]; exact rfl) ?_
  refine zad ?_
  refine zak rfl rfl rfl (op_boxa 1 rfl (ev1 rfl) rfl) (by simp only [upd, zaa, za]; exact rfl) ?_
  refine zak rfl rfl rfl (op_alloc 2 rfl zr27 rfl) (by simp only [upd, zaa, za]; exact rfl) ?_
  refine zae ?_
  refine zaf ?_
  refine zad ?_
  refine zab rfl rfl rfl (op_ldw rfl tb27 (ev1 rfl) rfl rfl) ?_
  refine walk_s rfl rfl (op_stwa rfl tb27 (ev1 rfl) (ev1 rfl) rfl rfl rfl rfl) (by simp only [upd, zaa, za]; exact rfl) ?_
  refine zae ?_
  refine dwp_ret ?_
  refine kend [0] (rs1 rfl (rv_w tb27 rfl rfl rfl)) rfl rfl ?_ ⟨rfl, trivial⟩
  rfl
set_option maxRecDepth 4000 in
set_option maxHeartbeats 1000000 in
theorem come_w (cc u : C4) (hu : u.rng) (hc : cc.rng) : DFun Tryz.prog 87 [.val (.agg (c4 u).toArray), .loc 0 0] [.flat 27 (c4 cc)] (.val (.agg (c4 (overC u cc)).toArray)) [.flat 27 (c4 cc)] := by
  refine zam (N := 7) 1 (by kernel_rfl) Tryz.func87 rfl rfl rfl (by simp only [fr0, Nat.zero_add, Nat.reduceAdd]; exact rfl) rfl fun s0 hs0 => ?_
  refine zaf ?_
  refine zah 2 (by simp only [holes, List.cons_append, List.nil_append]; exact rfl) ?_
  refine zad ?_
  refine zak rfl rfl rfl (op_boxa 1 rfl (ev1 rfl) rfl) (by simp only [upd, zaa, za]; exact rfl) ?_
  refine zak rfl rfl rfl (op_alloc 2 rfl zr27 rfl) (by simp only [upd, zaa, za]; exact rfl) ?_
  refine zae ?_
  refine zaf ?_
  refine zad ?_
  refine zab rfl rfl rfl (op_ldw rfl tb27 (ev1 rfl) rfl rfl) ?_
  refine zab rfl rfl rfl (op_ldw rfl tb27 (ev1 rfl) rfl rfl) ?_
  refine zab rfl rfl rfl (zai [] [] [] rfl (ev1 rfl) (ec (ev1 rfl) (ec (ev1 rfl) en)) rfl rfl (over_d u cc hu hc) rfl rfl rfl rfl rfl rfl) ?_
  refine walk_s rfl rfl (op_stwa rfl tb27 (ev1 rfl) (ev1 rfl) rfl rfl rfl rfl) (by simp only [upd, zaa, za]; exact rfl) ?_
  refine zae ?_
  refine dwp_ret ?_
  refine kend [0] (rs1 rfl (rv_w tb27 rfl rfl rfl)) rfl rfl ?_ ⟨rfl, trivial⟩
  rfl
end Go.Proofs.YtjgnalfnginjbaaGreatDoor
namespace Go.Proofs.YtjgnalfnginjbaaGreatDoor
set_option maxRecDepth 4000
set_option linter.unusedVariables false
set_option linter.unusedSimpArgs false
open Go.RowKit
theorem fl147 : fdL Tryz.prog 147 = some [(0, 1), (1, 1), (2, 1), (3, 1)] := by kernel_rfl
theorem fo85_0 : fdO Tryz.prog 85 0 = some 0 := by kernel_rfl
theorem mp124 : mpT Tryz.prog 124 = some (51, 27) := by kernel_rfl
theorem tb124 : tyB Tryz.prog 124 = some (false, 1) := by kernel_rfl
theorem tb148 : tyB Tryz.prog 148 = some (false, 1) := by kernel_rfl
theorem tb88 : tyB Tryz.prog 88 = some (false, 1) := by kernel_rfl
theorem zr147 : zrC Tryz.prog 147 = some [.int .i64 0, .int .i64 0, .int .i64 0, .int .i64 0] := by kernel_rfl
set_option maxRecDepth 4000 in
set_option maxHeartbeats 1000000 in
theorem pixels_d (w h : Int) (ds : List D) (ts : List TL) (hr : RowOk ds ts) (hc : CvOk w h ts) (l : List Sp) (hl : chkS l) (hn : l.length ≤ 1000000) : DFun Tryz.prog 84 [.agg [cvD w h ds], .slf 3 l.length (l.flatMap s3)] [] (.fn (.func 106) [] [.loc 0 0, .loc 1 0, .loc 2 0]) [.mix 25 [.slf 3 (clipS (⟨0, 0, w * 8 - 1, 255⟩ : Bx) l).length ((clipS (⟨0, 0, w * 8 - 1, 255⟩ : Bx) l).flatMap s3)], .flat 3 [.int .i64 (h * 8)], .mix 85 [cvD w h ds]] := by
  have hb := mayS_b hc.may
  refine zam (N := 23) 0 (by kernel_rfl) Tryz.func84 rfl rfl rfl (by simp only [fr0, Nat.zero_add, Nat.reduceAdd]; exact rfl) rfl fun s0 hs0 => ?_
  refine dwp_len (t := 1) rfl fun hl1 hL1 => ?_
  refine zaf ?_
  refine zah 1 (by simp only [holes, List.cons_append, List.nil_append]; exact rfl) ?_
  refine zad ?_
  refine zak rfl rfl rfl (op_boxam 0 rfl (ev1 rfl) rfl) (by simp only [upd, zaa, za]; exact rfl) ?_
  refine zab rfl rfl rfl (zac (.inr rfl) (ev1 rfl)) ?_
  refine zae ?_
  refine zaf ?_
  refine zah 1 (by simp only [holes, List.cons_append, List.nil_append]; exact rfl) ?_
  refine zad ?_
  refine zab rfl rfl rfl (op_fa rfl fo85_0 (ev1 rfl)) ?_
  refine zab rfl rfl rfl (op_ldm rfl tb33 (ev1 rfl) rfl rfl) ?_
  refine zab rfl rfl rfl (zai [] [] [] rfl (ev1 rfl) (ec (ev1 rfl) en) rfl rfl (size_d w h ds ts hr hc) rfl rfl rfl rfl rfl rfl) ?_
  refine zab rfl rfl rfl (zac (.inl rfl) (ev1 rfl)) ?_
  refine zab rfl rfl rfl (op_ext rfl (ev1 rfl) rfl) ?_
  refine zab rfl rfl rfl (op_ext rfl (ev1 rfl) rfl) ?_
  refine zak rfl rfl rfl (op_alloc 1 rfl zr3 rfl) (by simp only [upd, zaa, za]; exact rfl) ?_
  refine zab rfl rfl rfl (zac (.inr rfl) (ev1 rfl)) ?_
  refine walk_s rfl rfl (op_stwi rfl tb3 (ev1 rfl) (ev1 rfl) rfl) (by simp only [upd, zaa, za]; exact rfl) ?_
  refine zae ?_
  refine zaf ?_
  refine zah 1 (by simp only [holes, List.cons_append, List.nil_append]; exact rfl) ?_
  refine zad ?_
  refine zab rfl rfl rfl (zac (.inl rfl) (ev1 rfl)) ?_
  refine zab rfl rfl rfl (zac (.inl rfl) (ev1 rfl)) ?_
  refine zab rfl rfl rfl (op_sub' rfl (ev1 rfl) (ev1 rfl) (fun _ => IntWalk.i64_in _ (by omega))) ?_
  refine zab rfl rfl rfl (op_build (ps := [(2, .tmp 16), (3, .const (.int .i64 255))]) rfl fl147 zr147 (vc (ev1 rfl) (vc (ev1 rfl) vn)) rfl rfl) ?_
  refine zab rfl rfl rfl (zai [] [] [] rfl (ev1 rfl) (ec (ev1 rfl) (ec (ev1 rfl) en)) rfl rfl (clip_d l (⟨0, 0, w * 8 - 1, 255⟩ : Bx) hn) rfl rfl rfl rfl rfl rfl) ?_
  refine zab rfl rfl rfl ((op_ext rfl (ev1 rfl) rfl).cast (d' := .slf 3 (clipS (⟨0, 0, w * 8 - 1, 255⟩ : Bx) l).length ((clipS (⟨0, 0, w * 8 - 1, 255⟩ : Bx) l).flatMap s3)) (by rw [clipL_ok hl])) ?_
  refine zab rfl rfl rfl ((op_ext rfl (ev1 rfl) rfl).cast (d' := .val (.int .i64 0)) (by rw [chkE_ok hl])) ?_
  refine zab rfl rfl rfl (zai [] [] [] rfl (ev1 rfl) (ec (ev1 rfl) (ec (ev1 rfl) en)) rfl rfl (mustS_d (clipS (⟨0, 0, w * 8 - 1, 255⟩ : Bx) l)) rfl rfl rfl rfl rfl rfl) ?_
  refine zak rfl rfl rfl (op_alloc 2 rfl zr25 rfl) (by simp only [upd, zaa, za]; exact rfl) ?_
  refine walk_s rfl rfl (op_stfm rfl tb25 (ev1 rfl) (ev1 rfl) (fun s v h => by cases h <;> exact ⟨rfl, rfl⟩) rfl (by decide)) (by simp only [upd, zaa, za]; exact rfl) ?_
  refine zae ?_
  refine zaf ?_
  refine zad ?_
  refine zab rfl rfl rfl (op_mkf rfl en (ec (ev1 rfl) (ec (ev1 rfl) (ec (ev1 rfl) en)))) ?_
  refine zab rfl rfl rfl (zac (.inr rfl) (ev1 rfl)) ?_
  refine zae ?_
  refine dwp_ret ?_
  refine kend [2, 1, 0] (rs1 rfl (rv_t rfl)) rfl rfl ?_ ⟨rfl, rfl, rfl, trivial⟩
  rfl
noncomputable def earA : Code := rfA (pth [1, 1, 0, 1, 0] (bodyOf Tryz.f83))
noncomputable def earB : Code := rfB (pth [1, 1, 0, 1, 0] (bodyOf Tryz.f83))
set_option maxRecDepth 4000 in
set_option maxHeartbeats 1000000 in
theorem eaRound_p (cc : C4) (m : List (P2 × C4)) (p : P2) (u : C4) (hn : p ∉ m.map (·.1)) : DRound Tryz.prog 0 [.val (.agg #[.int .i64 p.x, .int .i64 p.y]), .val (.agg (c4 u).toArray)] [.lp 18 [(3, .loc 1 0), (5, .loc 2 0)] #[10, 11] earA earB .ready none, .mix 88 [.fn (.func 86) [] [.loc 4 0]], .mix 124 [.hnd 3], .obj (mapQ p2 c4 (m)), .flat 27 (c4 cc)] true [.lp 18 [(3, .loc 1 0), (5, .loc 2 0)] #[10, 11] earA earB .ready none, .mix 88 [.fn (.func 86) [] [.loc 4 0]], .mix 124 [.hnd 3], .obj (mapQ p2 c4 (m ++ [(p, cc)])), .flat 27 (c4 cc)] := by
  refine dround_go 5 rfl rfl (by simp) rfl rfl fun s0 hs0 => ?_
  refine zaf ?_
  refine zah 1 (by simp only [holes, List.cons_append, List.nil_append]; exact rfl) ?_
  refine zad ?_
  refine zak rfl rfl rfl (op_alloc 5 rfl zr51 rfl) (by simp only [upd, zaa, za]; exact rfl) ?_
  refine walk_s rfl rfl (op_stwa rfl tb51 (ev1 rfl) (ev1 rfl) rfl rfl rfl rfl) (by simp only [upd, zaa, za]; exact rfl) ?_
  refine zae ?_
  refine zah 1 (by simp only [holes, List.cons_append, List.nil_append]; exact rfl) ?_
  refine zad ?_
  refine zak rfl rfl rfl (op_alloc 6 rfl zr27 rfl) (by simp only [upd, zaa, za]; exact rfl) ?_
  refine walk_s rfl rfl (op_stwa rfl tb27 (ev1 rfl) (ev1 rfl) rfl rfl rfl rfl) (by simp only [upd, zaa, za]; exact rfl) ?_
  refine zae ?_
  refine ⟨rfl, ?_⟩
  simp only [zaa, za]
  refine dwp_block ?_
  refine dwp_draw [([2], []), ([5], []), ([1], []), ([6], []), ([4], [4]), ([3], [3])] mixed (by kernel_rfl) ?_
  refine zag rfl rfl (op_ldm rfl tb124 (ev1 rfl) rfl rfl) ?_
  refine zag rfl rfl (op_ldw rfl tb51 (ev1 rfl) rfl rfl) ?_
  refine zag rfl rfl (op_ldm rfl tb88 (ev1 rfl) rfl rfl) ?_
  refine zag rfl rfl (op_ldw rfl tb27 (ev1 rfl) rfl rfl) ?_
  refine lex_w rfl rfl (zai [4] [] [] rfl (ev1 rfl) (ec (ev1 rfl) en) rfl rfl (come_p cc u) rfl rfl rfl rfl rfl rfl) rfl (by simp only [upd, zaa, za]; exact rfl) ?_
  refine lex_s rfl rfl (op_muq (k := p) (v := cc) mp124 keyP rfl (ev1 rfl) (ev1 rfl) (ev1 rfl) rfl (fun _ => hn)) rfl (by simp only [upd, zaa, za]; exact rfl) ?_
  refine lex_nil ?_
  refine ⟨by first | rfl | assumption | simp_all, rfl, [0, 1, 2, 3, 4], rfl, ⟨rfl, rfl, rfl, rfl, rfl, trivial⟩⟩
set_option maxRecDepth 4000 in
set_option maxHeartbeats 1000000 in
theorem eaRound_w (cc : C4) (m : List (P2 × C4)) (p : P2) (u : C4) (hn : p ∉ m.map (·.1)) (hu : u.rng) (hcr : cc.rng) : DRound Tryz.prog 0 [.val (.agg #[.int .i64 p.x, .int .i64 p.y]), .val (.agg (c4 u).toArray)] [.lp 18 [(3, .loc 1 0), (5, .loc 2 0)] #[10, 11] earA earB .ready none, .mix 88 [.fn (.func 87) [] [.loc 4 0]], .mix 124 [.hnd 3], .obj (mapQ p2 c4 (m)), .flat 27 (c4 cc)] true [.lp 18 [(3, .loc 1 0), (5, .loc 2 0)] #[10, 11] earA earB .ready none, .mix 88 [.fn (.func 87) [] [.loc 4 0]], .mix 124 [.hnd 3], .obj (mapQ p2 c4 (m ++ [(p, (overC u cc))])), .flat 27 (c4 cc)] := by
  refine dround_go 5 rfl rfl (by simp) rfl rfl fun s0 hs0 => ?_
  refine zaf ?_
  refine zah 1 (by simp only [holes, List.cons_append, List.nil_append]; exact rfl) ?_
  refine zad ?_
  refine zak rfl rfl rfl (op_alloc 5 rfl zr51 rfl) (by simp only [upd, zaa, za]; exact rfl) ?_
  refine walk_s rfl rfl (op_stwa rfl tb51 (ev1 rfl) (ev1 rfl) rfl rfl rfl rfl) (by simp only [upd, zaa, za]; exact rfl) ?_
  refine zae ?_
  refine zah 1 (by simp only [holes, List.cons_append, List.nil_append]; exact rfl) ?_
  refine zad ?_
  refine zak rfl rfl rfl (op_alloc 6 rfl zr27 rfl) (by simp only [upd, zaa, za]; exact rfl) ?_
  refine walk_s rfl rfl (op_stwa rfl tb27 (ev1 rfl) (ev1 rfl) rfl rfl rfl rfl) (by simp only [upd, zaa, za]; exact rfl) ?_
  refine zae ?_
  refine ⟨rfl, ?_⟩
  simp only [zaa, za]
  refine dwp_block ?_
  refine dwp_draw [([2], []), ([5], []), ([1], []), ([6], []), ([4], [4]), ([3], [3])] mixed (by kernel_rfl) ?_
  refine zag rfl rfl (op_ldm rfl tb124 (ev1 rfl) rfl rfl) ?_
  refine zag rfl rfl (op_ldw rfl tb51 (ev1 rfl) rfl rfl) ?_
  refine zag rfl rfl (op_ldm rfl tb88 (ev1 rfl) rfl rfl) ?_
  refine zag rfl rfl (op_ldw rfl tb27 (ev1 rfl) rfl rfl) ?_
  refine lex_w rfl rfl (zai [4] [] [] rfl (ev1 rfl) (ec (ev1 rfl) en) rfl rfl (come_w cc u hu hcr) rfl rfl rfl rfl rfl rfl) rfl (by simp only [upd, zaa, za]; exact rfl) ?_
  refine lex_s rfl rfl (op_muq (k := p) (v := (overC u cc)) mp124 keyP rfl (ev1 rfl) (ev1 rfl) (ev1 rfl) rfl (fun _ => hn)) rfl (by simp only [upd, zaa, za]; exact rfl) ?_
  refine lex_nil ?_
  refine ⟨by first | rfl | assumption | simp_all, rfl, [0, 1, 2, 3, 4], rfl, ⟨rfl, rfl, rfl, rfl, rfl, trivial⟩⟩
noncomputable def pxrA : Code := rfA (pth [1, 0, 1, 1, 0] (bodyOf Tryz.f106))
noncomputable def pxrB : Code := rfB (pth [1, 0, 1, 1, 0] (bodyOf Tryz.f106))
set_option maxRecDepth 4000 in
set_option maxHeartbeats 1000000 in
theorem pxRound_p_go (w h : Int) (ds : List D) (ts : List TL) (hr : RowOk ds ts) (hc : CvOk w h ts) (cc : C4) (p : P2) (m : List (P2 × C4)) (hy : p.y < h * 8) (ho : onS w h p.x p.y = true) (hn : p ∉ m.map (·.1)) : DRound Tryz.prog 0 [.val (.agg #[.int .i64 p.x, .int .i64 p.y])] [.lp 33 [(2, .loc 1 0), (3, .loc 2 0), (4, .loc 3 0)] #[10] pxrA pxrB .ready none, .flat 3 [.int .i64 (h * 8)], .mix 85 [cvD w h ds], .mix 148 [.yld 4], .lp 18 [(3, .loc 5 0), (5, .loc 6 0)] #[10, 11] earA earB .ready none, .mix 88 [.fn (.func 86) [] [.loc 8 0]], .mix 124 [.hnd 7], .obj (mapQ p2 c4 (m)), .flat 27 (c4 cc)] true [.lp 33 [(2, .loc 1 0), (3, .loc 2 0), (4, .loc 3 0)] #[10] pxrA pxrB .ready none, .flat 3 [.int .i64 (h * 8)], .mix 85 [cvD w h ds], .mix 148 [.yld 4], .lp 18 [(3, .loc 5 0), (5, .loc 6 0)] #[10, 11] earA earB .ready none, .mix 88 [.fn (.func 86) [] [.loc 8 0]], .mix 124 [.hnd 7], .obj (mapQ p2 c4 (m ++ [(p, cmC false (getC w ts p.x p.y) cc)])), .flat 27 (c4 cc)] := by
  refine dround_go 9 rfl rfl (by simp) rfl rfl fun s0 hs0 => ?_
  refine zah 1 (by simp only [holes, List.cons_append, List.nil_append]; exact rfl) ?_
  refine zad ?_
  refine zak rfl rfl rfl (op_alloc 9 rfl zr51 rfl) (by simp only [upd, zaa, za]; exact rfl) ?_
  refine walk_s rfl rfl (op_stwa rfl tb51 (ev1 rfl) (ev1 rfl) rfl rfl rfl rfl) (by simp only [upd, zaa, za]; exact rfl) ?_
  refine zae ?_
  refine ⟨rfl, ?_⟩
  simp only [zaa, za]
  refine dwp_block ?_
  refine zaf ?_
  refine zaf ?_
  refine zad ?_
  refine zab rfl rfl rfl (op_fa rfl fo51_1 (ev1 rfl)) ?_
  refine zab rfl rfl rfl (zal rfl tb3 (ev1 rfl) rfl rfl) ?_
  refine zab rfl rfl rfl (zal rfl tb3 (ev1 rfl) rfl rfl) ?_
  refine zab rfl rfl rfl (op_geq rfl (ev1 rfl) (ev1 rfl)) ?_
  refine zae ?_
  refine dwp_if_f rfl (by simp at hy ⊢; omega) ?_
  refine dwp_skip ?_
  refine zaf ?_
  refine zah 1 (by simp only [holes, List.cons_append, List.nil_append]; exact rfl) ?_
  refine zad ?_
  refine zab rfl rfl rfl (op_fa rfl fo85_0 (ev1 rfl)) ?_
  refine zab rfl rfl rfl (op_ldm rfl tb33 (ev1 rfl) rfl rfl) ?_
  refine zab rfl rfl rfl (op_fa rfl fo51_0 (ev1 rfl)) ?_
  refine zab rfl rfl rfl (zal rfl tb3 (ev1 rfl) rfl rfl) ?_
  refine zab rfl rfl rfl (op_fa rfl fo51_1 (ev1 rfl)) ?_
  refine zab rfl rfl rfl (zal rfl tb3 (ev1 rfl) rfl rfl) ?_
  refine zab rfl rfl rfl (zai [] [] [] rfl (ev1 rfl) (ec (ev1 rfl) (ec (ev1 rfl) (ec (ev1 rfl) en))) rfl rfl (at_d w h ds ts hr hc p.x p.y) rfl rfl rfl rfl rfl rfl) ?_
  refine zab rfl rfl rfl (zac (.inl rfl) (ev1 rfl)) ?_
  refine zab rfl rfl rfl ((op_ext rfl (ev1 rfl) rfl).cast (d' := .val (.agg (c4 (getC w ts p.x p.y)).toArray)) (by rw [if_pos ho])) ?_
  refine zab rfl rfl rfl ((op_ext rfl (ev1 rfl) rfl).cast (d' := .val (.bool true)) (by rw [ho])) ?_
  refine zak rfl rfl rfl (op_alloc 10 rfl zr27 rfl) (by simp only [upd, zaa, za]; exact rfl) ?_
  refine walk_s rfl rfl (op_stwa rfl tb27 (ev1 rfl) (ev1 rfl) rfl rfl rfl rfl) (by simp only [upd, zaa, za]; exact rfl) ?_
  refine zab rfl rfl rfl (zac (.inr rfl) (ev1 rfl)) ?_
  refine zae ?_
  refine zaf ?_
  refine zad ?_
  refine zab rfl rfl rfl (zac (.inl rfl) (ev1 rfl)) ?_
  refine zab rfl rfl rfl (zac (.inl rfl) (ev1 rfl)) ?_
  refine walk_k (gd_t (b := true) rfl rfl rfl) rfl rfl rfl (op_ldm rfl tb148 (ev1 rfl) rfl rfl) (by simp only [upd, zaa, za]; exact rfl) ?_
  refine walk_k (gd_t (b := true) rfl rfl rfl) rfl rfl rfl (op_ldw rfl tb51 (ev1 rfl) rfl rfl) (by simp only [upd, zaa, za]; exact rfl) ?_
  refine walk_k (gd_t (b := true) rfl rfl rfl) rfl rfl rfl (op_ldw rfl tb27 (ev1 rfl) rfl rfl) (by simp only [upd, zaa, za]; exact rfl) ?_
  refine walk_k (gd_t (b := true) rfl rfl rfl) rfl rfl rfl (op_y (i := 0) [4, 5, 6, 7, 8] [] [] rfl (ev2 rfl) (ec (ev2 rfl) (ec (ev2 rfl) en)) rfl rfl rfl (eaRound_p cc m p (getC w ts p.x p.y) hn) rfl rfl rfl rfl rfl) (by simp only [upd, zaa, za]; exact rfl) ?_
  refine walk_k (gd_t (b := true) rfl rfl rfl) rfl rfl rfl ((op_not rfl (ev2 rfl)).cast (d' := .val (.bool false)) (by kernel_rfl)) (by simp only [upd, zaa, za]; exact rfl) ?_
  refine zab rfl rfl rfl ((op_and rfl (ev1 rfl) (ev3 rfl (fun _ => rfl))).cast (d' := .val (.bool false)) (by rfl)) ?_
  refine zae ?_
  refine dwp_if_f rfl (rfl) ?_
  refine dwp_skip ?_
  refine ⟨by first | rfl | assumption | simp_all, rfl, [0, 1, 2, 3, 4, 5, 6, 7, 8], rfl, ⟨rfl, rfl, rfl, rfl, rfl, rfl, rfl, rfl, rfl, trivial⟩⟩
set_option maxRecDepth 4000 in
set_option maxHeartbeats 1000000 in
theorem pxRound_p_no (w h : Int) (ds : List D) (ts : List TL) (hr : RowOk ds ts) (hc : CvOk w h ts) (cc : C4) (p : P2) (m : List (P2 × C4)) (hy : ¬ p.y < h * 8) : DRound Tryz.prog 0 [.val (.agg #[.int .i64 p.x, .int .i64 p.y])] [.lp 33 [(2, .loc 1 0), (3, .loc 2 0), (4, .loc 3 0)] #[10] pxrA pxrB .ready none, .flat 3 [.int .i64 (h * 8)], .mix 85 [cvD w h ds], .mix 148 [.yld 4], .lp 18 [(3, .loc 5 0), (5, .loc 6 0)] #[10, 11] earA earB .ready none, .mix 88 [.fn (.func 86) [] [.loc 8 0]], .mix 124 [.hnd 7], .obj (mapQ p2 c4 (m)), .flat 27 (c4 cc)] false [.lp 33 [(2, .loc 1 0), (3, .loc 2 0), (4, .loc 3 0)] #[10] pxrA pxrB .done (some (.exit 0)), .flat 3 [.int .i64 (h * 8)], .mix 85 [cvD w h ds], .mix 148 [.yld 4], .lp 18 [(3, .loc 5 0), (5, .loc 6 0)] #[10, 11] earA earB .ready none, .mix 88 [.fn (.func 86) [] [.loc 8 0]], .mix 124 [.hnd 7], .obj (mapQ p2 c4 (m)), .flat 27 (c4 cc)] := by
  refine dround_go 9 rfl rfl (by simp) rfl rfl fun s0 hs0 => ?_
  refine zah 1 (by simp only [holes, List.cons_append, List.nil_append]; exact rfl) ?_
  refine zad ?_
  refine zak rfl rfl rfl (op_alloc 9 rfl zr51 rfl) (by simp only [upd, zaa, za]; exact rfl) ?_
  refine walk_s rfl rfl (op_stwa rfl tb51 (ev1 rfl) (ev1 rfl) rfl rfl rfl rfl) (by simp only [upd, zaa, za]; exact rfl) ?_
  refine zae ?_
  refine ⟨rfl, ?_⟩
  simp only [zaa, za]
  refine dwp_block ?_
  refine zaf ?_
  refine zaf ?_
  refine zad ?_
  refine zab rfl rfl rfl (op_fa rfl fo51_1 (ev1 rfl)) ?_
  refine zab rfl rfl rfl (zal rfl tb3 (ev1 rfl) rfl rfl) ?_
  refine zab rfl rfl rfl (zal rfl tb3 (ev1 rfl) rfl rfl) ?_
  refine zab rfl rfl rfl (op_geq rfl (ev1 rfl) (ev1 rfl)) ?_
  refine zae ?_
  refine dwp_if_t rfl (by simp at hy ⊢; omega) ?_
  refine dwp_exit ?_
  refine ⟨by first | rfl | assumption | simp_all, rfl, [0, 1, 2, 3, 4, 5, 6, 7, 8], rfl, ⟨rfl, rfl, rfl, rfl, rfl, rfl, rfl, rfl, rfl, trivial⟩⟩
set_option maxRecDepth 4000 in
set_option maxHeartbeats 1000000 in
theorem pxRound_w_go (w h : Int) (ds : List D) (ts : List TL) (hr : RowOk ds ts) (hc : CvOk w h ts) (cc : C4) (p : P2) (m : List (P2 × C4)) (hy : p.y < h * 8) (ho : onS w h p.x p.y = true) (hn : p ∉ m.map (·.1)) (hg : tsRng ts) (hcr : cc.rng) : DRound Tryz.prog 0 [.val (.agg #[.int .i64 p.x, .int .i64 p.y])] [.lp 33 [(2, .loc 1 0), (3, .loc 2 0), (4, .loc 3 0)] #[10] pxrA pxrB .ready none, .flat 3 [.int .i64 (h * 8)], .mix 85 [cvD w h ds], .mix 148 [.yld 4], .lp 18 [(3, .loc 5 0), (5, .loc 6 0)] #[10, 11] earA earB .ready none, .mix 88 [.fn (.func 87) [] [.loc 8 0]], .mix 124 [.hnd 7], .obj (mapQ p2 c4 (m)), .flat 27 (c4 cc)] true [.lp 33 [(2, .loc 1 0), (3, .loc 2 0), (4, .loc 3 0)] #[10] pxrA pxrB .ready none, .flat 3 [.int .i64 (h * 8)], .mix 85 [cvD w h ds], .mix 148 [.yld 4], .lp 18 [(3, .loc 5 0), (5, .loc 6 0)] #[10, 11] earA earB .ready none, .mix 88 [.fn (.func 87) [] [.loc 8 0]], .mix 124 [.hnd 7], .obj (mapQ p2 c4 (m ++ [(p, cmC true (getC w ts p.x p.y) cc)])), .flat 27 (c4 cc)] := by
  refine dround_go 9 rfl rfl (by simp) rfl rfl fun s0 hs0 => ?_
  refine zah 1 (by simp only [holes, List.cons_append, List.nil_append]; exact rfl) ?_
  refine zad ?_
  refine zak rfl rfl rfl (op_alloc 9 rfl zr51 rfl) (by simp only [upd, zaa, za]; exact rfl) ?_
  refine walk_s rfl rfl (op_stwa rfl tb51 (ev1 rfl) (ev1 rfl) rfl rfl rfl rfl) (by simp only [upd, zaa, za]; exact rfl) ?_
  refine zae ?_
  refine ⟨rfl, ?_⟩
  simp only [zaa, za]
  refine dwp_block ?_
  refine zaf ?_
  refine zaf ?_
  refine zad ?_
  refine zab rfl rfl rfl (op_fa rfl fo51_1 (ev1 rfl)) ?_
  refine zab rfl rfl rfl (zal rfl tb3 (ev1 rfl) rfl rfl) ?_
  refine zab rfl rfl rfl (zal rfl tb3 (ev1 rfl) rfl rfl) ?_
  refine zab rfl rfl rfl (op_geq rfl (ev1 rfl) (ev1 rfl)) ?_
  refine zae ?_
  refine dwp_if_f rfl (by simp at hy ⊢; omega) ?_
  refine dwp_skip ?_
  refine zaf ?_
  refine zah 1 (by simp only [holes, List.cons_append, List.nil_append]; exact rfl) ?_
  refine zad ?_
  refine zab rfl rfl rfl (op_fa rfl fo85_0 (ev1 rfl)) ?_
  refine zab rfl rfl rfl (op_ldm rfl tb33 (ev1 rfl) rfl rfl) ?_
  refine zab rfl rfl rfl (op_fa rfl fo51_0 (ev1 rfl)) ?_
  refine zab rfl rfl rfl (zal rfl tb3 (ev1 rfl) rfl rfl) ?_
  refine zab rfl rfl rfl (op_fa rfl fo51_1 (ev1 rfl)) ?_
  refine zab rfl rfl rfl (zal rfl tb3 (ev1 rfl) rfl rfl) ?_
  refine zab rfl rfl rfl (zai [] [] [] rfl (ev1 rfl) (ec (ev1 rfl) (ec (ev1 rfl) (ec (ev1 rfl) en))) rfl rfl (at_d w h ds ts hr hc p.x p.y) rfl rfl rfl rfl rfl rfl) ?_
  refine zab rfl rfl rfl (zac (.inl rfl) (ev1 rfl)) ?_
  refine zab rfl rfl rfl ((op_ext rfl (ev1 rfl) rfl).cast (d' := .val (.agg (c4 (getC w ts p.x p.y)).toArray)) (by rw [if_pos ho])) ?_
  refine zab rfl rfl rfl ((op_ext rfl (ev1 rfl) rfl).cast (d' := .val (.bool true)) (by rw [ho])) ?_
  refine zak rfl rfl rfl (op_alloc 10 rfl zr27 rfl) (by simp only [upd, zaa, za]; exact rfl) ?_
  refine walk_s rfl rfl (op_stwa rfl tb27 (ev1 rfl) (ev1 rfl) rfl rfl rfl rfl) (by simp only [upd, zaa, za]; exact rfl) ?_
  refine zab rfl rfl rfl (zac (.inr rfl) (ev1 rfl)) ?_
  refine zae ?_
  refine zaf ?_
  refine zad ?_
  refine zab rfl rfl rfl (zac (.inl rfl) (ev1 rfl)) ?_
  refine zab rfl rfl rfl (zac (.inl rfl) (ev1 rfl)) ?_
  refine walk_k (gd_t (b := true) rfl rfl rfl) rfl rfl rfl (op_ldm rfl tb148 (ev1 rfl) rfl rfl) (by simp only [upd, zaa, za]; exact rfl) ?_
  refine walk_k (gd_t (b := true) rfl rfl rfl) rfl rfl rfl (op_ldw rfl tb51 (ev1 rfl) rfl rfl) (by simp only [upd, zaa, za]; exact rfl) ?_
  refine walk_k (gd_t (b := true) rfl rfl rfl) rfl rfl rfl (op_ldw rfl tb27 (ev1 rfl) rfl rfl) (by simp only [upd, zaa, za]; exact rfl) ?_
  refine walk_k (gd_t (b := true) rfl rfl rfl) rfl rfl rfl (op_y (i := 0) [4, 5, 6, 7, 8] [] [] rfl (ev2 rfl) (ec (ev2 rfl) (ec (ev2 rfl) en)) rfl rfl rfl (eaRound_w cc m p (getC w ts p.x p.y) hn (getC_rng hg _ _ _) hcr) rfl rfl rfl rfl rfl) (by simp only [upd, zaa, za]; exact rfl) ?_
  refine walk_k (gd_t (b := true) rfl rfl rfl) rfl rfl rfl ((op_not rfl (ev2 rfl)).cast (d' := .val (.bool false)) (by kernel_rfl)) (by simp only [upd, zaa, za]; exact rfl) ?_
  refine zab rfl rfl rfl ((op_and rfl (ev1 rfl) (ev3 rfl (fun _ => rfl))).cast (d' := .val (.bool false)) (by rfl)) ?_
  refine zae ?_
  refine dwp_if_f rfl (rfl) ?_
  refine dwp_skip ?_
  refine ⟨by first | rfl | assumption | simp_all, rfl, [0, 1, 2, 3, 4, 5, 6, 7, 8], rfl, ⟨rfl, rfl, rfl, rfl, rfl, rfl, rfl, rfl, rfl, trivial⟩⟩
set_option maxRecDepth 4000 in
set_option maxHeartbeats 1000000 in
theorem pxRound_w_no (w h : Int) (ds : List D) (ts : List TL) (hr : RowOk ds ts) (hc : CvOk w h ts) (cc : C4) (p : P2) (m : List (P2 × C4)) (hy : ¬ p.y < h * 8) : DRound Tryz.prog 0 [.val (.agg #[.int .i64 p.x, .int .i64 p.y])] [.lp 33 [(2, .loc 1 0), (3, .loc 2 0), (4, .loc 3 0)] #[10] pxrA pxrB .ready none, .flat 3 [.int .i64 (h * 8)], .mix 85 [cvD w h ds], .mix 148 [.yld 4], .lp 18 [(3, .loc 5 0), (5, .loc 6 0)] #[10, 11] earA earB .ready none, .mix 88 [.fn (.func 87) [] [.loc 8 0]], .mix 124 [.hnd 7], .obj (mapQ p2 c4 (m)), .flat 27 (c4 cc)] false [.lp 33 [(2, .loc 1 0), (3, .loc 2 0), (4, .loc 3 0)] #[10] pxrA pxrB .done (some (.exit 0)), .flat 3 [.int .i64 (h * 8)], .mix 85 [cvD w h ds], .mix 148 [.yld 4], .lp 18 [(3, .loc 5 0), (5, .loc 6 0)] #[10, 11] earA earB .ready none, .mix 88 [.fn (.func 87) [] [.loc 8 0]], .mix 124 [.hnd 7], .obj (mapQ p2 c4 (m)), .flat 27 (c4 cc)] := by
  refine dround_go 9 rfl rfl (by simp) rfl rfl fun s0 hs0 => ?_
  refine zah 1 (by simp only [holes, List.cons_append, List.nil_append]; exact rfl) ?_
  refine zad ?_
  refine zak rfl rfl rfl (op_alloc 9 rfl zr51 rfl) (by simp only [upd, zaa, za]; exact rfl) ?_
  refine walk_s rfl rfl (op_stwa rfl tb51 (ev1 rfl) (ev1 rfl) rfl rfl rfl rfl) (by simp only [upd, zaa, za]; exact rfl) ?_
  refine zae ?_
  refine ⟨rfl, ?_⟩
  simp only [zaa, za]
  refine dwp_block ?_
  refine zaf ?_
  refine zaf ?_
  refine zad ?_
  refine zab rfl rfl rfl (op_fa rfl fo51_1 (ev1 rfl)) ?_
  refine zab rfl rfl rfl (zal rfl tb3 (ev1 rfl) rfl rfl) ?_
  refine zab rfl rfl rfl (zal rfl tb3 (ev1 rfl) rfl rfl) ?_
  refine zab rfl rfl rfl (op_geq rfl (ev1 rfl) (ev1 rfl)) ?_
  refine zae ?_
  refine dwp_if_t rfl (by simp at hy ⊢; omega) ?_
  refine dwp_exit ?_
  refine ⟨by first | rfl | assumption | simp_all, rfl, [0, 1, 2, 3, 4, 5, 6, 7, 8], rfl, ⟨rfl, rfl, rfl, rfl, rfl, rfl, rfl, rfl, rfl, trivial⟩⟩
end Go.Proofs.YtjgnalfnginjbaaGreatDoor
namespace Go.Proofs.YtjgnalfnginjbaaGreatDoor
set_option maxRecDepth 4000
set_option linter.unusedVariables false
set_option linter.unusedSimpArgs false
open Go.RowKit
noncomputable def alrA : Code := rfA (pth [1, 1, 0] (bodyOf Tryz.f125))
noncomputable def alrB : Code := rfB (pth [1, 1, 0] (bodyOf Tryz.f125))
set_option maxRecDepth 4000 in
set_option maxHeartbeats 1000000 in
theorem span_p_y (w h : Int) (ds : List D) (ts : List TL) (hr : RowOk ds ts) (hc : CvOk w h ts) (cc : C4) (s : Sp) (hs : rchS s ∧ s.f ≤ s.t) (hy : s.y < h * 8) (P : List P2) (hnd : (P ++ s.pts).Nodup) (hon : ∀ k : Nat, k < s.wd → onS w h (s.f + (k : Int)) s.y = true) : DRound Tryz.prog 0 [.val (.agg (s3 s).toArray)] [.lp 23 [(2, .loc 1 0)] #[7] alrA alrB .ready none, .mix 53 [.yld 2], .lp 33 [(2, .loc 3 0), (3, .loc 4 0), (4, .loc 5 0)] #[10] pxrA pxrB .ready none, .flat 3 [.int .i64 (h * 8)], .mix 85 [cvD w h ds], .mix 148 [.yld 6], .lp 18 [(3, .loc 7 0), (5, .loc 8 0)] #[10, 11] earA earB .ready none, .mix 88 [.fn (.func 86) [] [.loc 10 0]], .mix 124 [.hnd 9], .obj (mapQ p2 c4 (mpK false w ts cc (P))), .flat 27 (c4 cc)] true [.lp 23 [(2, .loc 1 0)] #[7] alrA alrB .ready none, .mix 53 [.yld 2], .lp 33 [(2, .loc 3 0), (3, .loc 4 0), (4, .loc 5 0)] #[10] pxrA pxrB .ready none, .flat 3 [.int .i64 (h * 8)], .mix 85 [cvD w h ds], .mix 148 [.yld 6], .lp 18 [(3, .loc 7 0), (5, .loc 8 0)] #[10, 11] earA earB .ready none, .mix 88 [.fn (.func 86) [] [.loc 10 0]], .mix 124 [.hnd 9], .obj (mapQ p2 c4 (mpK false w ts cc (P ++ s.pts))), .flat 27 (c4 cc)] := by
  obtain ⟨hrs, hft⟩ := hs
  have hr2 := hrs
  unfold rchS at hr2
  have hwd : (s.wd : Int) = s.t - s.f + 1 := by unfold Sp.wd; omega
  have hpw := pts_wd s
  refine dround_go 11 rfl rfl (by simp) rfl rfl fun s0 hs0 => ?_
  refine zah 1 (by simp only [holes, List.cons_append, List.nil_append]; exact rfl) ?_
  refine zad ?_
  refine zak rfl rfl rfl (op_alloc 11 rfl zr32 rfl) (by simp only [upd, zaa, za]; exact rfl) ?_
  refine walk_s rfl rfl (op_stwa rfl tb32 (ev1 rfl) (ev1 rfl) rfl rfl rfl rfl) (by simp only [upd, zaa, za]; exact rfl) ?_
  refine zae ?_
  refine ⟨rfl, ?_⟩
  simp only [zaa, za]
  refine dwp_block ?_
  refine zaf ?_
  refine zad ?_
  refine zab rfl rfl rfl (op_fa rfl fo32_1 (ev1 rfl)) ?_
  refine zab rfl rfl rfl (zal rfl tb3 (ev1 rfl) rfl rfl) ?_
  refine zab rfl rfl rfl (zac (.inr rfl) (ev1 rfl)) ?_
  refine zae ?_
  refine dwp_block ?_
  refine dwp_loopS ⟨hs0, rfl⟩ (α := Nat) (fun k => [(4, .val (.int .i64 (s.f + (k : Int))))]) [(2, _), (3, _)] (fun k => [(9, .obj (mapQ p2 c4 (mpK false w ts cc (P ++ s.pts.take k))))]) [_, _, _, _, _, _, _, _, _, .hole, _, _] (fun k => k ≤ s.wd) (fun k => s.wd - k) 0 [0, 1, 2, 3, 4, 5, 6, 7, 8, 9, 10, 11] (Nat.zero_le _) rfl ⟨rfl, rfl, trivial⟩ ⟨congrArg (fun z => some (D.val (.int .i64 z))) (by first | rfl | omega), trivial⟩ ⟨rfl, rfl, rfl, rfl, rfl, rfl, rfl, rfl, rfl, by rw [List.take_zero, List.append_nil]; rfl, rfl, rfl, trivial⟩ ?_
  intro k hx
  simp only [upd, zaa, za, List.cons_append, List.nil_append]
  have hk0 := hx
  refine zaf ?_
  refine zaf ?_
  refine zad ?_
  refine zab rfl rfl rfl (zac (.inl rfl) (ev1 rfl)) ?_
  refine zab rfl rfl rfl (op_fa rfl fo32_2 (ev1 rfl)) ?_
  refine zab rfl rfl rfl (zal rfl tb3 (ev1 rfl) rfl rfl) ?_
  refine zab rfl rfl rfl (op_leq rfl (ev1 rfl) (ev1 rfl)) ?_
  refine zae ?_
  refine dwp_cond rfl (fun c1 => ?_) (fun c1 => ?_)
  · try simp only [decide_eq_true_eq, decide_eq_false_iff_not, beq_iff_eq, bne_iff_ne, beq_eq_false_iff_ne, bne_eq_false_iff_eq, Bool.not_eq_true', Bool.not_eq_false', Bool.and_eq_true, Bool.or_eq_true, Bool.or_eq_false_iff, ne_eq, Decidable.not_not, Int.not_lt, Int.not_le] at c1
    refine dwp_skip ?_
    refine zaf ?_
    refine dwp_block ?_
    refine zaf ?_
    have hk : k < s.wd := by omega
    have hfr := fresh (q := (⟨s.f + (k : Int), s.y⟩ : P2)) hnd (show k < s.pts.length by rw [hpw]; exact hk) (by simp [Sp.pts])
    refine zad ?_
    refine zab rfl rfl rfl (op_ldm rfl tb53 (ev1 rfl) rfl rfl) ?_
    refine zab rfl rfl rfl (zac (.inl rfl) (ev1 rfl)) ?_
    refine zab rfl rfl rfl (op_fa rfl fo32_0 (ev1 rfl)) ?_
    refine zab rfl rfl rfl (zal rfl tb3 (ev1 rfl) rfl rfl) ?_
    refine zab rfl rfl rfl (op_build (ps := [(0, .tmp 17), (1, .tmp 19)]) rfl fl51 zr51 (vc (ev1 rfl) (vc (ev1 rfl) vn)) rfl rfl) ?_
    refine zak rfl rfl rfl (op_y (i := 0) [2, 3, 4, 5, 6, 7, 8, 9, 10] [] [] rfl (ev1 rfl) (ec (ev1 rfl) en) rfl rfl rfl (pxRound_p_go w h ds ts hr hc cc ⟨s.f + (k : Int), s.y⟩ _ hy (hon k hk) (by rw [mpK_keys]; exact hfr)) rfl rfl rfl rfl rfl) (by simp only [upd, zaa, za]; exact rfl) ?_
    refine zab rfl rfl rfl (op_not rfl (ev1 rfl)) ?_
    refine zae ?_
    refine dwp_if_f rfl (rfl) ?_
    refine dwp_skip ?_
    refine zad ?_
    refine zab rfl rfl rfl (zac (.inl rfl) (ev1 rfl)) ?_
    refine zab rfl rfl rfl (op_add' rfl (ev1 rfl) (ev1 rfl) (fun _ => IntWalk.i64_in _ (by omega))) ?_
    refine zab rfl rfl rfl (zac (.inr rfl) (ev1 rfl)) ?_
    refine zae ?_
    refine ⟨k + 1, [0, 1, 2, 3, 4, 5, 6, 7, 8, 9, 10, 11], by omega, by simp only []; omega, rfl, ⟨congrArg (fun z => some (D.val (.int .i64 z))) (by first | rfl | omega), rfl, rfl, trivial⟩, ⟨rfl, rfl, rfl, rfl, rfl, rfl, rfl, rfl, rfl, by rw [pts_add hk, ← List.append_assoc, ← mpK_add]; rfl, rfl, rfl, trivial⟩⟩
  · try simp only [decide_eq_true_eq, decide_eq_false_iff_not, beq_iff_eq, bne_iff_ne, beq_eq_false_iff_ne, bne_eq_false_iff_eq, Bool.not_eq_true', Bool.not_eq_false', Bool.and_eq_true, Bool.or_eq_true, Bool.or_eq_false_iff, ne_eq, Decidable.not_not, Int.not_lt, Int.not_le] at c1
    refine dwp_exit ?_
    obtain rfl : k = s.wd := by omega
    rw [show s.pts.take s.wd = s.pts from List.take_of_length_le (by omega)]
    refine ⟨by first | rfl | assumption | simp_all, rfl, [0, 1, 2, 3, 4, 5, 6, 7, 8, 9, 10], rfl, ⟨rfl, rfl, rfl, rfl, rfl, rfl, rfl, rfl, rfl, rfl, rfl, trivial⟩⟩
set_option maxRecDepth 4000 in
set_option maxHeartbeats 1000000 in
theorem span_p_n (w h : Int) (ds : List D) (ts : List TL) (hr : RowOk ds ts) (hc : CvOk w h ts) (cc : C4) (s : Sp) (hs : rchS s ∧ s.f ≤ s.t) (hy : ¬ s.y < h * 8) (P : List P2) : DRound Tryz.prog 0 [.val (.agg (s3 s).toArray)] [.lp 23 [(2, .loc 1 0)] #[7] alrA alrB .ready none, .mix 53 [.yld 2], .lp 33 [(2, .loc 3 0), (3, .loc 4 0), (4, .loc 5 0)] #[10] pxrA pxrB .ready none, .flat 3 [.int .i64 (h * 8)], .mix 85 [cvD w h ds], .mix 148 [.yld 6], .lp 18 [(3, .loc 7 0), (5, .loc 8 0)] #[10, 11] earA earB .ready none, .mix 88 [.fn (.func 86) [] [.loc 10 0]], .mix 124 [.hnd 9], .obj (mapQ p2 c4 (mpK false w ts cc (P))), .flat 27 (c4 cc)] false [.lp 23 [(2, .loc 1 0)] #[7] alrA alrB .done (some .ret), .mix 53 [.yld 2], .lp 33 [(2, .loc 3 0), (3, .loc 4 0), (4, .loc 5 0)] #[10] pxrA pxrB .done (some (.exit 0)), .flat 3 [.int .i64 (h * 8)], .mix 85 [cvD w h ds], .mix 148 [.yld 6], .lp 18 [(3, .loc 7 0), (5, .loc 8 0)] #[10, 11] earA earB .ready none, .mix 88 [.fn (.func 86) [] [.loc 10 0]], .mix 124 [.hnd 9], .obj (mapQ p2 c4 (mpK false w ts cc (P))), .flat 27 (c4 cc)] := by
  obtain ⟨hrs, hft⟩ := hs
  have hr2 := hrs
  unfold rchS at hr2
  have hwd : (s.wd : Int) = s.t - s.f + 1 := by unfold Sp.wd; omega
  have hpw := pts_wd s
  refine dround_go 11 rfl rfl (by simp) rfl rfl fun s0 hs0 => ?_
  refine zah 1 (by simp only [holes, List.cons_append, List.nil_append]; exact rfl) ?_
  refine zad ?_
  refine zak rfl rfl rfl (op_alloc 11 rfl zr32 rfl) (by simp only [upd, zaa, za]; exact rfl) ?_
  refine walk_s rfl rfl (op_stwa rfl tb32 (ev1 rfl) (ev1 rfl) rfl rfl rfl rfl) (by simp only [upd, zaa, za]; exact rfl) ?_
  refine zae ?_
  refine ⟨rfl, ?_⟩
  simp only [zaa, za]
  refine dwp_block ?_
  refine zaf ?_
  refine zad ?_
  refine zab rfl rfl rfl (op_fa rfl fo32_1 (ev1 rfl)) ?_
  refine zab rfl rfl rfl (zal rfl tb3 (ev1 rfl) rfl rfl) ?_
  refine zab rfl rfl rfl (zac (.inr rfl) (ev1 rfl)) ?_
  refine zae ?_
  refine dwp_block ?_
  refine dwp_loopS ⟨hs0, rfl⟩ (α := Nat) (fun k => [(4, .val (.int .i64 (s.f + (k : Int))))]) [(2, _), (3, _)] (fun k => []) [_, _, _, _, _, _, _, _, _, _, _, _] (fun k => k = 0) (fun k => 1 - k) 0 [0, 1, 2, 3, 4, 5, 6, 7, 8, 9, 10, 11] (rfl) rfl ⟨rfl, rfl, trivial⟩ ⟨congrArg (fun z => some (D.val (.int .i64 z))) (by first | rfl | omega), trivial⟩ ⟨rfl, rfl, rfl, rfl, rfl, rfl, rfl, rfl, rfl, rfl, rfl, rfl, trivial⟩ ?_
  intro k hx
  simp only [upd, zaa, za, List.cons_append, List.nil_append]
  have hk0 := hx
  refine zaf ?_
  refine zaf ?_
  refine zad ?_
  refine zab rfl rfl rfl (zac (.inl rfl) (ev1 rfl)) ?_
  refine zab rfl rfl rfl (op_fa rfl fo32_2 (ev1 rfl)) ?_
  refine zab rfl rfl rfl (zal rfl tb3 (ev1 rfl) rfl rfl) ?_
  refine zab rfl rfl rfl (op_leq rfl (ev1 rfl) (ev1 rfl)) ?_
  refine zae ?_
  refine dwp_if_t rfl (by subst hk0; simp; omega) ?_
  refine dwp_skip ?_
  refine zaf ?_
  refine dwp_block ?_
  refine zaf ?_
  refine zad ?_
  refine zab rfl rfl rfl (op_ldm rfl tb53 (ev1 rfl) rfl rfl) ?_
  refine zab rfl rfl rfl (zac (.inl rfl) (ev1 rfl)) ?_
  refine zab rfl rfl rfl (op_fa rfl fo32_0 (ev1 rfl)) ?_
  refine zab rfl rfl rfl (zal rfl tb3 (ev1 rfl) rfl rfl) ?_
  refine zab rfl rfl rfl (op_build (ps := [(0, .tmp 17), (1, .tmp 19)]) rfl fl51 zr51 (vc (ev1 rfl) (vc (ev1 rfl) vn)) rfl rfl) ?_
  refine zak rfl rfl rfl (op_y (i := 0) [2, 3, 4, 5, 6, 7, 8, 9, 10] [] [] rfl (ev1 rfl) (ec (ev1 rfl) en) rfl rfl rfl (pxRound_p_no w h ds ts hr hc cc ⟨s.f + (k : Int), s.y⟩ _ hy) rfl rfl rfl rfl rfl) (by simp only [upd, zaa, za]; exact rfl) ?_
  refine zab rfl rfl rfl (op_not rfl (ev1 rfl)) ?_
  refine zae ?_
  refine dwp_if_t rfl (rfl) ?_
  refine dwp_ret ?_
  refine ⟨by first | rfl | assumption | simp_all, rfl, [0, 1, 2, 3, 4, 5, 6, 7, 8, 9, 10], rfl, ⟨rfl, rfl, rfl, rfl, rfl, rfl, rfl, rfl, rfl, rfl, rfl, trivial⟩⟩
set_option maxRecDepth 4000 in
set_option maxHeartbeats 1000000 in
theorem told_p (w h : Int) (ds : List D) (ts : List TL) (hr : RowOk ds ts) (hc : CvOk w h ts) (cc : C4) (l : List Sp) (hl : chkS l) (hl0 : l.length ≤ 9223372036854775807) (hon : ∀ p ∈ ptsS l, p.y < h * 8 → onS w h p.x p.y = true) : DFun Tryz.prog 103 [.yld 0, .loc 11 0] [.lp 23 [(2, .loc 1 0)] #[7] alrA alrB .ready none, .mix 53 [.yld 2], .lp 33 [(2, .loc 3 0), (3, .loc 4 0), (4, .loc 5 0)] #[10] pxrA pxrB .ready none, .flat 3 [.int .i64 (h * 8)], .mix 85 [cvD w h ds], .mix 148 [.yld 6], .lp 18 [(3, .loc 7 0), (5, .loc 8 0)] #[10, 11] earA earB .ready none, .mix 88 [.fn (.func 86) [] [.loc 10 0]], .mix 124 [.hnd 9], .obj (mapQ p2 c4 (mpK false w ts cc (([] : List P2)))), .flat 27 (c4 cc), .mix 25 [.slf 3 l.length (l.flatMap s3)]] (.tup []) [.lp 23 [(2, .loc 1 0)] #[7] alrA alrB (rst (lowB (h * 8) l)) (rpe .ret (lowB (h * 8) l)), .mix 53 [.yld 2], .lp 33 [(2, .loc 3 0), (3, .loc 4 0), (4, .loc 5 0)] #[10] pxrA pxrB (rst (lowB (h * 8) l)) (rpe (.exit 0) (lowB (h * 8) l)), .flat 3 [.int .i64 (h * 8)], .mix 85 [cvD w h ds], .mix 148 [.yld 6], .lp 18 [(3, .loc 7 0), (5, .loc 8 0)] #[10, 11] earA earB .ready none, .mix 88 [.fn (.func 86) [] [.loc 10 0]], .mix 124 [.hnd 9], .obj (mapQ p2 c4 (mpK false w ts cc (ptsS (lowS (h * 8) l)))), .flat 27 (c4 cc), .mix 25 [.slf 3 l.length (l.flatMap s3)]] := by
  refine zam (N := 19) 12 (by kernel_rfl) Tryz.func103 rfl rfl rfl (by simp only [fr0, Nat.zero_add, Nat.reduceAdd]; exact rfl) rfl fun s0 hs0 => ?_
  refine zaf ?_
  refine zaf ?_
  refine zad ?_
  refine zab rfl rfl rfl (op_ldm rfl tb25 (ev1 rfl) rfl rfl) ?_
  refine zab rfl rfl rfl (zai [] [] [] rfl (ev1 rfl) (ec (ev1 rfl) en) rfl rfl (check_d l) rfl rfl rfl rfl rfl rfl) ?_
  refine zab rfl rfl rfl (op_neq rfl (ev1 rfl) (ev1 rfl)) ?_
  refine zae ?_
  refine dwp_if_f rfl (by rw [chkE_ok hl]; rfl) ?_
  refine dwp_skip ?_
  refine zaf ?_
  refine zad ?_
  refine zab rfl rfl rfl (op_ldm rfl tb25 (ev1 rfl) rfl rfl) ?_
  refine zab rfl rfl rfl (op_len rfl sl25 (ev1 rfl)) ?_
  refine zab rfl rfl rfl (zac (.inl rfl) (ev1 rfl)) ?_
  refine zae ?_
  refine dwp_block ?_
  refine dwp_loopS ⟨hs0, rfl⟩ (α := Nat) (fun i => [(10, .val (.int .i64 (i : Int)))]) [(0, _), (8, _), (9, _)] (fun i => [(9, .obj (mapQ p2 c4 (mpK false w ts cc (ptsS (l.take i)))))]) [_, _, _, _, _, _, _, _, _, .hole, _, _] (fun i => i ≤ l.length ∧ lowB (h * 8) (l.take i) = true) (fun i => l.length - i) 0 [0, 1, 2, 3, 4, 5, 6, 7, 8, 9, 10, 11] (⟨Nat.zero_le _, rfl⟩) rfl ⟨rfl, rfl, rfl, trivial⟩ ⟨rfl, trivial⟩ ⟨rfl, rfl, rfl, rfl, rfl, rfl, rfl, rfl, rfl, rfl, rfl, rfl, trivial⟩ ?_
  intro i hx
  simp only [upd, zaa, za, List.cons_append, List.nil_append]
  obtain ⟨hi0, hlo⟩ := hx
  refine zaf ?_
  refine zad ?_
  refine zab rfl rfl rfl (op_lss rfl (ev1 rfl) (ev1 rfl)) ?_
  refine zae ?_
  refine zaf ?_
  refine dwp_cond rfl (fun c2 => ?_) (fun c2 => ?_)
  · try simp only [decide_eq_true_eq, decide_eq_false_iff_not, beq_iff_eq, bne_iff_ne, beq_eq_false_iff_ne, bne_eq_false_iff_eq, Bool.not_eq_true', Bool.not_eq_false', Bool.and_eq_true, Bool.or_eq_true, Bool.or_eq_false_iff, ne_eq, Decidable.not_not, Int.not_lt, Int.not_le] at c2
    refine dwp_skip ?_
    refine zaf ?_
    refine dwp_block ?_
    refine zaf ?_
    have hi : i < l.length := by omega
    refine zah 1 (by simp only [holes, List.cons_append, List.nil_append]; exact rfl) ?_
    refine zad ?_
    refine zab rfl rfl rfl (op_ixsr (j := i) rfl sl25 (ev1 rfl) (ev1 rfl) (fun _ => rfl) (by decide) (by omega) (by omega)) ?_
    refine zab rfl rfl rfl (op_ldwd rfl tb32 (ev1 rfl) rfl) ?_
    refine zak rfl rfl rfl (op_alloc 12 rfl zr32 rfl) (by simp only [upd, zaa, za]; exact rfl) ?_
    refine walk_s rfl rfl (op_stwa rfl tb32 (ev1 rfl) (ev1 rfl) rfl rfl rfl rfl) (by simp only [upd, zaa, za]; exact rfl) ?_
    refine zae ?_
    refine zaf ?_
    by_cases hy : l[i].y < h * 8
    · have hnd := ptsS_nd hl (i + 1)
      rw [ptsS_add hi] at hnd
      refine zad ?_
      refine zab rfl rfl rfl (zac (.inl rfl) (ev1 rfl)) ?_
      refine zab rfl rfl rfl (op_ldw rfl tb32 (ev1 rfl) rfl rfl) ?_
      refine zak rfl rfl rfl (op_y (i := 0) [0, 1, 2, 3, 4, 5, 6, 7, 8, 9, 10] [] [] rfl (ev1 rfl) (ec (ev1 rfl) en) rfl rfl rfl (span_p_y w h ds ts hr hc cc l[i] (hl.1 _ (List.getElem_mem hi)) hy _ hnd (fun k hk => hon _ (pts_mem2 hi hk) hy)) rfl rfl rfl rfl rfl) (by simp only [upd, zaa, za]; exact rfl) ?_
      refine zab rfl rfl rfl (op_not rfl (ev1 rfl)) ?_
      refine zae ?_
      refine dwp_if_f rfl (rfl) ?_
      refine dwp_skip ?_
      refine zad ?_
      refine zab rfl rfl rfl (op_add' rfl (ev1 rfl) (ev1 rfl) (fun _ => IntWalk.i64_in _ (by omega))) ?_
      refine zab rfl rfl rfl (zac (.inl rfl) (ev1 rfl)) ?_
      refine zae ?_
      refine ⟨i + 1, [0, 1, 2, 3, 4, 5, 6, 7, 8, 9, 10, 11], ⟨by omega, lowB_add hi hlo hy⟩, by simp only []; omega, rfl, ⟨rfl, rfl, rfl, rfl, trivial⟩, ⟨rfl, rfl, rfl, rfl, rfl, rfl, rfl, rfl, rfl, by rw [ptsS_add hi]; rfl, rfl, rfl, trivial⟩⟩
    · refine zad ?_
      refine zab rfl rfl rfl (zac (.inl rfl) (ev1 rfl)) ?_
      refine zab rfl rfl rfl (op_ldw rfl tb32 (ev1 rfl) rfl rfl) ?_
      refine zak rfl rfl rfl (op_y (i := 0) [0, 1, 2, 3, 4, 5, 6, 7, 8, 9, 10] [] [] rfl (ev1 rfl) (ec (ev1 rfl) en) rfl rfl rfl (span_p_n w h ds ts hr hc cc l[i] (hl.1 _ (List.getElem_mem hi)) hy _) rfl rfl rfl rfl rfl) (by simp only [upd, zaa, za]; exact rfl) ?_
      refine zab rfl rfl rfl (op_not rfl (ev1 rfl)) ?_
      refine zae ?_
      refine dwp_if_t rfl (rfl) ?_
      refine dwp_ret ?_
      have e1 := lowB_no hi hy
      have e2 := lowS_stop hl hi hlo hy
      rw [e1, e2]
      refine kend [0, 1, 2, 3, 4, 5, 6, 7, 8, 9, 10, 11] (res_none rfl) rfl rfl ?_ ⟨rfl, rfl, rfl, rfl, rfl, rfl, rfl, rfl, rfl, rfl, rfl, rfl, trivial⟩
      rfl
  · try simp only [decide_eq_true_eq, decide_eq_false_iff_not, beq_iff_eq, bne_iff_ne, beq_eq_false_iff_ne, bne_eq_false_iff_eq, Bool.not_eq_true', Bool.not_eq_false', Bool.and_eq_true, Bool.or_eq_true, Bool.or_eq_false_iff, ne_eq, Decidable.not_not, Int.not_lt, Int.not_le] at c2
    refine dwp_exit ?_
    have hil : l.take i = l := take_all (by omega)
    rw [hil] at hlo
    rw [hlo, lowS_all hlo, hil]
    refine kend [0, 1, 2, 3, 4, 5, 6, 7, 8, 9, 10, 11] (res_none rfl) rfl rfl ?_ ⟨rfl, rfl, rfl, rfl, rfl, rfl, rfl, rfl, rfl, rfl, rfl, rfl, trivial⟩
    rfl
set_option maxRecDepth 4000 in
set_option maxHeartbeats 1000000 in
theorem all_p (w h : Int) (ds : List D) (ts : List TL) (hr : RowOk ds ts) (hc : CvOk w h ts) (cc : C4) (l : List Sp) (hl : chkS l) (hl0 : l.length ≤ 9223372036854775807) (hon : ∀ p ∈ ptsS l, p.y < h * 8 → onS w h p.x p.y = true) : DFun Tryz.prog 125 [.yld 0, .loc 9 0] [.lp 33 [(2, .loc 1 0), (3, .loc 2 0), (4, .loc 3 0)] #[10] pxrA pxrB .ready none, .flat 3 [.int .i64 (h * 8)], .mix 85 [cvD w h ds], .mix 148 [.yld 4], .lp 18 [(3, .loc 5 0), (5, .loc 6 0)] #[10, 11] earA earB .ready none, .mix 88 [.fn (.func 86) [] [.loc 8 0]], .mix 124 [.hnd 7], .obj (mapQ p2 c4 (mpK false w ts cc (([] : List P2)))), .flat 27 (c4 cc), .mix 25 [.slf 3 l.length (l.flatMap s3)]] (.tup []) [.lp 33 [(2, .loc 1 0), (3, .loc 2 0), (4, .loc 3 0)] #[10] pxrA pxrB (rst (lowB (h * 8) l)) (rpe (.exit 0) (lowB (h * 8) l)), .flat 3 [.int .i64 (h * 8)], .mix 85 [cvD w h ds], .mix 148 [.yld 4], .lp 18 [(3, .loc 5 0), (5, .loc 6 0)] #[10, 11] earA earB .ready none, .mix 88 [.fn (.func 86) [] [.loc 8 0]], .mix 124 [.hnd 7], .obj (mapQ p2 c4 (mpK false w ts cc (ptsS (lowS (h * 8) l)))), .flat 27 (c4 cc), .mix 25 [.slf 3 l.length (l.flatMap s3)]] := by
  refine zam (N := 23) 10 (by kernel_rfl) Tryz.func125 rfl rfl rfl (by simp only [fr0, Nat.zero_add, Nat.reduceAdd]; exact rfl) rfl fun s0 hs0 => ?_
  refine zaf ?_
  refine zah 1 (by simp only [holes, List.cons_append, List.nil_append]; exact rfl) ?_
  refine zad ?_
  refine zak rfl rfl rfl (op_boxm 10 rfl (ev1 rfl) (fun s v h => by cases h <;> rfl) rfl) (by simp only [upd, zaa, za]; exact rfl) ?_
  refine zae ?_
  refine zaf ?_
  refine zah 1 (by simp only [holes, List.cons_append, List.nil_append]; exact rfl) ?_
  refine zad ?_
  refine zab rfl rfl rfl (op_ldm rfl tb25 (ev1 rfl) rfl rfl) ?_
  refine zak rfl rfl rfl (zai [] [] [11] rfl (ev1 rfl) (ec (ev1 rfl) en) rfl rfl (told_d l) rfl rfl rfl rfl rfl rfl) (by simp only [upd, zaa, za]; exact rfl) ?_
  refine zae ?_
  refine dwp_block ?_
  refine dwp_hole ?_
  simp only [List.cons_append, List.nil_append]
  refine dwp_rf (FL := [(2, _)]) (st := (rst (lowB (h * 8) l))) (pe := (rpe .ret (lowB (h * 8) l))) [12, 10, 0, 1, 2, 3, 4, 5, 6, 7, 8, 11] [] [] 12 rfl rfl (ev1 rfl) rfl (subF_lk ⟨rfl, trivial⟩) rfl rfl rfl (told_p w h ds ts hr hc cc l hl hl0 hon) rfl rfl rfl rfl rfl rfl rfl (rst_busy _) (fun e => ?_) (fun c e => ?_)
  · simp only [upd, zaa, za]
    refine kend [0, 1, 2, 3, 4, 5, 6, 7, 8, 9] (res_none rfl) rfl rfl ?_ ⟨rfl, rfl, rfl, rfl, rfl, rfl, rfl, rfl, rfl, rfl, trivial⟩
    rfl
  · obtain ⟨e1, rfl⟩ : lowB (h * 8) l = false ∧ c = .ret := by
      cases h : lowB (h * 8) l <;> simp_all [rpe]
    simp only [upd, zaa, za]
    refine dwp_ret ?_
    refine kend [0, 1, 2, 3, 4, 5, 6, 7, 8, 9] (res_none rfl) rfl rfl ?_ ⟨rfl, rfl, rfl, rfl, rfl, rfl, rfl, rfl, rfl, rfl, trivial⟩
    rfl
set_option maxRecDepth 4000 in
set_option maxHeartbeats 1000000 in
theorem span_w_y (w h : Int) (ds : List D) (ts : List TL) (hr : RowOk ds ts) (hc : CvOk w h ts) (cc : C4) (s : Sp) (hs : rchS s ∧ s.f ≤ s.t) (hy : s.y < h * 8) (P : List P2) (hnd : (P ++ s.pts).Nodup) (hon : ∀ k : Nat, k < s.wd → onS w h (s.f + (k : Int)) s.y = true) (hg : tsRng ts) (hcr : cc.rng) : DRound Tryz.prog 0 [.val (.agg (s3 s).toArray)] [.lp 23 [(2, .loc 1 0)] #[7] alrA alrB .ready none, .mix 53 [.yld 2], .lp 33 [(2, .loc 3 0), (3, .loc 4 0), (4, .loc 5 0)] #[10] pxrA pxrB .ready none, .flat 3 [.int .i64 (h * 8)], .mix 85 [cvD w h ds], .mix 148 [.yld 6], .lp 18 [(3, .loc 7 0), (5, .loc 8 0)] #[10, 11] earA earB .ready none, .mix 88 [.fn (.func 87) [] [.loc 10 0]], .mix 124 [.hnd 9], .obj (mapQ p2 c4 (mpK true w ts cc (P))), .flat 27 (c4 cc)] true [.lp 23 [(2, .loc 1 0)] #[7] alrA alrB .ready none, .mix 53 [.yld 2], .lp 33 [(2, .loc 3 0), (3, .loc 4 0), (4, .loc 5 0)] #[10] pxrA pxrB .ready none, .flat 3 [.int .i64 (h * 8)], .mix 85 [cvD w h ds], .mix 148 [.yld 6], .lp 18 [(3, .loc 7 0), (5, .loc 8 0)] #[10, 11] earA earB .ready none, .mix 88 [.fn (.func 87) [] [.loc 10 0]], .mix 124 [.hnd 9], .obj (mapQ p2 c4 (mpK true w ts cc (P ++ s.pts))), .flat 27 (c4 cc)] := by
  obtain ⟨hrs, hft⟩ := hs
  have hr2 := hrs
  unfold rchS at hr2
  have hwd : (s.wd : Int) = s.t - s.f + 1 := by unfold Sp.wd; omega
  have hpw := pts_wd s
  refine dround_go 11 rfl rfl (by simp) rfl rfl fun s0 hs0 => ?_
  refine zah 1 (by simp only [holes, List.cons_append, List.nil_append]; exact rfl) ?_
  refine zad ?_
  refine zak rfl rfl rfl (op_alloc 11 rfl zr32 rfl) (by simp only [upd, zaa, za]; exact rfl) ?_
  refine walk_s rfl rfl (op_stwa rfl tb32 (ev1 rfl) (ev1 rfl) rfl rfl rfl rfl) (by simp only [upd, zaa, za]; exact rfl) ?_
  refine zae ?_
  refine ⟨rfl, ?_⟩
  simp only [zaa, za]
  refine dwp_block ?_
  refine zaf ?_
  refine zad ?_
  refine zab rfl rfl rfl (op_fa rfl fo32_1 (ev1 rfl)) ?_
  refine zab rfl rfl rfl (zal rfl tb3 (ev1 rfl) rfl rfl) ?_
  refine zab rfl rfl rfl (zac (.inr rfl) (ev1 rfl)) ?_
  refine zae ?_
  refine dwp_block ?_
  refine dwp_loopS ⟨hs0, rfl⟩ (α := Nat) (fun k => [(4, .val (.int .i64 (s.f + (k : Int))))]) [(2, _), (3, _)] (fun k => [(9, .obj (mapQ p2 c4 (mpK true w ts cc (P ++ s.pts.take k))))]) [_, _, _, _, _, _, _, _, _, .hole, _, _] (fun k => k ≤ s.wd) (fun k => s.wd - k) 0 [0, 1, 2, 3, 4, 5, 6, 7, 8, 9, 10, 11] (Nat.zero_le _) rfl ⟨rfl, rfl, trivial⟩ ⟨congrArg (fun z => some (D.val (.int .i64 z))) (by first | rfl | omega), trivial⟩ ⟨rfl, rfl, rfl, rfl, rfl, rfl, rfl, rfl, rfl, by rw [List.take_zero, List.append_nil]; rfl, rfl, rfl, trivial⟩ ?_
  intro k hx
  simp only [upd, zaa, za, List.cons_append, List.nil_append]
  have hk0 := hx
  refine zaf ?_
  refine zaf ?_
  refine zad ?_
  refine zab rfl rfl rfl (zac (.inl rfl) (ev1 rfl)) ?_
  refine zab rfl rfl rfl (op_fa rfl fo32_2 (ev1 rfl)) ?_
  refine zab rfl rfl rfl (zal rfl tb3 (ev1 rfl) rfl rfl) ?_
  refine zab rfl rfl rfl (op_leq rfl (ev1 rfl) (ev1 rfl)) ?_
  refine zae ?_
  refine dwp_cond rfl (fun c1 => ?_) (fun c1 => ?_)
  · try simp only [decide_eq_true_eq, decide_eq_false_iff_not, beq_iff_eq, bne_iff_ne, beq_eq_false_iff_ne, bne_eq_false_iff_eq, Bool.not_eq_true', Bool.not_eq_false', Bool.and_eq_true, Bool.or_eq_true, Bool.or_eq_false_iff, ne_eq, Decidable.not_not, Int.not_lt, Int.not_le] at c1
    refine dwp_skip ?_
    refine zaf ?_
    refine dwp_block ?_
    refine zaf ?_
    have hk : k < s.wd := by omega
    have hfr := fresh (q := (⟨s.f + (k : Int), s.y⟩ : P2)) hnd (show k < s.pts.length by rw [hpw]; exact hk) (by simp [Sp.pts])
    refine zad ?_
    refine zab rfl rfl rfl (op_ldm rfl tb53 (ev1 rfl) rfl rfl) ?_
    refine zab rfl rfl rfl (zac (.inl rfl) (ev1 rfl)) ?_
    refine zab rfl rfl rfl (op_fa rfl fo32_0 (ev1 rfl)) ?_
    refine zab rfl rfl rfl (zal rfl tb3 (ev1 rfl) rfl rfl) ?_
    refine zab rfl rfl rfl (op_build (ps := [(0, .tmp 17), (1, .tmp 19)]) rfl fl51 zr51 (vc (ev1 rfl) (vc (ev1 rfl) vn)) rfl rfl) ?_
    refine zak rfl rfl rfl (op_y (i := 0) [2, 3, 4, 5, 6, 7, 8, 9, 10] [] [] rfl (ev1 rfl) (ec (ev1 rfl) en) rfl rfl rfl (pxRound_w_go w h ds ts hr hc cc ⟨s.f + (k : Int), s.y⟩ _ hy (hon k hk) (by rw [mpK_keys]; exact hfr) hg hcr) rfl rfl rfl rfl rfl) (by simp only [upd, zaa, za]; exact rfl) ?_
    refine zab rfl rfl rfl (op_not rfl (ev1 rfl)) ?_
    refine zae ?_
    refine dwp_if_f rfl (rfl) ?_
    refine dwp_skip ?_
    refine zad ?_
    refine zab rfl rfl rfl (zac (.inl rfl) (ev1 rfl)) ?_
    refine zab rfl rfl rfl (op_add' rfl (ev1 rfl) (ev1 rfl) (fun _ => IntWalk.i64_in _ (by omega))) ?_
    refine zab rfl rfl rfl (zac (.inr rfl) (ev1 rfl)) ?_
    refine zae ?_
    refine ⟨k + 1, [0, 1, 2, 3, 4, 5, 6, 7, 8, 9, 10, 11], by omega, by simp only []; omega, rfl, ⟨congrArg (fun z => some (D.val (.int .i64 z))) (by first | rfl | omega), rfl, rfl, trivial⟩, ⟨rfl, rfl, rfl, rfl, rfl, rfl, rfl, rfl, rfl, by rw [pts_add hk, ← List.append_assoc, ← mpK_add]; rfl, rfl, rfl, trivial⟩⟩
  · try simp only [decide_eq_true_eq, decide_eq_false_iff_not, beq_iff_eq, bne_iff_ne, beq_eq_false_iff_ne, bne_eq_false_iff_eq, Bool.not_eq_true', Bool.not_eq_false', Bool.and_eq_true, Bool.or_eq_true, Bool.or_eq_false_iff, ne_eq, Decidable.not_not, Int.not_lt, Int.not_le] at c1
    refine dwp_exit ?_
    obtain rfl : k = s.wd := by omega
    rw [show s.pts.take s.wd = s.pts from List.take_of_length_le (by omega)]
    refine ⟨by first | rfl | assumption | simp_all, rfl, [0, 1, 2, 3, 4, 5, 6, 7, 8, 9, 10], rfl, ⟨rfl, rfl, rfl, rfl, rfl, rfl, rfl, rfl, rfl, rfl, rfl, trivial⟩⟩
set_option maxRecDepth 4000 in
set_option maxHeartbeats 1000000 in
theorem span_w_n (w h : Int) (ds : List D) (ts : List TL) (hr : RowOk ds ts) (hc : CvOk w h ts) (cc : C4) (s : Sp) (hs : rchS s ∧ s.f ≤ s.t) (hy : ¬ s.y < h * 8) (P : List P2) : DRound Tryz.prog 0 [.val (.agg (s3 s).toArray)] [.lp 23 [(2, .loc 1 0)] #[7] alrA alrB .ready none, .mix 53 [.yld 2], .lp 33 [(2, .loc 3 0), (3, .loc 4 0), (4, .loc 5 0)] #[10] pxrA pxrB .ready none, .flat 3 [.int .i64 (h * 8)], .mix 85 [cvD w h ds], .mix 148 [.yld 6], .lp 18 [(3, .loc 7 0), (5, .loc 8 0)] #[10, 11] earA earB .ready none, .mix 88 [.fn (.func 87) [] [.loc 10 0]], .mix 124 [.hnd 9], .obj (mapQ p2 c4 (mpK true w ts cc (P))), .flat 27 (c4 cc)] false [.lp 23 [(2, .loc 1 0)] #[7] alrA alrB .done (some .ret), .mix 53 [.yld 2], .lp 33 [(2, .loc 3 0), (3, .loc 4 0), (4, .loc 5 0)] #[10] pxrA pxrB .done (some (.exit 0)), .flat 3 [.int .i64 (h * 8)], .mix 85 [cvD w h ds], .mix 148 [.yld 6], .lp 18 [(3, .loc 7 0), (5, .loc 8 0)] #[10, 11] earA earB .ready none, .mix 88 [.fn (.func 87) [] [.loc 10 0]], .mix 124 [.hnd 9], .obj (mapQ p2 c4 (mpK true w ts cc (P))), .flat 27 (c4 cc)] := by
  obtain ⟨hrs, hft⟩ := hs
  have hr2 := hrs
  unfold rchS at hr2
  have hwd : (s.wd : Int) = s.t - s.f + 1 := by unfold Sp.wd; omega
  have hpw := pts_wd s
  refine dround_go 11 rfl rfl (by simp) rfl rfl fun s0 hs0 => ?_
  refine zah 1 (by simp only [holes, List.cons_append, List.nil_append]; exact rfl) ?_
  refine zad ?_
  refine zak rfl rfl rfl (op_alloc 11 rfl zr32 rfl) (by simp only [upd, zaa, za]; exact rfl) ?_
  refine walk_s rfl rfl (op_stwa rfl tb32 (ev1 rfl) (ev1 rfl) rfl rfl rfl rfl) (by simp only [upd, zaa, za]; exact rfl) ?_
  refine zae ?_
  refine ⟨rfl, ?_⟩
  simp only [zaa, za]
  refine dwp_block ?_
  refine zaf ?_
  refine zad ?_
  refine zab rfl rfl rfl (op_fa rfl fo32_1 (ev1 rfl)) ?_
  refine zab rfl rfl rfl (zal rfl tb3 (ev1 rfl) rfl rfl) ?_
  refine zab rfl rfl rfl (zac (.inr rfl) (ev1 rfl)) ?_
  refine zae ?_
  refine dwp_block ?_
  refine dwp_loopS ⟨hs0, rfl⟩ (α := Nat) (fun k => [(4, .val (.int .i64 (s.f + (k : Int))))]) [(2, _), (3, _)] (fun k => []) [_, _, _, _, _, _, _, _, _, _, _, _] (fun k => k = 0) (fun k => 1 - k) 0 [0, 1, 2, 3, 4, 5, 6, 7, 8, 9, 10, 11] (rfl) rfl ⟨rfl, rfl, trivial⟩ ⟨congrArg (fun z => some (D.val (.int .i64 z))) (by first | rfl | omega), trivial⟩ ⟨rfl, rfl, rfl, rfl, rfl, rfl, rfl, rfl, rfl, rfl, rfl, rfl, trivial⟩ ?_
  intro k hx
  simp only [upd, zaa, za, List.cons_append, List.nil_append]
  have hk0 := hx
  refine zaf ?_
  refine zaf ?_
  refine zad ?_
  refine zab rfl rfl rfl (zac (.inl rfl) (ev1 rfl)) ?_
  refine zab rfl rfl rfl (op_fa rfl fo32_2 (ev1 rfl)) ?_
  refine zab rfl rfl rfl (zal rfl tb3 (ev1 rfl) rfl rfl) ?_
  refine zab rfl rfl rfl (op_leq rfl (ev1 rfl) (ev1 rfl)) ?_
  refine zae ?_
  refine dwp_if_t rfl (by subst hk0; simp; omega) ?_
  refine dwp_skip ?_
  refine zaf ?_
  refine dwp_block ?_
  refine zaf ?_
  refine zad ?_
  refine zab rfl rfl rfl (op_ldm rfl tb53 (ev1 rfl) rfl rfl) ?_
  refine zab rfl rfl rfl (zac (.inl rfl) (ev1 rfl)) ?_
  refine zab rfl rfl rfl (op_fa rfl fo32_0 (ev1 rfl)) ?_
  refine zab rfl rfl rfl (zal rfl tb3 (ev1 rfl) rfl rfl) ?_
  refine zab rfl rfl rfl (op_build (ps := [(0, .tmp 17), (1, .tmp 19)]) rfl fl51 zr51 (vc (ev1 rfl) (vc (ev1 rfl) vn)) rfl rfl) ?_
  refine zak rfl rfl rfl (op_y (i := 0) [2, 3, 4, 5, 6, 7, 8, 9, 10] [] [] rfl (ev1 rfl) (ec (ev1 rfl) en) rfl rfl rfl (pxRound_w_no w h ds ts hr hc cc ⟨s.f + (k : Int), s.y⟩ _ hy) rfl rfl rfl rfl rfl) (by simp only [upd, zaa, za]; exact rfl) ?_
  refine zab rfl rfl rfl (op_not rfl (ev1 rfl)) ?_
  refine zae ?_
  refine dwp_if_t rfl (rfl) ?_
  refine dwp_ret ?_
  refine ⟨by first | rfl | assumption | simp_all, rfl, [0, 1, 2, 3, 4, 5, 6, 7, 8, 9, 10], rfl, ⟨rfl, rfl, rfl, rfl, rfl, rfl, rfl, rfl, rfl, rfl, rfl, trivial⟩⟩
set_option maxRecDepth 4000 in
set_option maxHeartbeats 1000000 in
theorem told_w (w h : Int) (ds : List D) (ts : List TL) (hr : RowOk ds ts) (hc : CvOk w h ts) (cc : C4) (l : List Sp) (hl : chkS l) (hl0 : l.length ≤ 9223372036854775807) (hon : ∀ p ∈ ptsS l, p.y < h * 8 → onS w h p.x p.y = true) (hg : tsRng ts) (hcr : cc.rng) : DFun Tryz.prog 103 [.yld 0, .loc 11 0] [.lp 23 [(2, .loc 1 0)] #[7] alrA alrB .ready none, .mix 53 [.yld 2], .lp 33 [(2, .loc 3 0), (3, .loc 4 0), (4, .loc 5 0)] #[10] pxrA pxrB .ready none, .flat 3 [.int .i64 (h * 8)], .mix 85 [cvD w h ds], .mix 148 [.yld 6], .lp 18 [(3, .loc 7 0), (5, .loc 8 0)] #[10, 11] earA earB .ready none, .mix 88 [.fn (.func 87) [] [.loc 10 0]], .mix 124 [.hnd 9], .obj (mapQ p2 c4 (mpK true w ts cc (([] : List P2)))), .flat 27 (c4 cc), .mix 25 [.slf 3 l.length (l.flatMap s3)]] (.tup []) [.lp 23 [(2, .loc 1 0)] #[7] alrA alrB (rst (lowB (h * 8) l)) (rpe .ret (lowB (h * 8) l)), .mix 53 [.yld 2], .lp 33 [(2, .loc 3 0), (3, .loc 4 0), (4, .loc 5 0)] #[10] pxrA pxrB (rst (lowB (h * 8) l)) (rpe (.exit 0) (lowB (h * 8) l)), .flat 3 [.int .i64 (h * 8)], .mix 85 [cvD w h ds], .mix 148 [.yld 6], .lp 18 [(3, .loc 7 0), (5, .loc 8 0)] #[10, 11] earA earB .ready none, .mix 88 [.fn (.func 87) [] [.loc 10 0]], .mix 124 [.hnd 9], .obj (mapQ p2 c4 (mpK true w ts cc (ptsS (lowS (h * 8) l)))), .flat 27 (c4 cc), .mix 25 [.slf 3 l.length (l.flatMap s3)]] := by
  refine zam (N := 19) 12 (by kernel_rfl) Tryz.func103 rfl rfl rfl (by simp only [fr0, Nat.zero_add, Nat.reduceAdd]; exact rfl) rfl fun s0 hs0 => ?_
  refine zaf ?_
  refine zaf ?_
  refine zad ?_
  refine zab rfl rfl rfl (op_ldm rfl tb25 (ev1 rfl) rfl rfl) ?_
  refine zab rfl rfl rfl (zai [] [] [] rfl (ev1 rfl) (ec (ev1 rfl) en) rfl rfl (check_d l) rfl rfl rfl rfl rfl rfl) ?_
  refine zab rfl rfl rfl (op_neq rfl (ev1 rfl) (ev1 rfl)) ?_
  refine zae ?_
  refine dwp_if_f rfl (by rw [chkE_ok hl]; rfl) ?_
  refine dwp_skip ?_
  refine zaf ?_
  refine zad ?_
  refine zab rfl rfl rfl (op_ldm rfl tb25 (ev1 rfl) rfl rfl) ?_
  refine zab rfl rfl rfl (op_len rfl sl25 (ev1 rfl)) ?_
  refine zab rfl rfl rfl (zac (.inl rfl) (ev1 rfl)) ?_
  refine zae ?_
  refine dwp_block ?_
  refine dwp_loopS ⟨hs0, rfl⟩ (α := Nat) (fun i => [(10, .val (.int .i64 (i : Int)))]) [(0, _), (8, _), (9, _)] (fun i => [(9, .obj (mapQ p2 c4 (mpK true w ts cc (ptsS (l.take i)))))]) [_, _, _, _, _, _, _, _, _, .hole, _, _] (fun i => i ≤ l.length ∧ lowB (h * 8) (l.take i) = true) (fun i => l.length - i) 0 [0, 1, 2, 3, 4, 5, 6, 7, 8, 9, 10, 11] (⟨Nat.zero_le _, rfl⟩) rfl ⟨rfl, rfl, rfl, trivial⟩ ⟨rfl, trivial⟩ ⟨rfl, rfl, rfl, rfl, rfl, rfl, rfl, rfl, rfl, rfl, rfl, rfl, trivial⟩ ?_
  intro i hx
  simp only [upd, zaa, za, List.cons_append, List.nil_append]
  obtain ⟨hi0, hlo⟩ := hx
  refine zaf ?_
  refine zad ?_
  refine zab rfl rfl rfl (op_lss rfl (ev1 rfl) (ev1 rfl)) ?_
  refine zae ?_
  refine zaf ?_
  refine dwp_cond rfl (fun c2 => ?_) (fun c2 => ?_)
  · try simp only [decide_eq_true_eq, decide_eq_false_iff_not, beq_iff_eq, bne_iff_ne, beq_eq_false_iff_ne, bne_eq_false_iff_eq, Bool.not_eq_true', Bool.not_eq_false', Bool.and_eq_true, Bool.or_eq_true, Bool.or_eq_false_iff, ne_eq, Decidable.not_not, Int.not_lt, Int.not_le] at c2
    refine dwp_skip ?_
    refine zaf ?_
    refine dwp_block ?_
    refine zaf ?_
    have hi : i < l.length := by omega
    refine zah 1 (by simp only [holes, List.cons_append, List.nil_append]; exact rfl) ?_
    refine zad ?_
    refine zab rfl rfl rfl (op_ixsr (j := i) rfl sl25 (ev1 rfl) (ev1 rfl) (fun _ => rfl) (by decide) (by omega) (by omega)) ?_
    refine zab rfl rfl rfl (op_ldwd rfl tb32 (ev1 rfl) rfl) ?_
    refine zak rfl rfl rfl (op_alloc 12 rfl zr32 rfl) (by simp only [upd, zaa, za]; exact rfl) ?_
    refine walk_s rfl rfl (op_stwa rfl tb32 (ev1 rfl) (ev1 rfl) rfl rfl rfl rfl) (by simp only [upd, zaa, za]; exact rfl) ?_
    refine zae ?_
    refine zaf ?_
    by_cases hy : l[i].y < h * 8
    · have hnd := ptsS_nd hl (i + 1)
      rw [ptsS_add hi] at hnd
      refine zad ?_
      refine zab rfl rfl rfl (zac (.inl rfl) (ev1 rfl)) ?_
      refine zab rfl rfl rfl (op_ldw rfl tb32 (ev1 rfl) rfl rfl) ?_
      refine zak rfl rfl rfl (op_y (i := 0) [0, 1, 2, 3, 4, 5, 6, 7, 8, 9, 10] [] [] rfl (ev1 rfl) (ec (ev1 rfl) en) rfl rfl rfl (span_w_y w h ds ts hr hc cc l[i] (hl.1 _ (List.getElem_mem hi)) hy _ hnd (fun k hk => hon _ (pts_mem2 hi hk) hy) hg hcr) rfl rfl rfl rfl rfl) (by simp only [upd, zaa, za]; exact rfl) ?_
      refine zab rfl rfl rfl (op_not rfl (ev1 rfl)) ?_
      refine zae ?_
      refine dwp_if_f rfl (rfl) ?_
      refine dwp_skip ?_
      refine zad ?_
      refine zab rfl rfl rfl (op_add' rfl (ev1 rfl) (ev1 rfl) (fun _ => IntWalk.i64_in _ (by omega))) ?_
      refine zab rfl rfl rfl (zac (.inl rfl) (ev1 rfl)) ?_
      refine zae ?_
      refine ⟨i + 1, [0, 1, 2, 3, 4, 5, 6, 7, 8, 9, 10, 11], ⟨by omega, lowB_add hi hlo hy⟩, by simp only []; omega, rfl, ⟨rfl, rfl, rfl, rfl, trivial⟩, ⟨rfl, rfl, rfl, rfl, rfl, rfl, rfl, rfl, rfl, by rw [ptsS_add hi]; rfl, rfl, rfl, trivial⟩⟩
    · refine zad ?_
      refine zab rfl rfl rfl (zac (.inl rfl) (ev1 rfl)) ?_
      refine zab rfl rfl rfl (op_ldw rfl tb32 (ev1 rfl) rfl rfl) ?_
      refine zak rfl rfl rfl (op_y (i := 0) [0, 1, 2, 3, 4, 5, 6, 7, 8, 9, 10] [] [] rfl (ev1 rfl) (ec (ev1 rfl) en) rfl rfl rfl (span_w_n w h ds ts hr hc cc l[i] (hl.1 _ (List.getElem_mem hi)) hy _) rfl rfl rfl rfl rfl) (by simp only [upd, zaa, za]; exact rfl) ?_
      refine zab rfl rfl rfl (op_not rfl (ev1 rfl)) ?_
      refine zae ?_
      refine dwp_if_t rfl (rfl) ?_
      refine dwp_ret ?_
      have e1 := lowB_no hi hy
      have e2 := lowS_stop hl hi hlo hy
      rw [e1, e2]
      refine kend [0, 1, 2, 3, 4, 5, 6, 7, 8, 9, 10, 11] (res_none rfl) rfl rfl ?_ ⟨rfl, rfl, rfl, rfl, rfl, rfl, rfl, rfl, rfl, rfl, rfl, rfl, trivial⟩
      rfl
  · try simp only [decide_eq_true_eq, decide_eq_false_iff_not, beq_iff_eq, bne_iff_ne, beq_eq_false_iff_ne, bne_eq_false_iff_eq, Bool.not_eq_true', Bool.not_eq_false', Bool.and_eq_true, Bool.or_eq_true, Bool.or_eq_false_iff, ne_eq, Decidable.not_not, Int.not_lt, Int.not_le] at c2
    refine dwp_exit ?_
    have hil : l.take i = l := take_all (by omega)
    rw [hil] at hlo
    rw [hlo, lowS_all hlo, hil]
    refine kend [0, 1, 2, 3, 4, 5, 6, 7, 8, 9, 10, 11] (res_none rfl) rfl rfl ?_ ⟨rfl, rfl, rfl, rfl, rfl, rfl, rfl, rfl, rfl, rfl, rfl, rfl, trivial⟩
    rfl
set_option maxRecDepth 4000 in
set_option maxHeartbeats 1000000 in
theorem all_w (w h : Int) (ds : List D) (ts : List TL) (hr : RowOk ds ts) (hc : CvOk w h ts) (cc : C4) (l : List Sp) (hl : chkS l) (hl0 : l.length ≤ 9223372036854775807) (hon : ∀ p ∈ ptsS l, p.y < h * 8 → onS w h p.x p.y = true) (hg : tsRng ts) (hcr : cc.rng) : DFun Tryz.prog 125 [.yld 0, .loc 9 0] [.lp 33 [(2, .loc 1 0), (3, .loc 2 0), (4, .loc 3 0)] #[10] pxrA pxrB .ready none, .flat 3 [.int .i64 (h * 8)], .mix 85 [cvD w h ds], .mix 148 [.yld 4], .lp 18 [(3, .loc 5 0), (5, .loc 6 0)] #[10, 11] earA earB .ready none, .mix 88 [.fn (.func 87) [] [.loc 8 0]], .mix 124 [.hnd 7], .obj (mapQ p2 c4 (mpK true w ts cc (([] : List P2)))), .flat 27 (c4 cc), .mix 25 [.slf 3 l.length (l.flatMap s3)]] (.tup []) [.lp 33 [(2, .loc 1 0), (3, .loc 2 0), (4, .loc 3 0)] #[10] pxrA pxrB (rst (lowB (h * 8) l)) (rpe (.exit 0) (lowB (h * 8) l)), .flat 3 [.int .i64 (h * 8)], .mix 85 [cvD w h ds], .mix 148 [.yld 4], .lp 18 [(3, .loc 5 0), (5, .loc 6 0)] #[10, 11] earA earB .ready none, .mix 88 [.fn (.func 87) [] [.loc 8 0]], .mix 124 [.hnd 7], .obj (mapQ p2 c4 (mpK true w ts cc (ptsS (lowS (h * 8) l)))), .flat 27 (c4 cc), .mix 25 [.slf 3 l.length (l.flatMap s3)]] := by
  refine zam (N := 23) 10 (by kernel_rfl) Tryz.func125 rfl rfl rfl (by simp only [fr0, Nat.zero_add, Nat.reduceAdd]; exact rfl) rfl fun s0 hs0 => ?_
  refine zaf ?_
  refine zah 1 (by simp only [holes, List.cons_append, List.nil_append]; exact rfl) ?_
  refine zad ?_
  refine zak rfl rfl rfl (op_boxm 10 rfl (ev1 rfl) (fun s v h => by cases h <;> rfl) rfl) (by simp only [upd, zaa, za]; exact rfl) ?_
  refine zae ?_
  refine zaf ?_
  refine zah 1 (by simp only [holes, List.cons_append, List.nil_append]; exact rfl) ?_
  refine zad ?_
  refine zab rfl rfl rfl (op_ldm rfl tb25 (ev1 rfl) rfl rfl) ?_
  refine zak rfl rfl rfl (zai [] [] [11] rfl (ev1 rfl) (ec (ev1 rfl) en) rfl rfl (told_d l) rfl rfl rfl rfl rfl rfl) (by simp only [upd, zaa, za]; exact rfl) ?_
  refine zae ?_
  refine dwp_block ?_
  refine dwp_hole ?_
  simp only [List.cons_append, List.nil_append]
  refine dwp_rf (FL := [(2, _)]) (st := (rst (lowB (h * 8) l))) (pe := (rpe .ret (lowB (h * 8) l))) [12, 10, 0, 1, 2, 3, 4, 5, 6, 7, 8, 11] [] [] 12 rfl rfl (ev1 rfl) rfl (subF_lk ⟨rfl, trivial⟩) rfl rfl rfl (told_w w h ds ts hr hc cc l hl hl0 hon hg hcr) rfl rfl rfl rfl rfl rfl rfl (rst_busy _) (fun e => ?_) (fun c e => ?_)
  · simp only [upd, zaa, za]
    refine kend [0, 1, 2, 3, 4, 5, 6, 7, 8, 9] (res_none rfl) rfl rfl ?_ ⟨rfl, rfl, rfl, rfl, rfl, rfl, rfl, rfl, rfl, rfl, trivial⟩
    rfl
  · obtain ⟨e1, rfl⟩ : lowB (h * 8) l = false ∧ c = .ret := by
      cases h : lowB (h * 8) l <;> simp_all [rpe]
    simp only [upd, zaa, za]
    refine dwp_ret ?_
    refine kend [0, 1, 2, 3, 4, 5, 6, 7, 8, 9] (res_none rfl) rfl rfl ?_ ⟨rfl, rfl, rfl, rfl, rfl, rfl, rfl, rfl, rfl, rfl, trivial⟩
    rfl
end Go.Proofs.YtjgnalfnginjbaaGreatDoor
namespace Go.Proofs.YtjgnalfnginjbaaGreatDoor
set_option maxRecDepth 4000
set_option linter.unusedVariables false
set_option linter.unusedSimpArgs false
open Go.RowKit
theorem fl96 : fdL Tryz.prog 96 = some [(0, 1), (1, 1), (2, 4)] := by kernel_rfl
theorem zr124 : zrC Tryz.prog 124 = some [.map none] := by kernel_rfl
set_option maxRecDepth 4000 in
set_option maxHeartbeats 1000000 in
theorem px_p (w h : Int) (ds : List D) (ts : List TL) (hr : RowOk ds ts) (hc : CvOk w h ts) (cc : C4) (l : List Sp) (hl : chkS l) (hl0 : l.length ≤ 1000000) (hon : ∀ p ∈ ptsS l, p.y < h * 8 → onS w h p.x p.y = true) : DFun Tryz.prog 106 [.yld 0, .loc 5 0, .loc 6 0, .loc 7 0] [.lp 18 [(3, .loc 1 0), (5, .loc 2 0)] #[10, 11] earA earB .ready none, .mix 88 [.fn (.func 86) [] [.loc 4 0]], .mix 124 [.hnd 3], .obj (mapQ p2 c4 (mpK false w ts cc (([] : List P2)))), .flat 27 (c4 cc), .mix 25 [.slf 3 l.length (l.flatMap s3)], .flat 3 [.int .i64 (h * 8)], .mix 85 [cvD w h ds]] (.tup []) [.lp 18 [(3, .loc 1 0), (5, .loc 2 0)] #[10, 11] earA earB .ready none, .mix 88 [.fn (.func 86) [] [.loc 4 0]], .mix 124 [.hnd 3], .obj (mapQ p2 c4 (mpK false w ts cc (ptsS (lowS (h * 8) l)))), .flat 27 (c4 cc), .mix 25 [.slf 3 l.length (l.flatMap s3)], .flat 3 [.int .i64 (h * 8)], .mix 85 [cvD w h ds]] := by
  refine zam (N := 33) 8 (by kernel_rfl) Tryz.func106 rfl rfl rfl (by simp only [fr0, Nat.zero_add, Nat.reduceAdd]; exact rfl) rfl fun s0 hs0 => ?_
  refine zaf ?_
  refine zah 1 (by simp only [holes, List.cons_append, List.nil_append]; exact rfl) ?_
  refine zad ?_
  refine zak rfl rfl rfl (op_boxm 8 rfl (ev1 rfl) (fun s v h => by cases h <;> rfl) rfl) (by simp only [upd, zaa, za]; exact rfl) ?_
  refine zae ?_
  refine dwp_scope ?_
  refine zaf ?_
  refine dwp_label ?_
  refine zaf ?_
  refine zah 1 (by simp only [holes, List.cons_append, List.nil_append]; exact rfl) ?_
  refine zad ?_
  refine zab rfl rfl rfl (op_ldm rfl tb25 (ev1 rfl) rfl rfl) ?_
  refine zak rfl rfl rfl (zai [] [] [9] rfl (ev1 rfl) (ec (ev1 rfl) en) rfl rfl (all_d l (by omega)) rfl rfl rfl rfl rfl rfl) (by simp only [upd, zaa, za]; exact rfl) ?_
  refine zae ?_
  refine dwp_block ?_
  refine dwp_hole ?_
  simp only [List.cons_append, List.nil_append]
  refine dwp_rf (FL := [(2, _), (3, _), (4, _)]) (st := (rst (lowB (h * 8) l))) (pe := (rpe (.exit 0) (lowB (h * 8) l))) [10, 6, 7, 8, 0, 1, 2, 3, 4, 9] [] [] 10 rfl rfl (ev1 rfl) rfl (subF_lk ⟨rfl, rfl, rfl, trivial⟩) rfl rfl rfl (all_p w h ds ts hr hc cc l hl (by omega) hon) rfl rfl rfl rfl rfl rfl rfl (rst_busy _) (fun e => ?_) (fun c e => ?_)
  · simp only [upd, zaa, za]
    refine kend [0, 1, 2, 3, 4, 5, 6, 7] (res_none rfl) rfl rfl ?_ ⟨rfl, rfl, rfl, rfl, rfl, rfl, rfl, rfl, trivial⟩
    rfl
  · obtain ⟨e1, rfl⟩ : lowB (h * 8) l = false ∧ c = .exit 0 := by
      cases h : lowB (h * 8) l <;> simp_all [rpe]
    simp only [upd, zaa, za]
    refine dwp_exit ?_
    refine kend [0, 1, 2, 3, 4, 5, 6, 7] (res_none rfl) rfl rfl ?_ ⟨rfl, rfl, rfl, rfl, rfl, rfl, rfl, rfl, trivial⟩
    rfl
set_option maxRecDepth 4000 in
set_option maxHeartbeats 1000000 in
theorem each_p (w h : Int) (ds : List D) (ts : List TL) (hr : RowOk ds ts) (hc : CvOk w h ts) (cc : C4) (l : List Sp) (hl : chkS l) (hl0 : l.length ≤ 1000000) (hon : ∀ p ∈ ptsS l, p.y < h * 8 → onS w h p.x p.y = true) : DFun Tryz.prog 83 [.fn (.func 106) [] [.loc 0 0, .loc 1 0, .loc 2 0], .fn (.func 86) [] [.loc 3 0]] [.mix 25 [.slf 3 l.length (l.flatMap s3)], .flat 3 [.int .i64 (h * 8)], .mix 85 [cvD w h ds], .flat 27 (c4 cc)] (.hnd 4) [.mix 25 [.slf 3 l.length (l.flatMap s3)], .flat 3 [.int .i64 (h * 8)], .mix 85 [cvD w h ds], .flat 27 (c4 cc), .obj (mapQ p2 c4 (mpK false w ts cc (ptsS (lowS (h * 8) l))))] := by
  refine zam (N := 18) 4 (by kernel_rfl) Tryz.func83 rfl rfl rfl (by simp only [fr0, Nat.zero_add, Nat.reduceAdd]; exact rfl) rfl fun s0 hs0 => ?_
  refine zaf ?_
  refine zah 1 (by simp only [holes, List.cons_append, List.nil_append]; exact rfl) ?_
  refine zad ?_
  refine zak rfl rfl rfl (op_boxm 4 rfl (ev1 rfl) (fun s v h => by cases h <;> rfl) rfl) (by simp only [upd, zaa, za]; exact rfl) ?_
  refine zab rfl rfl rfl (zac (.inr rfl) (ev1 rfl)) ?_
  refine zae ?_
  refine zaf ?_
  refine zah 2 (by simp only [holes, List.cons_append, List.nil_append]; exact rfl) ?_
  refine zad ?_
  refine zak rfl rfl rfl (op_mkq p2 c4 5 rfl rfl) (by simp only [upd, zaa, za]; exact rfl) ?_
  refine zak rfl rfl rfl (op_alloc 6 rfl zr124 rfl) (by simp only [upd, zaa, za]; exact rfl) ?_
  refine walk_s rfl rfl (op_stfq rfl tb124 (ev1 rfl) (ev1 rfl) rfl rfl (by decide)) (by simp only [upd, zaa, za]; exact rfl) ?_
  refine zae ?_
  refine zaf ?_
  refine zaf ?_
  refine zad ?_
  refine zab rfl rfl rfl (zac (.inl rfl) (ev1 rfl)) ?_
  refine zae ?_
  refine dwp_block ?_
  refine dwp_hole ?_
  simp only [List.cons_append, List.nil_append]
  refine dwp_rf (FL := [(3, _), (5, _)]) (st := .ready) (pe := none) [7, 4, 6, 5, 3, 0, 1, 2] [] [] 7 rfl rfl (ev1 rfl) rfl (subF_lk ⟨rfl, rfl, trivial⟩) rfl rfl rfl (px_p w h ds ts hr hc cc l hl hl0 hon) rfl rfl rfl rfl rfl rfl rfl (by simp) (fun e => ?_) (fun c e => ?_)
  · simp only [upd, zaa, za]
    refine zaf ?_
    refine zad ?_
    refine zab rfl rfl rfl (op_ldm rfl tb124 (ev1 rfl) rfl rfl) ?_
    refine zab rfl rfl rfl (zac (.inr rfl) (ev1 rfl)) ?_
    refine zae ?_
    refine dwp_ret ?_
    refine kend [0, 1, 2, 3, 5] (rs1 rfl (rv_t rfl)) rfl rfl ?_ ⟨rfl, rfl, rfl, rfl, rfl, trivial⟩
    rfl
  · cases e
theorem drawn_ok_p (w h : Int) (ds : List D) (ts : List TL) (hr : RowOk ds ts) (hc : CvOk w h ts) (cc : C4) (l : List Sp) (hl : chkS l) : chkS (clipS (⟨0, 0, w * 8 - 1, 255⟩ : Bx) l) ∧ (∀ p ∈ ptsS (clipS (⟨0, 0, w * 8 - 1, 255⟩ : Bx) l), p.y < h * 8 → onS w h p.x p.y = true) ∧ ∀ x y, onS w h x y = true → ((⟨x, y⟩ : P2) ∈ ptsS (lowS (h * 8) (clipS (⟨0, 0, w * 8 - 1, 255⟩ : Bx) l)) ↔ (⟨x, y⟩ : P2) ∈ ptsS l) := by
  have hb := mayS_b hc.may
  have hin : ∀ x y, (⟨x, y⟩ : P2) ∈ ptsS (clipS (⟨0, 0, w * 8 - 1, 255⟩ : Bx) l) ↔ (0 ≤ x ∧ x ≤ w * 8 - 1) ∧ (0 ≤ y ∧ y ≤ 255) ∧ (⟨x, y⟩ : P2) ∈ ptsS l := fun x y => by
    rw [ptsS_mem, ptsS_mem, clip_has]
    show (_ ∧ (0 ≤ x ∧ x ≤ w * 8 - 1) ∧ 0 ≤ y ∧ y ≤ 255) ↔ _
    constructor
    · rintro ⟨h1, h2, h3⟩; exact ⟨h2, h3, h1⟩
    · rintro ⟨h2, h3, h1⟩; exact ⟨h1, h2, h3⟩
  refine ⟨clip_chk hl, fun p hp hy => ?_, fun x y ho => ?_⟩
  · obtain ⟨h1, h2, _⟩ := (hin p.x p.y).1 hp
    exact onS_iff.2 ⟨by omega, by omega⟩
  · have hxy := onS_iff.1 ho
    rw [lowS_mem, hin]
    constructor
    · exact fun g => g.1.2.2
    · exact fun g => ⟨⟨by omega, by omega, g⟩, by show y < _; omega⟩
set_option maxRecDepth 4000 in
set_option maxHeartbeats 1000000 in
theorem drawn_p (w h : Int) (ds : List D) (ts : List TL) (hr : RowOk ds ts) (hc : CvOk w h ts) (cc : C4) (l : List Sp) (hl : chkS l) (hn : l.length ≤ 1000000) : DFun Tryz.prog 49 [.agg [cvD w h ds], .slf 3 l.length (l.flatMap s3), .fn (.func 86) [] [.loc 0 0]] [.flat 27 (c4 cc)] (cvD w h (dpR (drwC false w h ts cc l))) [.flat 27 (c4 cc)] := by
  obtain ⟨hck, hon, hmem⟩ := drawn_ok_p w h ds ts hr hc cc l hl
  have hcl := clipS_len (⟨0, 0, w * 8 - 1, 255⟩ : Bx) l
  have hPl : (ptsS (lowS (h * 8) (clipS (⟨0, 0, w * 8 - 1, 255⟩ : Bx) l))).length ≤ 600000000 := low_len hck (by omega)
  have hb := mayS_b hc.may
  refine zam (N := 42) 1 (by kernel_rfl) Tryz.func49 rfl rfl rfl (by simp only [fr0, Nat.zero_add, Nat.reduceAdd]; exact rfl) rfl fun s0 hs0 => ?_
  refine dwp_len (t := 1) rfl fun hl1 hL1 => ?_
  refine zaf ?_
  refine zah 1 (by simp only [holes, List.cons_append, List.nil_append]; exact rfl) ?_
  refine zad ?_
  refine zak rfl rfl rfl (op_boxam 1 rfl (ev1 rfl) rfl) (by simp only [upd, zaa, za]; exact rfl) ?_
  refine zab rfl rfl rfl (zac (.inr rfl) (ev1 rfl)) ?_
  refine zae ?_
  refine zaf ?_
  refine zah 4 (by simp only [holes, List.cons_append, List.nil_append]; exact rfl) ?_
  refine zad ?_
  refine zab rfl rfl rfl (op_ldmw rfl tb85 (ev1 rfl) rfl rfl) ?_
  refine zab rfl rfl rfl (zac (.inl rfl) (ev1 rfl)) ?_
  refine zak rfl rfl rfl (zai [] [] [2, 3, 4] rfl (ev1 rfl) (ec (ev1 rfl) (ec (ev1 rfl) en)) rfl rfl (pixels_d w h ds ts hr hc l hl (by omega)) rfl rfl rfl rfl rfl rfl) (by simp only [upd, zaa, za]; exact rfl) ?_
  refine zab rfl rfl rfl (zac (.inl rfl) (ev1 rfl)) ?_
  refine zak rfl rfl rfl (zai [2, 3, 4, 0] [] [5] rfl (ev1 rfl) (ec (ev1 rfl) (ec (ev1 rfl) en)) rfl rfl (each_p w h ds ts hr hc cc (clipS (⟨0, 0, w * 8 - 1, 255⟩ : Bx) l) hck (by omega) hon) rfl rfl rfl rfl rfl rfl) (by simp only [upd, zaa, za]; exact rfl) ?_
  refine zab rfl rfl rfl (zac (.inr rfl) (ev1 rfl)) ?_
  refine zae ?_
  refine zaf ?_
  have hml := mpK_len false w ts cc (ptsS (lowS (h * 8) (clipS (⟨0, 0, w * 8 - 1, 255⟩ : Bx) l)))
  refine zah 1 (by simp only [holes, List.cons_append, List.nil_append]; exact rfl) ?_
  refine zad ?_
  refine zab rfl rfl rfl (zac (.inl rfl) (ev1 rfl)) ?_
  refine zab rfl rfl rfl (op_lenq rfl mp124 (ev1 rfl) rfl) ?_
  refine zak rfl rfl rfl (op_mk0 6 ((ptsS (lowS (h * 8) (clipS (⟨0, 0, w * 8 - 1, 255⟩ : Bx) l))).length) rfl sl129 zr96 (ev1 rfl) (ev1 rfl) (fun _ => rfl) (fun _ => by rw [hml]) rfl (fun _ => ⟨by omega, by omega⟩)) (by simp only [upd, zaa, za]; exact rfl) ?_
  refine zab rfl rfl rfl (zac (.inr rfl) (ev1 rfl)) ?_
  refine zae ?_
  refine zaf ?_
  refine zaf ?_
  refine zah 1 (by simp only [holes, List.cons_append, List.nil_append]; exact rfl) ?_
  refine zad ?_
  refine zab rfl rfl rfl (zac (.inl rfl) (ev1 rfl)) ?_
  refine zak rfl rfl rfl (op_rgq 7 rfl mp124 (ev1 rfl) rfl rfl) (by simp only [upd, zaa, za]; exact rfl) ?_
  refine zae ?_
  refine dwp_block ?_
  refine dwp_loopS ⟨hs0, rfl⟩ (α := List Nat) (fun sn => []) [(3, _), (8, _), (21, _)] (fun sn => [(6, .arr 96 6 (dlN false w ts cc (ptsS (lowS (h * 8) (clipS (⟨0, 0, w * 8 - 1, 255⟩ : Bx) l))) sn).length ((dlN false w ts cc (ptsS (lowS (h * 8) (clipS (⟨0, 0, w * 8 - 1, 255⟩ : Bx) l))) sn).flatMap dtC)), (7, .mit (.hnd 5) (mpK false w ts cc (ptsS (lowS (h * 8) (clipS (⟨0, 0, w * 8 - 1, 255⟩ : Bx) l)))).length sn)]) [_, _, _, _, _, _, .hole, .hole] (fun sn => sn.Nodup ∧ ∀ p ∈ sn, p < (ptsS (lowS (h * 8) (clipS (⟨0, 0, w * 8 - 1, 255⟩ : Bx) l))).length) (fun sn => (ptsS (lowS (h * 8) (clipS (⟨0, 0, w * 8 - 1, 255⟩ : Bx) l))).length - sn.length) [] [0, 1, 2, 3, 4, 5, 6, 7] (⟨List.nodup_nil, fun p hp => by simp at hp⟩) rfl ⟨rfl, rfl, rfl, trivial⟩ trivial ⟨rfl, rfl, rfl, rfl, rfl, rfl, rfl, rfl, trivial⟩ ?_
  intro sn hx
  simp only [upd, zaa, za, List.cons_append, List.nil_append]
  obtain ⟨hnd, hlt⟩ := hx
  have hsl := all_in hnd hlt
  have hdl := dlN_len false w ts cc (ptsS (lowS (h * 8) (clipS (⟨0, 0, w * 8 - 1, 255⟩ : Bx) l))) sn
  refine zaf ?_
  refine zad ?_
  refine walk_e rfl rfl rfl (op_nxq rfl (ev1 rfl) rfl rfl) ?_
  rintro d wr (⟨rfl, rfl, hall⟩ | ⟨p, kp, ep, hep, hnp, rfl, rfl⟩)
  · simp only [upd]
    refine zab rfl rfl rfl (op_ext rfl (ev1 rfl) rfl) ?_
    refine zae ?_
    refine zaf ?_
    refine dwp_if_f rfl (rfl) ?_
    refine dwp_exit ?_
    refine zaf ?_
    refine dwp_giveA 8 rfl rfl (by simp only [zaa, za]; exact rfl) ?_
    have hfin := dlN_puts (k := false) hc cc hmem hlt (fun p hp => hall p (by rw [hml]; exact hp))
    refine zad ?_
    refine zab rfl rfl rfl (op_fa rfl fo85_0 (ev1 rfl)) ?_
    refine zab rfl rfl rfl (op_ldm rfl tb33 (ev1 rfl) rfl rfl) ?_
    refine zab rfl rfl rfl (op_mkf rfl (ec (ev1 rfl) en) en) ?_
    refine zab rfl rfl rfl (zac (.inr rfl) (ev1 rfl)) ?_
    refine zae ?_
    refine zaf ?_
    refine zad ?_
    refine zab rfl rfl rfl (zac (.inl rfl) (ev1 rfl)) ?_
    refine zab rfl rfl rfl (zac (.inl rfl) (ev1 rfl)) ?_
    refine zab rfl rfl rfl (zai [] [] [] rfl (ev1 rfl) (ec (ev1 rfl) en) rfl rfl (with_d w h ds ts hr hc _) rfl rfl rfl rfl rfl rfl) ?_
    refine zab rfl rfl rfl (zac (.inr rfl) (ev1 rfl)) ?_
    refine zae ?_
    refine dwp_ret ?_
    refine kend [0] (rs1 rfl (rv_t rfl)) rfl rfl ?_ ⟨rfl, trivial⟩
    rw [hfin]
  · simp only [upd, zaa, za]
    obtain ⟨hkp, rfl⟩ := mpK_get hep
    have hp1 := (List.getElem?_eq_some_iff.1 hkp).1
    have hI : (sn ++ [p]).Nodup ∧ ∀ r ∈ sn ++ [p], r < (ptsS (lowS (h * 8) (clipS (⟨0, 0, w * 8 - 1, 255⟩ : Bx) l))).length := ⟨by rw [List.nodup_append]; exact ⟨hnd, by simp, fun a ha b hb => by simp at hb; subst hb; exact fun e => hnp (e ▸ ha)⟩, fun r hr => (List.mem_append.1 hr).elim (hlt r) fun h => by simp at h; subst h; exact hp1⟩
    have hle2 := all_in hI.1 hI.2
    refine zab rfl rfl rfl (op_ext rfl (ev1 rfl) rfl) ?_
    refine zae ?_
    refine zaf ?_
    refine dwp_if_t rfl (rfl) ?_
    refine dwp_skip ?_
    refine dwp_block ?_
    refine zaf ?_
    refine zah 2 (by simp only [holes, List.cons_append, List.nil_append]; exact rfl) ?_
    refine zad ?_
    refine zab rfl rfl rfl (op_etq rfl (ev1 rfl) rfl rfl (hep)) ?_
    refine zab rfl rfl rfl (op_ext rfl (ev1 rfl) rfl) ?_
    refine zab rfl rfl rfl (op_ext rfl (ev1 rfl) rfl) ?_
    refine zak rfl rfl rfl (op_alloc 8 rfl zr51 rfl) (by simp only [upd, zaa, za]; exact rfl) ?_
    refine zak rfl rfl rfl (op_alloc 9 rfl zr27 rfl) (by simp only [upd, zaa, za]; exact rfl) ?_
    refine walk_s rfl rfl (op_stwa rfl tb51 (ev1 rfl) (ev1 rfl) rfl rfl rfl rfl) (by simp only [upd, zaa, za]; exact rfl) ?_
    refine walk_s rfl rfl (op_stwa rfl tb27 (ev1 rfl) (ev1 rfl) rfl rfl rfl rfl) (by simp only [upd, zaa, za]; exact rfl) ?_
    refine zae ?_
    refine zah 1 (by simp only [holes, List.cons_append, List.nil_append]; exact rfl) ?_
    refine zad ?_
    refine zab rfl rfl rfl (zac (.inl rfl) (ev1 rfl)) ?_
    refine zab rfl rfl rfl (op_fa rfl fo51_0 (ev1 rfl)) ?_
    refine zab rfl rfl rfl (zal rfl tb3 (ev1 rfl) rfl rfl) ?_
    refine zab rfl rfl rfl (op_fa rfl fo51_1 (ev1 rfl)) ?_
    refine zab rfl rfl rfl (zal rfl tb3 (ev1 rfl) rfl rfl) ?_
    refine zab rfl rfl rfl (op_ldw rfl tb27 (ev1 rfl) rfl rfl) ?_
    refine zab rfl rfl rfl (op_build (ps := [(0, .tmp 29), (1, .tmp 31), (2, .tmp 32)]) rfl fl96 zr96 (vc (ev1 rfl) (vc (ev1 rfl) (vc (ev1 rfl) vn))) rfl rfl) ?_
    refine zab rfl rfl rfl (op_bs (ps := [(0, .tmp 33)]) rfl sl129 zr96 rfl (vc (ev1 rfl) vn) rfl (by decide) (by decide)) ?_
    refine zak rfl rfl rfl (op_app (j := 10) rfl sl129 zr96 rfl (ev1 rfl) (ev1 rfl) src_slf rfl rfl (fun _ => rfl) (fun _ => ⟨by omega, by omega⟩)) (by simp only [upd, zaa, za]; exact rfl) ?_
    refine zab rfl rfl rfl (zac (.inr rfl) (ev1 rfl)) ?_
    refine zae ?_
    refine ⟨sn ++ [p], [0, 1, 2, 3, 4, 5, 10, 7], hI, by simp only [List.length_append, List.length_cons, List.length_nil] at hle2 ⊢; omega, rfl, ⟨rfl, rfl, rfl, trivial⟩, ⟨rfl, rfl, rfl, rfl, rfl, rfl, by rw [dlN_add hkp, List.length_append, List.flatMap_append]; rfl, rfl, trivial⟩⟩
set_option maxRecDepth 4000 in
set_option maxHeartbeats 1000000 in
theorem px_w (w h : Int) (ds : List D) (ts : List TL) (hr : RowOk ds ts) (hc : CvOk w h ts) (cc : C4) (l : List Sp) (hl : chkS l) (hl0 : l.length ≤ 1000000) (hon : ∀ p ∈ ptsS l, p.y < h * 8 → onS w h p.x p.y = true) (hg : tsRng ts) (hcr : cc.rng) : DFun Tryz.prog 106 [.yld 0, .loc 5 0, .loc 6 0, .loc 7 0] [.lp 18 [(3, .loc 1 0), (5, .loc 2 0)] #[10, 11] earA earB .ready none, .mix 88 [.fn (.func 87) [] [.loc 4 0]], .mix 124 [.hnd 3], .obj (mapQ p2 c4 (mpK true w ts cc (([] : List P2)))), .flat 27 (c4 cc), .mix 25 [.slf 3 l.length (l.flatMap s3)], .flat 3 [.int .i64 (h * 8)], .mix 85 [cvD w h ds]] (.tup []) [.lp 18 [(3, .loc 1 0), (5, .loc 2 0)] #[10, 11] earA earB .ready none, .mix 88 [.fn (.func 87) [] [.loc 4 0]], .mix 124 [.hnd 3], .obj (mapQ p2 c4 (mpK true w ts cc (ptsS (lowS (h * 8) l)))), .flat 27 (c4 cc), .mix 25 [.slf 3 l.length (l.flatMap s3)], .flat 3 [.int .i64 (h * 8)], .mix 85 [cvD w h ds]] := by
  refine zam (N := 33) 8 (by kernel_rfl) Tryz.func106 rfl rfl rfl (by simp only [fr0, Nat.zero_add, Nat.reduceAdd]; exact rfl) rfl fun s0 hs0 => ?_
  refine zaf ?_
  refine zah 1 (by simp only [holes, List.cons_append, List.nil_append]; exact rfl) ?_
  refine zad ?_
  refine zak rfl rfl rfl (op_boxm 8 rfl (ev1 rfl) (fun s v h => by cases h <;> rfl) rfl) (by simp only [upd, zaa, za]; exact rfl) ?_
  refine zae ?_
  refine dwp_scope ?_
  refine zaf ?_
  refine dwp_label ?_
  refine zaf ?_
  refine zah 1 (by simp only [holes, List.cons_append, List.nil_append]; exact rfl) ?_
  refine zad ?_
  refine zab rfl rfl rfl (op_ldm rfl tb25 (ev1 rfl) rfl rfl) ?_
  refine zak rfl rfl rfl (zai [] [] [9] rfl (ev1 rfl) (ec (ev1 rfl) en) rfl rfl (all_d l (by omega)) rfl rfl rfl rfl rfl rfl) (by simp only [upd, zaa, za]; exact rfl) ?_
  refine zae ?_
  refine dwp_block ?_
  refine dwp_hole ?_
  simp only [List.cons_append, List.nil_append]
  refine dwp_rf (FL := [(2, _), (3, _), (4, _)]) (st := (rst (lowB (h * 8) l))) (pe := (rpe (.exit 0) (lowB (h * 8) l))) [10, 6, 7, 8, 0, 1, 2, 3, 4, 9] [] [] 10 rfl rfl (ev1 rfl) rfl (subF_lk ⟨rfl, rfl, rfl, trivial⟩) rfl rfl rfl (all_w w h ds ts hr hc cc l hl (by omega) hon hg hcr) rfl rfl rfl rfl rfl rfl rfl (rst_busy _) (fun e => ?_) (fun c e => ?_)
  · simp only [upd, zaa, za]
    refine kend [0, 1, 2, 3, 4, 5, 6, 7] (res_none rfl) rfl rfl ?_ ⟨rfl, rfl, rfl, rfl, rfl, rfl, rfl, rfl, trivial⟩
    rfl
  · obtain ⟨e1, rfl⟩ : lowB (h * 8) l = false ∧ c = .exit 0 := by
      cases h : lowB (h * 8) l <;> simp_all [rpe]
    simp only [upd, zaa, za]
    refine dwp_exit ?_
    refine kend [0, 1, 2, 3, 4, 5, 6, 7] (res_none rfl) rfl rfl ?_ ⟨rfl, rfl, rfl, rfl, rfl, rfl, rfl, rfl, trivial⟩
    rfl
set_option maxRecDepth 4000 in
set_option maxHeartbeats 1000000 in
theorem each_w (w h : Int) (ds : List D) (ts : List TL) (hr : RowOk ds ts) (hc : CvOk w h ts) (cc : C4) (l : List Sp) (hl : chkS l) (hl0 : l.length ≤ 1000000) (hon : ∀ p ∈ ptsS l, p.y < h * 8 → onS w h p.x p.y = true) (hg : tsRng ts) (hcr : cc.rng) : DFun Tryz.prog 83 [.fn (.func 106) [] [.loc 0 0, .loc 1 0, .loc 2 0], .fn (.func 87) [] [.loc 3 0]] [.mix 25 [.slf 3 l.length (l.flatMap s3)], .flat 3 [.int .i64 (h * 8)], .mix 85 [cvD w h ds], .flat 27 (c4 cc)] (.hnd 4) [.mix 25 [.slf 3 l.length (l.flatMap s3)], .flat 3 [.int .i64 (h * 8)], .mix 85 [cvD w h ds], .flat 27 (c4 cc), .obj (mapQ p2 c4 (mpK true w ts cc (ptsS (lowS (h * 8) l))))] := by
  refine zam (N := 18) 4 (by kernel_rfl) Tryz.func83 rfl rfl rfl (by simp only [fr0, Nat.zero_add, Nat.reduceAdd]; exact rfl) rfl fun s0 hs0 => ?_
  refine zaf ?_
  refine zah 1 (by simp only [holes, List.cons_append, List.nil_append]; exact rfl) ?_
  refine zad ?_
  refine zak rfl rfl rfl (op_boxm 4 rfl (ev1 rfl) (fun s v h => by cases h <;> rfl) rfl) (by simp only [upd, zaa, za]; exact rfl) ?_
  refine zab rfl rfl rfl (zac (.inr rfl) (ev1 rfl)) ?_
  refine zae ?_
  refine zaf ?_
  refine zah 2 (by simp only [holes, List.cons_append, List.nil_append]; exact rfl) ?_
  refine zad ?_
  refine zak rfl rfl rfl (op_mkq p2 c4 5 rfl rfl) (by simp only [upd, zaa, za]; exact rfl) ?_
  refine zak rfl rfl rfl (op_alloc 6 rfl zr124 rfl) (by simp only [upd, zaa, za]; exact rfl) ?_
  refine walk_s rfl rfl (op_stfq rfl tb124 (ev1 rfl) (ev1 rfl) rfl rfl (by decide)) (by simp only [upd, zaa, za]; exact rfl) ?_
  refine zae ?_
  refine zaf ?_
  refine zaf ?_
  refine zad ?_
  refine zab rfl rfl rfl (zac (.inl rfl) (ev1 rfl)) ?_
  refine zae ?_
  refine dwp_block ?_
  refine dwp_hole ?_
  simp only [List.cons_append, List.nil_append]
  refine dwp_rf (FL := [(3, _), (5, _)]) (st := .ready) (pe := none) [7, 4, 6, 5, 3, 0, 1, 2] [] [] 7 rfl rfl (ev1 rfl) rfl (subF_lk ⟨rfl, rfl, trivial⟩) rfl rfl rfl (px_w w h ds ts hr hc cc l hl hl0 hon hg hcr) rfl rfl rfl rfl rfl rfl rfl (by simp) (fun e => ?_) (fun c e => ?_)
  · simp only [upd, zaa, za]
    refine zaf ?_
    refine zad ?_
    refine zab rfl rfl rfl (op_ldm rfl tb124 (ev1 rfl) rfl rfl) ?_
    refine zab rfl rfl rfl (zac (.inr rfl) (ev1 rfl)) ?_
    refine zae ?_
    refine dwp_ret ?_
    refine kend [0, 1, 2, 3, 5] (rs1 rfl (rv_t rfl)) rfl rfl ?_ ⟨rfl, rfl, rfl, rfl, rfl, trivial⟩
    rfl
  · cases e
set_option maxRecDepth 4000 in
set_option maxHeartbeats 1000000 in
theorem drawn_w (w h : Int) (ds : List D) (ts : List TL) (hr : RowOk ds ts) (hc : CvOk w h ts) (cc : C4) (l : List Sp) (hl : chkS l) (hn : l.length ≤ 1000000) (hg : tsRng ts) (hcr : cc.rng) : DFun Tryz.prog 49 [.agg [cvD w h ds], .slf 3 l.length (l.flatMap s3), .fn (.func 87) [] [.loc 0 0]] [.flat 27 (c4 cc)] (cvD w h (dpR (drwC true w h ts cc l))) [.flat 27 (c4 cc)] := by
  obtain ⟨hck, hon, hmem⟩ := drawn_ok_p w h ds ts hr hc cc l hl
  have hcl := clipS_len (⟨0, 0, w * 8 - 1, 255⟩ : Bx) l
  have hPl : (ptsS (lowS (h * 8) (clipS (⟨0, 0, w * 8 - 1, 255⟩ : Bx) l))).length ≤ 600000000 := low_len hck (by omega)
  have hb := mayS_b hc.may
  refine zam (N := 42) 1 (by kernel_rfl) Tryz.func49 rfl rfl rfl (by simp only [fr0, Nat.zero_add, Nat.reduceAdd]; exact rfl) rfl fun s0 hs0 => ?_
  refine dwp_len (t := 1) rfl fun hl1 hL1 => ?_
  refine zaf ?_
  refine zah 1 (by simp only [holes, List.cons_append, List.nil_append]; exact rfl) ?_
  refine zad ?_
  refine zak rfl rfl rfl (op_boxam 1 rfl (ev1 rfl) rfl) (by simp only [upd, zaa, za]; exact rfl) ?_
  refine zab rfl rfl rfl (zac (.inr rfl) (ev1 rfl)) ?_
  refine zae ?_
  refine zaf ?_
  refine zah 4 (by simp only [holes, List.cons_append, List.nil_append]; exact rfl) ?_
  refine zad ?_
  refine zab rfl rfl rfl (op_ldmw rfl tb85 (ev1 rfl) rfl rfl) ?_
  refine zab rfl rfl rfl (zac (.inl rfl) (ev1 rfl)) ?_
  refine zak rfl rfl rfl (zai [] [] [2, 3, 4] rfl (ev1 rfl) (ec (ev1 rfl) (ec (ev1 rfl) en)) rfl rfl (pixels_d w h ds ts hr hc l hl (by omega)) rfl rfl rfl rfl rfl rfl) (by simp only [upd, zaa, za]; exact rfl) ?_
  refine zab rfl rfl rfl (zac (.inl rfl) (ev1 rfl)) ?_
  refine zak rfl rfl rfl (zai [2, 3, 4, 0] [] [5] rfl (ev1 rfl) (ec (ev1 rfl) (ec (ev1 rfl) en)) rfl rfl (each_w w h ds ts hr hc cc (clipS (⟨0, 0, w * 8 - 1, 255⟩ : Bx) l) hck (by omega) hon hg hcr) rfl rfl rfl rfl rfl rfl) (by simp only [upd, zaa, za]; exact rfl) ?_
  refine zab rfl rfl rfl (zac (.inr rfl) (ev1 rfl)) ?_
  refine zae ?_
  refine zaf ?_
  have hml := mpK_len true w ts cc (ptsS (lowS (h * 8) (clipS (⟨0, 0, w * 8 - 1, 255⟩ : Bx) l)))
  refine zah 1 (by simp only [holes, List.cons_append, List.nil_append]; exact rfl) ?_
  refine zad ?_
  refine zab rfl rfl rfl (zac (.inl rfl) (ev1 rfl)) ?_
  refine zab rfl rfl rfl (op_lenq rfl mp124 (ev1 rfl) rfl) ?_
  refine zak rfl rfl rfl (op_mk0 6 ((ptsS (lowS (h * 8) (clipS (⟨0, 0, w * 8 - 1, 255⟩ : Bx) l))).length) rfl sl129 zr96 (ev1 rfl) (ev1 rfl) (fun _ => rfl) (fun _ => by rw [hml]) rfl (fun _ => ⟨by omega, by omega⟩)) (by simp only [upd, zaa, za]; exact rfl) ?_
  refine zab rfl rfl rfl (zac (.inr rfl) (ev1 rfl)) ?_
  refine zae ?_
  refine zaf ?_
  refine zaf ?_
  refine zah 1 (by simp only [holes, List.cons_append, List.nil_append]; exact rfl) ?_
  refine zad ?_
  refine zab rfl rfl rfl (zac (.inl rfl) (ev1 rfl)) ?_
  refine zak rfl rfl rfl (op_rgq 7 rfl mp124 (ev1 rfl) rfl rfl) (by simp only [upd, zaa, za]; exact rfl) ?_
  refine zae ?_
  refine dwp_block ?_
  refine dwp_loopS ⟨hs0, rfl⟩ (α := List Nat) (fun sn => []) [(3, _), (8, _), (21, _)] (fun sn => [(6, .arr 96 6 (dlN true w ts cc (ptsS (lowS (h * 8) (clipS (⟨0, 0, w * 8 - 1, 255⟩ : Bx) l))) sn).length ((dlN true w ts cc (ptsS (lowS (h * 8) (clipS (⟨0, 0, w * 8 - 1, 255⟩ : Bx) l))) sn).flatMap dtC)), (7, .mit (.hnd 5) (mpK true w ts cc (ptsS (lowS (h * 8) (clipS (⟨0, 0, w * 8 - 1, 255⟩ : Bx) l)))).length sn)]) [_, _, _, _, _, _, .hole, .hole] (fun sn => sn.Nodup ∧ ∀ p ∈ sn, p < (ptsS (lowS (h * 8) (clipS (⟨0, 0, w * 8 - 1, 255⟩ : Bx) l))).length) (fun sn => (ptsS (lowS (h * 8) (clipS (⟨0, 0, w * 8 - 1, 255⟩ : Bx) l))).length - sn.length) [] [0, 1, 2, 3, 4, 5, 6, 7] (⟨List.nodup_nil, fun p hp => by simp at hp⟩) rfl ⟨rfl, rfl, rfl, trivial⟩ trivial ⟨rfl, rfl, rfl, rfl, rfl, rfl, rfl, rfl, trivial⟩ ?_
  intro sn hx
  simp only [upd, zaa, za, List.cons_append, List.nil_append]
  obtain ⟨hnd, hlt⟩ := hx
  have hsl := all_in hnd hlt
  have hdl := dlN_len true w ts cc (ptsS (lowS (h * 8) (clipS (⟨0, 0, w * 8 - 1, 255⟩ : Bx) l))) sn
  refine zaf ?_
  refine zad ?_
  refine walk_e rfl rfl rfl (op_nxq rfl (ev1 rfl) rfl rfl) ?_
  rintro d wr (⟨rfl, rfl, hall⟩ | ⟨p, kp, ep, hep, hnp, rfl, rfl⟩)
  · simp only [upd]
    refine zab rfl rfl rfl (op_ext rfl (ev1 rfl) rfl) ?_
    refine zae ?_
    refine zaf ?_
    refine dwp_if_f rfl (rfl) ?_
    refine dwp_exit ?_
    refine zaf ?_
    refine dwp_giveA 8 rfl rfl (by simp only [zaa, za]; exact rfl) ?_
    have hfin := dlN_puts (k := true) hc cc hmem hlt (fun p hp => hall p (by rw [hml]; exact hp))
    refine zad ?_
    refine zab rfl rfl rfl (op_fa rfl fo85_0 (ev1 rfl)) ?_
    refine zab rfl rfl rfl (op_ldm rfl tb33 (ev1 rfl) rfl rfl) ?_
    refine zab rfl rfl rfl (op_mkf rfl (ec (ev1 rfl) en) en) ?_
    refine zab rfl rfl rfl (zac (.inr rfl) (ev1 rfl)) ?_
    refine zae ?_
    refine zaf ?_
    refine zad ?_
    refine zab rfl rfl rfl (zac (.inl rfl) (ev1 rfl)) ?_
    refine zab rfl rfl rfl (zac (.inl rfl) (ev1 rfl)) ?_
    refine zab rfl rfl rfl (zai [] [] [] rfl (ev1 rfl) (ec (ev1 rfl) en) rfl rfl (with_d w h ds ts hr hc _) rfl rfl rfl rfl rfl rfl) ?_
    refine zab rfl rfl rfl (zac (.inr rfl) (ev1 rfl)) ?_
    refine zae ?_
    refine dwp_ret ?_
    refine kend [0] (rs1 rfl (rv_t rfl)) rfl rfl ?_ ⟨rfl, trivial⟩
    rw [hfin]
  · simp only [upd, zaa, za]
    obtain ⟨hkp, rfl⟩ := mpK_get hep
    have hp1 := (List.getElem?_eq_some_iff.1 hkp).1
    have hI : (sn ++ [p]).Nodup ∧ ∀ r ∈ sn ++ [p], r < (ptsS (lowS (h * 8) (clipS (⟨0, 0, w * 8 - 1, 255⟩ : Bx) l))).length := ⟨by rw [List.nodup_append]; exact ⟨hnd, by simp, fun a ha b hb => by simp at hb; subst hb; exact fun e => hnp (e ▸ ha)⟩, fun r hr => (List.mem_append.1 hr).elim (hlt r) fun h => by simp at h; subst h; exact hp1⟩
    have hle2 := all_in hI.1 hI.2
    refine zab rfl rfl rfl (op_ext rfl (ev1 rfl) rfl) ?_
    refine zae ?_
    refine zaf ?_
    refine dwp_if_t rfl (rfl) ?_
    refine dwp_skip ?_
    refine dwp_block ?_
    refine zaf ?_
    refine zah 2 (by simp only [holes, List.cons_append, List.nil_append]; exact rfl) ?_
    refine zad ?_
    refine zab rfl rfl rfl (op_etq rfl (ev1 rfl) rfl rfl (hep)) ?_
    refine zab rfl rfl rfl (op_ext rfl (ev1 rfl) rfl) ?_
    refine zab rfl rfl rfl (op_ext rfl (ev1 rfl) rfl) ?_
    refine zak rfl rfl rfl (op_alloc 8 rfl zr51 rfl) (by simp only [upd, zaa, za]; exact rfl) ?_
    refine zak rfl rfl rfl (op_alloc 9 rfl zr27 rfl) (by simp only [upd, zaa, za]; exact rfl) ?_
    refine walk_s rfl rfl (op_stwa rfl tb51 (ev1 rfl) (ev1 rfl) rfl rfl rfl rfl) (by simp only [upd, zaa, za]; exact rfl) ?_
    refine walk_s rfl rfl (op_stwa rfl tb27 (ev1 rfl) (ev1 rfl) rfl rfl rfl rfl) (by simp only [upd, zaa, za]; exact rfl) ?_
    refine zae ?_
    refine zah 1 (by simp only [holes, List.cons_append, List.nil_append]; exact rfl) ?_
    refine zad ?_
    refine zab rfl rfl rfl (zac (.inl rfl) (ev1 rfl)) ?_
    refine zab rfl rfl rfl (op_fa rfl fo51_0 (ev1 rfl)) ?_
    refine zab rfl rfl rfl (zal rfl tb3 (ev1 rfl) rfl rfl) ?_
    refine zab rfl rfl rfl (op_fa rfl fo51_1 (ev1 rfl)) ?_
    refine zab rfl rfl rfl (zal rfl tb3 (ev1 rfl) rfl rfl) ?_
    refine zab rfl rfl rfl (op_ldw rfl tb27 (ev1 rfl) rfl rfl) ?_
    refine zab rfl rfl rfl (op_build (ps := [(0, .tmp 29), (1, .tmp 31), (2, .tmp 32)]) rfl fl96 zr96 (vc (ev1 rfl) (vc (ev1 rfl) (vc (ev1 rfl) vn))) rfl rfl) ?_
    refine zab rfl rfl rfl (op_bs (ps := [(0, .tmp 33)]) rfl sl129 zr96 rfl (vc (ev1 rfl) vn) rfl (by decide) (by decide)) ?_
    refine zak rfl rfl rfl (op_app (j := 10) rfl sl129 zr96 rfl (ev1 rfl) (ev1 rfl) src_slf rfl rfl (fun _ => rfl) (fun _ => ⟨by omega, by omega⟩)) (by simp only [upd, zaa, za]; exact rfl) ?_
    refine zab rfl rfl rfl (zac (.inr rfl) (ev1 rfl)) ?_
    refine zae ?_
    refine ⟨sn ++ [p], [0, 1, 2, 3, 4, 5, 10, 7], hI, by simp only [List.length_append, List.length_cons, List.length_nil] at hle2 ⊢; omega, rfl, ⟨rfl, rfl, rfl, trivial⟩, ⟨rfl, rfl, rfl, rfl, rfl, rfl, by rw [dlN_add hkp, List.length_append, List.flatMap_append]; rfl, rfl, trivial⟩⟩
end Go.Proofs.YtjgnalfnginjbaaGreatDoor
namespace Go.Proofs.YtjgnalfnginjbaaGreatDoor
set_option maxRecDepth 4000
set_option linter.unusedVariables false
set_option linter.unusedSimpArgs false
open Go.RowKit
theorem zr34 : zrC Tryz.prog 34 = some [.int .i64 0] := by kernel_rfl
set_option maxRecDepth 4000 in
set_option maxHeartbeats 1000000 in
theorem paint_0 (l : List Sp) (c : C4) : DFun Tryz.prog 13 [.val (.pointer none), .slf 3 l.length (l.flatMap s3), .val (.agg (c4 c).toArray)] [] (.tup [.val (.pointer none), .val (.int .i64 1)]) [] := by
  refine dcalls_body (N := 17) 0 (by kernel_rfl) Tryz.func13 rfl rfl rfl (by simp only [fr0, Nat.zero_add, Nat.reduceAdd]; exact rfl) rfl fun s0 hs0 => ?_
  refine dbody_seq rfl hs0 ?_
  refine zah 2 (by simp only [holes, List.cons_append, List.nil_append]; exact rfl) ?_
  refine zad ?_
  refine zak rfl rfl rfl (op_boxa 0 rfl (ev1 rfl) rfl) (by simp only [upd, zaa, za]; exact rfl) ?_
  refine zab rfl rfl rfl (zac (.inr rfl) (ev1 rfl)) ?_
  refine zak rfl rfl rfl (op_alloc 1 rfl zr34 rfl) (by simp only [upd, zaa, za]; exact rfl) ?_
  refine zae ?_
  refine dbody_defer (l0 := [_]) rfl rfl rfl rfl rfl hs0 ?_
  refine zab rfl rfl rfl (op_mkf rfl en (ec (ev1 rfl) en)) ?_
  refine zae ⟨_, _, _, 2, ev1 rfl, Nat.le_trans hs0 (by decide), rfl, ?_⟩
  have hs1 : s0.M.length ≤ 2 := Nat.le_trans hs0 (by decide)
  refine dbody_end rfl hs0 ?_
  refine zaf ?_
  refine zah 1 (by simp only [holes, List.cons_append, List.nil_append]; exact rfl) ?_
  refine zad ?_
  refine zab rfl rfl rfl (zac (.inl rfl) (ev1 rfl)) ?_
  refine walk_p rfl (dop_callP [] [] [] rfl (ev1 rfl) (ec (ev1 rfl) en) rfl rfl (easel_p) rfl rfl rfl rfl rfl rfl) rfl ?_
  refine kdef (dturn_caught [1] [] rfl rfl rfl (dpaint1_caught _ _) rfl rfl rfl rfl rfl) ?_
  refine kend0 (rs2 rfl (rv_t rfl) (rv_1 tb34 rfl rfl rfl)) rfl ?_
  rfl
end Go.Proofs.YtjgnalfnginjbaaGreatDoor
namespace Go.Proofs.YtjgnalfnginjbaaGreatDoor
set_option maxRecDepth 4000
set_option linter.unusedVariables false
set_option linter.unusedSimpArgs false
open Go.RowKit
theorem fo47_0 : fdO Tryz.prog 47 0 = some 0 := by kernel_rfl
theorem fo47_1 : fdO Tryz.prog 47 1 = some 4 := by kernel_rfl
theorem fo47_2 : fdO Tryz.prog 47 2 = some 5 := by kernel_rfl
theorem lineL_len (a b : P2) : (lineL a b).length = gr2 a b + 1 := by unfold lineL; simp
theorem rect_chk {a b : P2} (ha : drwB a = true) (hb : drwB b = true) : chkS (rectL a b) := by
  have hA := drwB_iff.1 ha
  have hB := drwB_iff.1 hb
  refine ⟨fun s hs => ⟨?_, (rect_ok a b).1 s hs⟩, (rect_ok a b).2⟩
  have hw := wayN_eq a.y b.y
  obtain ⟨j, hj, rfl⟩ := List.mem_map.1 hs
  rw [List.mem_range] at hj
  unfold rchS
  simp only
  omega
theorem lineL_le {a b : P2} (ha : drwB a = true) (hb : drwB b = true) : (lineL a b).length ≤ 192 := by
  have hl := lineL_len a b
  have hx := wayN_eq a.x b.x
  have hy := wayN_eq a.y b.y
  have hA := drwB_iff.1 ha
  have hB := drwB_iff.1 hb
  have hg : gr2 a b = max (wayN a.x b.x) (wayN a.y b.y) := by unfold gr2; omega
  omega
theorem rectL_len {a b : P2} (ha : drwB a = true) (hb : drwB b = true) : (rectL a b).length ≤ 192 := by
  have hy := wayN_eq a.y b.y
  have hA := drwB_iff.1 ha
  have hB := drwB_iff.1 hb
  unfold rectL
  rw [List.length_map, List.length_range]
  omega
theorem swL_chk {r : Bool} {n : Int} {l : List P2} (h : swB n l = true) : chkS (swL r n l) := by
  obtain ⟨e1, _, hn, hd⟩ := sw_ok (r := r) h
  rw [e1]
  exact swA_chk (by omega) hd
theorem swL_len {r : Bool} {n : Int} {l : List P2} (h : swB n l = true) : (swL r n l).length ≤ l.length * 961 := by
  obtain ⟨e1, _, hn, hd⟩ := sw_ok (r := r) h
  rw [e1]
  exact Nat.le_trans (norm_len _) (swK_len (by omega) l)
def ac2 (a b : P2) : P2 := ⟨b.x, a.y⟩
def dn2 (a b : P2) : P2 := ⟨a.x, b.y⟩
theorem ac_drw {a b : P2} (ha : drwB a = true) (hb : drwB b = true) : drwB (ac2 a b) = true ∧ drwB (dn2 a b) = true := by
  have hA := drwB_iff.1 ha
  have hB := drwB_iff.1 hb
  exact ⟨drwB_iff.2 ⟨hB.1, hA.2⟩, drwB_iff.2 ⟨hA.1, hB.2⟩⟩
theorem ac_no {a b : P2} (ha : drwB a = true) (hb : drwB b = false) : drwB (ac2 a b) = false ∨ drwB (dn2 a b) = false := by
  cases h1 : drwB (ac2 a b) with
  | false => exact .inl rfl
  | true =>
    right
    cases h2 : drwB (dn2 a b) with
    | false => rfl
    | true =>
      have h3 := drwB_iff.1 h1
      have h4 := drwB_iff.1 h2
      have h5 : drwB b = true := drwB_iff.2 ⟨h3.1, h4.2⟩
      rw [h5] at hb
      cases hb
def frmR (a b : P2) : List (List Sp) := [rectL a (ac2 a b), rectL a (dn2 a b), rectL (ac2 a b) b, rectL (dn2 a b) b]
theorem frm_ok {a b : P2} (ha : drwB a = true) (hb : drwB b = true) : allC (frmR a b) = true ∧ (frmR a b).flatten.length ≤ 768 := by
  obtain ⟨h1, h2⟩ := ac_drw ha hb
  have l1 := rectL_len ha h1
  have l2 := rectL_len ha h2
  have l3 := rectL_len h1 hb
  have l4 := rectL_len h2 hb
  refine ⟨?_, ?_⟩
  · unfold allC frmR
    simp [rect_chk ha h1, rect_chk ha h2, rect_chk h1 hb, rect_chk h2 hb]
  · unfold frmR
    simp only [List.flatten_cons, List.flatten_nil, List.length_append, List.length_nil]
    omega
theorem norm_chk {l : List Sp} (h : ∀ s ∈ l, rchS s ∧ s.f ≤ s.t) : chkS (normS l) := by
  have hn := norm_ok fun s hs => (h s hs).2
  refine ⟨fun s hs => ?_, hn.1.2⟩
  have hv := hn.1.1 s hs
  have hb := has_bd (A := -256) (B := 255) (C := -256) (D' := 255) hn.1.1 hn.2 (fun s hs => by
    have := (h s hs).1
    unfold rchS at this
    omega) s hs
  refine ⟨?_, hv⟩
  unfold rchS
  omega
theorem uni_chk {rr : List (List Sp)} (h : allC rr = true) : chkS (uniL rr) := by
  rw [(uni_ok h).1]
  exact norm_chk (allC_flat h)
theorem uni_has {rr : List (List Sp)} (h : allC rr = true) (x y : Int) : hasS (uniL rr) x y ↔ ∃ l ∈ rr, hasS l x y := by
  rw [(uni_ok h).1, (norm_ok fun s hs => (allC_flat h s hs).2).2]
  constructor
  · rintro ⟨s, hs, g⟩
    obtain ⟨l, hl, h1⟩ := List.mem_flatten.1 hs
    exact ⟨l, hl, s, h1, g⟩
  · rintro ⟨l, hl, s, hs, g⟩
    exact ⟨s, List.mem_flatten.2 ⟨l, hl, hs⟩, g⟩
theorem uni_len {rr : List (List Sp)} (h : allC rr = true) : (uniL rr).length ≤ rr.flatten.length := by rw [(uni_ok h).1]; exact norm_len _
set_option maxRecDepth 4000 in
set_option maxHeartbeats 1000000 in
theorem stroke_n (w h : Int) (ds : List D) (ts : List TL) (hr : RowOk ds ts) (hc : CvOk w h ts) (c : C4) (n : Int) (r : Bool) (l : List P2) (hs : swB n l = false) (hn : l.length ≤ 1000) : DFun Tryz.prog 27 [cvD w h ds, .val (.agg #[.int .u8 c.r, .int .u8 c.g, .int .u8 c.b, .int .u8 c.a, .int .i64 n, .bool r]), .slf 2 l.length (l.flatMap p2)] [] (.tup [.val (.pointer none), .val (.int .i64 2)]) [] := by
  have he := (sw_no (r := r) hs).2
  refine dcalls_body (N := 26) 0 (by kernel_rfl) Tryz.func27 rfl rfl rfl (by simp only [fr0, Nat.zero_add, Nat.reduceAdd]; exact rfl) rfl fun s0 hs0 => ?_
  refine dbody_seq rfl hs0 ?_
  refine zah 2 (by simp only [holes, List.cons_append, List.nil_append]; exact rfl) ?_
  refine zad ?_
  refine zak rfl rfl rfl (op_boxa 0 rfl (ev1 rfl) rfl) (by simp only [upd, zaa, za]; exact rfl) ?_
  refine zab rfl rfl rfl (zac (.inr rfl) (ev1 rfl)) ?_
  refine zak rfl rfl rfl (op_alloc 1 rfl zr34 rfl) (by simp only [upd, zaa, za]; exact rfl) ?_
  refine zae ?_
  refine dbody_defer (l0 := [_]) rfl rfl rfl rfl rfl hs0 ?_
  refine zab rfl rfl rfl (op_mkf rfl en (ec (ev1 rfl) en)) ?_
  refine zae ⟨_, _, _, 2, ev1 rfl, Nat.le_trans hs0 (by decide), rfl, ?_⟩
  have hs1 : s0.M.length ≤ 2 := Nat.le_trans hs0 (by decide)
  refine dbody_end rfl hs0 ?_
  refine zaf ?_
  refine zah 1 (by simp only [holes, List.cons_append, List.nil_append]; exact rfl) ?_
  refine zad ?_
  refine zab rfl rfl rfl (zac (.inl rfl) (ev1 rfl)) ?_
  refine zab rfl rfl rfl (zai [] [] [] rfl (ev1 rfl) (ec (ev1 rfl) en) rfl rfl (easel_d w h ds) rfl rfl rfl rfl rfl rfl) ?_
  refine zak rfl rfl rfl (op_alloc 2 rfl zr85 rfl) (by simp only [upd, zaa, za]; exact rfl) ?_
  refine walk_s rfl rfl (op_stam2 rfl tb85 (ev1 rfl) (ev1 rfl) rfl rfl rfl rfl) (by simp only [upd, zaa, za]; exact rfl) ?_
  refine zae ?_
  refine zaf ?_
  refine dwp_drawR 9 12 [([2], []), ([], []), ([], []), ([0], []), ([], []), ([0], []), ([], []), ([], []), ([], []), ([], []), ([], []), ([0], [])] mixed (by kernel_rfl) rfl rfl rfl ?_
  refine zag rfl rfl (op_ldmw rfl tb85 (ev1 rfl) rfl rfl) ?_
  refine zag rfl rfl (zac (.inl rfl) (ev1 rfl)) ?_
  refine zag rfl rfl (op_fa rfl fo47_1 (ev1 rfl)) ?_
  refine zag rfl rfl (zal rfl tb3 (ev1 rfl) rfl rfl) ?_
  refine zag rfl rfl (op_fa rfl fo47_2 (ev1 rfl)) ?_
  refine zag rfl rfl (zal rfl tb4 (ev1 rfl) rfl rfl) ?_
  refine zag rfl rfl (zai [] [] [] rfl (ev1 rfl) (ec (ev1 rfl) (ec (ev1 rfl) (ec (ev1 rfl) en))) rfl rfl (sweep_d l n r hn) rfl rfl rfl rfl rfl rfl) ?_
  refine zag rfl rfl (op_ext rfl (ev1 rfl) rfl) ?_
  refine zag rfl rfl ((op_ext rfl (ev1 rfl) rfl).cast (d' := .val (.int .i64 2)) (by rw [he])) ?_
  refine lex_s rfl rfl nop_d rfl rfl ?_
  refine zag rfl rfl (op_fa rfl fo47_0 (ev1 rfl)) ?_
  refine zag rfl rfl (op_ldr rfl tb27 (ev1 rfl) rfl rfl rfl) ?_
  refine lex_nil ⟨_, _, _, rfl, dop_callP [] [] [] rfl (ev1 rfl) (ec (ev1 rfl) (ec (ev1 rfl) en)) rfl rfl (mustS_p (swL r n l) 2 (by decide)) rfl rfl rfl rfl rfl rfl, ?_⟩
  refine kdef (dturn_caught [1] [] rfl rfl rfl (dstroke1_caught _ _) rfl rfl rfl rfl rfl) ?_
  refine kend0 (rs2 rfl (rv_t rfl) (rv_1 tb34 rfl rfl rfl)) rfl ?_
  rfl
set_option maxRecDepth 4000 in
set_option maxHeartbeats 1000000 in
theorem dline_d (w h : Int) (ds : List D) (ts : List TL) (hr : RowOk ds ts) (hc : CvOk w h ts) (c : C4) (n : Int) (r : Bool) (a b : P2) (ha : drwB a = true) (hb : drwB b = true) (hs : swB n (lineL a b) = true) : DFun Tryz.prog 29 [cvD w h ds, .val (.agg #[.int .u8 c.r, .int .u8 c.g, .int .u8 c.b, .int .u8 c.a, .int .i64 n, .bool r]), .val (.agg #[.int .i64 a.x, .int .i64 a.y]), .val (.agg #[.int .i64 b.x, .int .i64 b.y])] [] (.tup [cvD w h (dpR (drwC false w h ts c (swL r n (lineL a b)))), .val (.int .i64 0)]) [] := by
  have hd : (drwB a && drwB b) = true := by rw [ha, hb]; rfl
  obtain ⟨g1, g2⟩ := lin_ok hd
  have hll := lineL_le ha hb
  have hsl := swL_len (r := r) hs
  have he := (sw_ok (r := r) hs).2.1
  refine dcalls_body (N := 35) 0 (by kernel_rfl) Tryz.func29 rfl rfl rfl (by simp only [fr0, Nat.zero_add, Nat.reduceAdd]; exact rfl) rfl fun s0 hs0 => ?_
  refine dbody_seq rfl hs0 ?_
  refine zah 4 (by simp only [holes, List.cons_append, List.nil_append]; exact rfl) ?_
  refine zad ?_
  refine zak rfl rfl rfl (op_boxa 0 rfl (ev1 rfl) rfl) (by simp only [upd, zaa, za]; exact rfl) ?_
  refine zak rfl rfl rfl (op_boxa 1 rfl (ev1 rfl) rfl) (by simp only [upd, zaa, za]; exact rfl) ?_
  refine zak rfl rfl rfl (op_boxa 2 rfl (ev1 rfl) rfl) (by simp only [upd, zaa, za]; exact rfl) ?_
  refine zab rfl rfl rfl (zac (.inr rfl) (ev1 rfl)) ?_
  refine zak rfl rfl rfl (op_alloc 3 rfl zr34 rfl) (by simp only [upd, zaa, za]; exact rfl) ?_
  refine zae ?_
  refine dbody_defer (l0 := [_]) rfl rfl rfl rfl rfl hs0 ?_
  refine zab rfl rfl rfl (op_mkf rfl en (ec (ev1 rfl) en)) ?_
  refine zae ⟨_, _, _, 4, ev1 rfl, Nat.le_trans hs0 (by decide), rfl, ?_⟩
  have hs1 : s0.M.length ≤ 4 := Nat.le_trans hs0 (by decide)
  refine dbody_end rfl hs0 ?_
  refine zaf ?_
  refine zah 1 (by simp only [holes, List.cons_append, List.nil_append]; exact rfl) ?_
  refine zad ?_
  refine zab rfl rfl rfl (zac (.inl rfl) (ev1 rfl)) ?_
  refine zab rfl rfl rfl (zai [] [] [] rfl (ev1 rfl) (ec (ev1 rfl) en) rfl rfl (easel_d w h ds) rfl rfl rfl rfl rfl rfl) ?_
  refine zak rfl rfl rfl (op_alloc 4 rfl zr85 rfl) (by simp only [upd, zaa, za]; exact rfl) ?_
  refine walk_s rfl rfl (op_stam2 rfl tb85 (ev1 rfl) (ev1 rfl) rfl rfl rfl rfl) (by simp only [upd, zaa, za]; exact rfl) ?_
  refine zae ?_
  refine zaf ?_
  refine zad ?_
  refine zab rfl rfl rfl (op_ldw rfl tb51 (ev1 rfl) rfl rfl) ?_
  refine zab rfl rfl rfl (op_ldw rfl tb51 (ev1 rfl) rfl rfl) ?_
  refine zab rfl rfl rfl (zai [] [] [] rfl (ev1 rfl) (ec (ev1 rfl) (ec (ev1 rfl) en)) rfl rfl (line_d a b) rfl rfl rfl rfl rfl rfl) ?_
  refine zab rfl rfl rfl ((op_ext rfl (ev1 rfl) rfl).cast (d' := .slf 2 (lineL a b).length ((lineL a b).flatMap p2)) (by rw [g1])) ?_
  refine zab rfl rfl rfl ((op_ext rfl (ev1 rfl) rfl).cast (d' := .val (.int .i64 0)) (by rw [g2])) ?_
  refine zab rfl rfl rfl (zai [] [] [] rfl (ev1 rfl) (ec (ev1 rfl) (ec (ev1 rfl) en)) rfl rfl (mustP_d (lineL a b)) rfl rfl rfl rfl rfl rfl) ?_
  refine zab rfl rfl rfl (zac (.inr rfl) (ev1 rfl)) ?_
  refine zae ?_
  refine zaf ?_
  refine zah 1 (by simp only [holes, List.cons_append, List.nil_append]; exact rfl) ?_
  refine dwp_draw [([4], []), ([], []), ([], []), ([0], []), ([], []), ([0], []), ([], []), ([], []), ([], []), ([], []), ([], []), ([0], []), ([5], [5]), ([5], [5]), ([], []), ([3], [3])] mixed (by kernel_rfl) ?_
  refine zag rfl rfl (op_ldmw rfl tb85 (ev1 rfl) rfl rfl) ?_
  refine zag rfl rfl (zac (.inl rfl) (ev1 rfl)) ?_
  refine zag rfl rfl (op_fa rfl fo47_1 (ev1 rfl)) ?_
  refine zag rfl rfl (zal rfl tb3 (ev1 rfl) rfl rfl) ?_
  refine zag rfl rfl (op_fa rfl fo47_2 (ev1 rfl)) ?_
  refine zag rfl rfl (zal rfl tb4 (ev1 rfl) rfl rfl) ?_
  refine zag rfl rfl (zai [] [] [] rfl (ev1 rfl) (ec (ev1 rfl) (ec (ev1 rfl) (ec (ev1 rfl) en))) rfl rfl (sweep_d (lineL a b) n r (by omega)) rfl rfl rfl rfl rfl rfl) ?_
  refine zag rfl rfl (op_ext rfl (ev1 rfl) rfl) ?_
  refine zag rfl rfl ((op_ext rfl (ev1 rfl) rfl).cast (d' := .val (.int .i64 0)) (by rw [he])) ?_
  refine zag rfl rfl (zai [] [] [] rfl (ev1 rfl) (ec (ev1 rfl) (ec (ev1 rfl) en)) rfl rfl (mustS_d (swL r n (lineL a b))) rfl rfl rfl rfl rfl rfl) ?_
  refine zag rfl rfl (op_fa rfl fo47_0 (ev1 rfl)) ?_
  refine zag rfl rfl (op_ldr rfl tb27 (ev1 rfl) rfl rfl rfl) ?_
  refine lex_w rfl rfl (zai [] [] [5] rfl (ev1 rfl) (ec (ev1 rfl) en) rfl rfl (paints_d c) rfl rfl rfl rfl rfl rfl) rfl (by simp only [upd, zaa, za]; exact rfl) ?_
  refine lex_w rfl rfl (zai [5] [] [] rfl (ev1 rfl) (ec (ev1 rfl) (ec (ev1 rfl) (ec (ev1 rfl) en))) rfl rfl (drawn_p w h ds ts hr hc c (swL r n (lineL a b)) (swL_chk hs) (by omega)) rfl rfl rfl rfl rfl rfl) rfl (by simp only [upd, zaa, za]; exact rfl) ?_
  refine zag rfl rfl (zac (.inr rfl) (ev1 rfl)) ?_
  refine lex_s rfl rfl (op_stwi rfl tb34 (ev1 rfl) (ev1 rfl) rfl) rfl (by simp only [upd, zaa, za]; exact rfl) ?_
  refine lex_nil ?_
  refine dwp_ret ?_
  refine kdef (dturn_idle [3] [] rfl rfl (dline1_idle _) rfl rfl rfl rfl rfl) ?_
  refine kend0 (rs2 rfl (rv_t rfl) (rv_1 tb34 rfl rfl rfl)) rfl ?_
  rfl
set_option maxRecDepth 4000 in
set_option maxHeartbeats 1000000 in
theorem drect_d (w h : Int) (ds : List D) (ts : List TL) (hr : RowOk ds ts) (hc : CvOk w h ts) (c : C4) (a b : P2) (ha : drwB a = true) (hb : drwB b = true) : DFun Tryz.prog 31 [cvD w h ds, .val (.agg (c4 c).toArray), .val (.agg #[.int .i64 a.x, .int .i64 a.y]), .val (.agg #[.int .i64 b.x, .int .i64 b.y])] [] (.tup [cvD w h (dpR (drwC false w h ts c (rectL a b))), .val (.int .i64 0)]) [] := by
  have hd : (drwB a && drwB b) = true := by rw [ha, hb]; rfl
  obtain ⟨g1, g2⟩ := rct_ok hd
  have hll := rectL_len ha hb
  refine dcalls_body (N := 24) 0 (by kernel_rfl) Tryz.func31 rfl rfl rfl (by simp only [fr0, Nat.zero_add, Nat.reduceAdd]; exact rfl) rfl fun s0 hs0 => ?_
  refine dbody_seq rfl hs0 ?_
  refine zah 4 (by simp only [holes, List.cons_append, List.nil_append]; exact rfl) ?_
  refine zad ?_
  refine zak rfl rfl rfl (op_boxa 0 rfl (ev1 rfl) rfl) (by simp only [upd, zaa, za]; exact rfl) ?_
  refine zak rfl rfl rfl (op_boxa 1 rfl (ev1 rfl) rfl) (by simp only [upd, zaa, za]; exact rfl) ?_
  refine zak rfl rfl rfl (op_boxa 2 rfl (ev1 rfl) rfl) (by simp only [upd, zaa, za]; exact rfl) ?_
  refine zab rfl rfl rfl (zac (.inr rfl) (ev1 rfl)) ?_
  refine zak rfl rfl rfl (op_alloc 3 rfl zr34 rfl) (by simp only [upd, zaa, za]; exact rfl) ?_
  refine zae ?_
  refine dbody_defer (l0 := [_]) rfl rfl rfl rfl rfl hs0 ?_
  refine zab rfl rfl rfl (op_mkf rfl en (ec (ev1 rfl) en)) ?_
  refine zae ⟨_, _, _, 4, ev1 rfl, Nat.le_trans hs0 (by decide), rfl, ?_⟩
  have hs1 : s0.M.length ≤ 4 := Nat.le_trans hs0 (by decide)
  refine dbody_end rfl hs0 ?_
  refine zaf ?_
  refine zah 1 (by simp only [holes, List.cons_append, List.nil_append]; exact rfl) ?_
  refine zad ?_
  refine zab rfl rfl rfl (zac (.inl rfl) (ev1 rfl)) ?_
  refine zab rfl rfl rfl (zai [] [] [] rfl (ev1 rfl) (ec (ev1 rfl) en) rfl rfl (easel_d w h ds) rfl rfl rfl rfl rfl rfl) ?_
  refine zak rfl rfl rfl (op_alloc 4 rfl zr85 rfl) (by simp only [upd, zaa, za]; exact rfl) ?_
  refine walk_s rfl rfl (op_stam2 rfl tb85 (ev1 rfl) (ev1 rfl) rfl rfl rfl rfl) (by simp only [upd, zaa, za]; exact rfl) ?_
  refine zae ?_
  refine zaf ?_
  refine zah 1 (by simp only [holes, List.cons_append, List.nil_append]; exact rfl) ?_
  refine dwp_draw [([4], []), ([1], []), ([2], []), ([], []), ([], []), ([], []), ([], []), ([0], []), ([5], [5]), ([5], [5]), ([], []), ([3], [3])] mixed (by kernel_rfl) ?_
  refine zag rfl rfl (op_ldmw rfl tb85 (ev1 rfl) rfl rfl) ?_
  refine zag rfl rfl (op_ldw rfl tb51 (ev1 rfl) rfl rfl) ?_
  refine zag rfl rfl (op_ldw rfl tb51 (ev1 rfl) rfl rfl) ?_
  refine zag rfl rfl (zai [] [] [] rfl (ev1 rfl) (ec (ev1 rfl) (ec (ev1 rfl) en)) rfl rfl (rect_d a b) rfl rfl rfl rfl rfl rfl) ?_
  refine zag rfl rfl ((op_ext rfl (ev1 rfl) rfl).cast (d' := .slf 3 (rectL a b).length ((rectL a b).flatMap s3)) (by rw [g1])) ?_
  refine zag rfl rfl ((op_ext rfl (ev1 rfl) rfl).cast (d' := .val (.int .i64 0)) (by rw [g2])) ?_
  refine zag rfl rfl (zai [] [] [] rfl (ev1 rfl) (ec (ev1 rfl) (ec (ev1 rfl) en)) rfl rfl (mustS_d (rectL a b)) rfl rfl rfl rfl rfl rfl) ?_
  refine zag rfl rfl (op_ldw rfl tb27 (ev1 rfl) rfl rfl) ?_
  refine lex_w rfl rfl (zai [] [] [5] rfl (ev1 rfl) (ec (ev1 rfl) en) rfl rfl (paints_d c) rfl rfl rfl rfl rfl rfl) rfl (by simp only [upd, zaa, za]; exact rfl) ?_
  refine lex_w rfl rfl (zai [5] [] [] rfl (ev1 rfl) (ec (ev1 rfl) (ec (ev1 rfl) (ec (ev1 rfl) en))) rfl rfl (drawn_p w h ds ts hr hc c (rectL a b) (rect_chk ha hb) (by omega)) rfl rfl rfl rfl rfl rfl) rfl (by simp only [upd, zaa, za]; exact rfl) ?_
  refine zag rfl rfl (zac (.inr rfl) (ev1 rfl)) ?_
  refine lex_s rfl rfl (op_stwi rfl tb34 (ev1 rfl) (ev1 rfl) rfl) rfl (by simp only [upd, zaa, za]; exact rfl) ?_
  refine lex_nil ?_
  refine dwp_ret ?_
  refine kdef (dturn_idle [3] [] rfl rfl (drect1_idle _) rfl rfl rfl rfl rfl) ?_
  refine kend0 (rs2 rfl (rv_t rfl) (rv_1 tb34 rfl rfl rfl)) rfl ?_
  rfl
set_option maxRecDepth 4000 in
set_option maxHeartbeats 1000000 in
theorem drect_n (w h : Int) (ds : List D) (ts : List TL) (hr : RowOk ds ts) (hc : CvOk w h ts) (c : C4) (a b : P2) (hd : (drwB a && drwB b) = false) : DFun Tryz.prog 31 [cvD w h ds, .val (.agg (c4 c).toArray), .val (.agg #[.int .i64 a.x, .int .i64 a.y]), .val (.agg #[.int .i64 b.x, .int .i64 b.y])] [] (.tup [.val (.pointer none), .val (.int .i64 2)]) [] := by
  obtain ⟨g1, g2⟩ := rct_no hd
  refine dcalls_body (N := 24) 0 (by kernel_rfl) Tryz.func31 rfl rfl rfl (by simp only [fr0, Nat.zero_add, Nat.reduceAdd]; exact rfl) rfl fun s0 hs0 => ?_
  refine dbody_seq rfl hs0 ?_
  refine zah 4 (by simp only [holes, List.cons_append, List.nil_append]; exact rfl) ?_
  refine zad ?_
  refine zak rfl rfl rfl (op_boxa 0 rfl (ev1 rfl) rfl) (by simp only [upd, zaa, za]; exact rfl) ?_
  refine zak rfl rfl rfl (op_boxa 1 rfl (ev1 rfl) rfl) (by simp only [upd, zaa, za]; exact rfl) ?_
  refine zak rfl rfl rfl (op_boxa 2 rfl (ev1 rfl) rfl) (by simp only [upd, zaa, za]; exact rfl) ?_
  refine zab rfl rfl rfl (zac (.inr rfl) (ev1 rfl)) ?_
  refine zak rfl rfl rfl (op_alloc 3 rfl zr34 rfl) (by simp only [upd, zaa, za]; exact rfl) ?_
  refine zae ?_
  refine dbody_defer (l0 := [_]) rfl rfl rfl rfl rfl hs0 ?_
  refine zab rfl rfl rfl (op_mkf rfl en (ec (ev1 rfl) en)) ?_
  refine zae ⟨_, _, _, 4, ev1 rfl, Nat.le_trans hs0 (by decide), rfl, ?_⟩
  have hs1 : s0.M.length ≤ 4 := Nat.le_trans hs0 (by decide)
  refine dbody_end rfl hs0 ?_
  refine zaf ?_
  refine zah 1 (by simp only [holes, List.cons_append, List.nil_append]; exact rfl) ?_
  refine zad ?_
  refine zab rfl rfl rfl (zac (.inl rfl) (ev1 rfl)) ?_
  refine zab rfl rfl rfl (zai [] [] [] rfl (ev1 rfl) (ec (ev1 rfl) en) rfl rfl (easel_d w h ds) rfl rfl rfl rfl rfl rfl) ?_
  refine zak rfl rfl rfl (op_alloc 4 rfl zr85 rfl) (by simp only [upd, zaa, za]; exact rfl) ?_
  refine walk_s rfl rfl (op_stam2 rfl tb85 (ev1 rfl) (ev1 rfl) rfl rfl rfl rfl) (by simp only [upd, zaa, za]; exact rfl) ?_
  refine zae ?_
  refine zaf ?_
  refine dwp_drawR 6 8 [([4], []), ([1], []), ([2], []), ([], []), ([], []), ([], []), ([], []), ([0], [])] mixed (by kernel_rfl) rfl rfl rfl ?_
  refine zag rfl rfl (op_ldmw rfl tb85 (ev1 rfl) rfl rfl) ?_
  refine zag rfl rfl (op_ldw rfl tb51 (ev1 rfl) rfl rfl) ?_
  refine zag rfl rfl (op_ldw rfl tb51 (ev1 rfl) rfl rfl) ?_
  refine zag rfl rfl (zai [] [] [] rfl (ev1 rfl) (ec (ev1 rfl) (ec (ev1 rfl) en)) rfl rfl (rect_d a b) rfl rfl rfl rfl rfl rfl) ?_
  refine zag rfl rfl (op_ext rfl (ev1 rfl) rfl) ?_
  refine zag rfl rfl ((op_ext rfl (ev1 rfl) rfl).cast (d' := .val (.int .i64 2)) (by rw [g2])) ?_
  refine lex_s rfl rfl nop_d rfl rfl ?_
  refine zag rfl rfl (op_ldw rfl tb27 (ev1 rfl) rfl rfl) ?_
  refine lex_nil ⟨_, _, _, rfl, dop_callP [] [] [] rfl (ev1 rfl) (ec (ev1 rfl) (ec (ev1 rfl) en)) rfl rfl (mustS_p _ 2 (by decide)) rfl rfl rfl rfl rfl rfl, ?_⟩
  refine kdef (dturn_caught [3] [] rfl rfl rfl (drect1_caught _ _) rfl rfl rfl rfl rfl) ?_
  refine kend0 (rs2 rfl (rv_t rfl) (rv_1 tb34 rfl rfl rfl)) rfl ?_
  rfl
set_option maxRecDepth 4000 in
set_option maxHeartbeats 1000000 in
theorem veil_d (w h : Int) (ds : List D) (ts : List TL) (hr : RowOk ds ts) (hc : CvOk w h ts) (c : C4) (a b : P2) (ha : drwB a = true) (hb : drwB b = true) (hg : tsRng ts) (hcr : c.rng) : DFun Tryz.prog 33 [cvD w h ds, .val (.agg (c4 c).toArray), .val (.agg #[.int .i64 a.x, .int .i64 a.y]), .val (.agg #[.int .i64 b.x, .int .i64 b.y])] [] (.tup [cvD w h (dpR (drwC true w h ts c (rectL a b))), .val (.int .i64 0)]) [] := by
  have hd : (drwB a && drwB b) = true := by rw [ha, hb]; rfl
  obtain ⟨g1, g2⟩ := rct_ok hd
  have hll := rectL_len ha hb
  refine dcalls_body (N := 24) 0 (by kernel_rfl) Tryz.func33 rfl rfl rfl (by simp only [fr0, Nat.zero_add, Nat.reduceAdd]; exact rfl) rfl fun s0 hs0 => ?_
  refine dbody_seq rfl hs0 ?_
  refine zah 4 (by simp only [holes, List.cons_append, List.nil_append]; exact rfl) ?_
  refine zad ?_
  refine zak rfl rfl rfl (op_boxa 0 rfl (ev1 rfl) rfl) (by simp only [upd, zaa, za]; exact rfl) ?_
  refine zak rfl rfl rfl (op_boxa 1 rfl (ev1 rfl) rfl) (by simp only [upd, zaa, za]; exact rfl) ?_
  refine zak rfl rfl rfl (op_boxa 2 rfl (ev1 rfl) rfl) (by simp only [upd, zaa, za]; exact rfl) ?_
  refine zab rfl rfl rfl (zac (.inr rfl) (ev1 rfl)) ?_
  refine zak rfl rfl rfl (op_alloc 3 rfl zr34 rfl) (by simp only [upd, zaa, za]; exact rfl) ?_
  refine zae ?_
  refine dbody_defer (l0 := [_]) rfl rfl rfl rfl rfl hs0 ?_
  refine zab rfl rfl rfl (op_mkf rfl en (ec (ev1 rfl) en)) ?_
  refine zae ⟨_, _, _, 4, ev1 rfl, Nat.le_trans hs0 (by decide), rfl, ?_⟩
  have hs1 : s0.M.length ≤ 4 := Nat.le_trans hs0 (by decide)
  refine dbody_end rfl hs0 ?_
  refine zaf ?_
  refine zah 1 (by simp only [holes, List.cons_append, List.nil_append]; exact rfl) ?_
  refine zad ?_
  refine zab rfl rfl rfl (zac (.inl rfl) (ev1 rfl)) ?_
  refine zab rfl rfl rfl (zai [] [] [] rfl (ev1 rfl) (ec (ev1 rfl) en) rfl rfl (easel_d w h ds) rfl rfl rfl rfl rfl rfl) ?_
  refine zak rfl rfl rfl (op_alloc 4 rfl zr85 rfl) (by simp only [upd, zaa, za]; exact rfl) ?_
  refine walk_s rfl rfl (op_stam2 rfl tb85 (ev1 rfl) (ev1 rfl) rfl rfl rfl rfl) (by simp only [upd, zaa, za]; exact rfl) ?_
  refine zae ?_
  refine zaf ?_
  refine zah 1 (by simp only [holes, List.cons_append, List.nil_append]; exact rfl) ?_
  refine dwp_draw [([4], []), ([1], []), ([2], []), ([], []), ([], []), ([], []), ([], []), ([0], []), ([5], [5]), ([5], [5]), ([], []), ([3], [3])] mixed (by kernel_rfl) ?_
  refine zag rfl rfl (op_ldmw rfl tb85 (ev1 rfl) rfl rfl) ?_
  refine zag rfl rfl (op_ldw rfl tb51 (ev1 rfl) rfl rfl) ?_
  refine zag rfl rfl (op_ldw rfl tb51 (ev1 rfl) rfl rfl) ?_
  refine zag rfl rfl (zai [] [] [] rfl (ev1 rfl) (ec (ev1 rfl) (ec (ev1 rfl) en)) rfl rfl (rect_d a b) rfl rfl rfl rfl rfl rfl) ?_
  refine zag rfl rfl ((op_ext rfl (ev1 rfl) rfl).cast (d' := .slf 3 (rectL a b).length ((rectL a b).flatMap s3)) (by rw [g1])) ?_
  refine zag rfl rfl ((op_ext rfl (ev1 rfl) rfl).cast (d' := .val (.int .i64 0)) (by rw [g2])) ?_
  refine zag rfl rfl (zai [] [] [] rfl (ev1 rfl) (ec (ev1 rfl) (ec (ev1 rfl) en)) rfl rfl (mustS_d (rectL a b)) rfl rfl rfl rfl rfl rfl) ?_
  refine zag rfl rfl (op_ldw rfl tb27 (ev1 rfl) rfl rfl) ?_
  refine lex_w rfl rfl (zai [] [] [5] rfl (ev1 rfl) (ec (ev1 rfl) en) rfl rfl (washes_d c) rfl rfl rfl rfl rfl rfl) rfl (by simp only [upd, zaa, za]; exact rfl) ?_
  refine lex_w rfl rfl (zai [5] [] [] rfl (ev1 rfl) (ec (ev1 rfl) (ec (ev1 rfl) (ec (ev1 rfl) en))) rfl rfl (drawn_w w h ds ts hr hc c (rectL a b) (rect_chk ha hb) (by omega) hg hcr) rfl rfl rfl rfl rfl rfl) rfl (by simp only [upd, zaa, za]; exact rfl) ?_
  refine zag rfl rfl (zac (.inr rfl) (ev1 rfl)) ?_
  refine lex_s rfl rfl (op_stwi rfl tb34 (ev1 rfl) (ev1 rfl) rfl) rfl (by simp only [upd, zaa, za]; exact rfl) ?_
  refine lex_nil ?_
  refine dwp_ret ?_
  refine kdef (dturn_idle [3] [] rfl rfl (dveil1_idle _) rfl rfl rfl rfl rfl) ?_
  refine kend0 (rs2 rfl (rv_t rfl) (rv_1 tb34 rfl rfl rfl)) rfl ?_
  rfl
set_option maxRecDepth 4000 in
set_option maxHeartbeats 1000000 in
theorem veil_n (w h : Int) (ds : List D) (ts : List TL) (hr : RowOk ds ts) (hc : CvOk w h ts) (c : C4) (a b : P2) (hd : (drwB a && drwB b) = false) : DFun Tryz.prog 33 [cvD w h ds, .val (.agg (c4 c).toArray), .val (.agg #[.int .i64 a.x, .int .i64 a.y]), .val (.agg #[.int .i64 b.x, .int .i64 b.y])] [] (.tup [.val (.pointer none), .val (.int .i64 2)]) [] := by
  obtain ⟨g1, g2⟩ := rct_no hd
  refine dcalls_body (N := 24) 0 (by kernel_rfl) Tryz.func33 rfl rfl rfl (by simp only [fr0, Nat.zero_add, Nat.reduceAdd]; exact rfl) rfl fun s0 hs0 => ?_
  refine dbody_seq rfl hs0 ?_
  refine zah 4 (by simp only [holes, List.cons_append, List.nil_append]; exact rfl) ?_
  refine zad ?_
  refine zak rfl rfl rfl (op_boxa 0 rfl (ev1 rfl) rfl) (by simp only [upd, zaa, za]; exact rfl) ?_
  refine zak rfl rfl rfl (op_boxa 1 rfl (ev1 rfl) rfl) (by simp only [upd, zaa, za]; exact rfl) ?_
  refine zak rfl rfl rfl (op_boxa 2 rfl (ev1 rfl) rfl) (by simp only [upd, zaa, za]; exact rfl) ?_
  refine zab rfl rfl rfl (zac (.inr rfl) (ev1 rfl)) ?_
  refine zak rfl rfl rfl (op_alloc 3 rfl zr34 rfl) (by simp only [upd, zaa, za]; exact rfl) ?_
  refine zae ?_
  refine dbody_defer (l0 := [_]) rfl rfl rfl rfl rfl hs0 ?_
  refine zab rfl rfl rfl (op_mkf rfl en (ec (ev1 rfl) en)) ?_
  refine zae ⟨_, _, _, 4, ev1 rfl, Nat.le_trans hs0 (by decide), rfl, ?_⟩
  have hs1 : s0.M.length ≤ 4 := Nat.le_trans hs0 (by decide)
  refine dbody_end rfl hs0 ?_
  refine zaf ?_
  refine zah 1 (by simp only [holes, List.cons_append, List.nil_append]; exact rfl) ?_
  refine zad ?_
  refine zab rfl rfl rfl (zac (.inl rfl) (ev1 rfl)) ?_
  refine zab rfl rfl rfl (zai [] [] [] rfl (ev1 rfl) (ec (ev1 rfl) en) rfl rfl (easel_d w h ds) rfl rfl rfl rfl rfl rfl) ?_
  refine zak rfl rfl rfl (op_alloc 4 rfl zr85 rfl) (by simp only [upd, zaa, za]; exact rfl) ?_
  refine walk_s rfl rfl (op_stam2 rfl tb85 (ev1 rfl) (ev1 rfl) rfl rfl rfl rfl) (by simp only [upd, zaa, za]; exact rfl) ?_
  refine zae ?_
  refine zaf ?_
  refine dwp_drawR 6 8 [([4], []), ([1], []), ([2], []), ([], []), ([], []), ([], []), ([], []), ([0], [])] mixed (by kernel_rfl) rfl rfl rfl ?_
  refine zag rfl rfl (op_ldmw rfl tb85 (ev1 rfl) rfl rfl) ?_
  refine zag rfl rfl (op_ldw rfl tb51 (ev1 rfl) rfl rfl) ?_
  refine zag rfl rfl (op_ldw rfl tb51 (ev1 rfl) rfl rfl) ?_
  refine zag rfl rfl (zai [] [] [] rfl (ev1 rfl) (ec (ev1 rfl) (ec (ev1 rfl) en)) rfl rfl (rect_d a b) rfl rfl rfl rfl rfl rfl) ?_
  refine zag rfl rfl (op_ext rfl (ev1 rfl) rfl) ?_
  refine zag rfl rfl ((op_ext rfl (ev1 rfl) rfl).cast (d' := .val (.int .i64 2)) (by rw [g2])) ?_
  refine lex_s rfl rfl nop_d rfl rfl ?_
  refine zag rfl rfl (op_ldw rfl tb27 (ev1 rfl) rfl rfl) ?_
  refine lex_nil ⟨_, _, _, rfl, dop_callP [] [] [] rfl (ev1 rfl) (ec (ev1 rfl) (ec (ev1 rfl) en)) rfl rfl (mustS_p _ 2 (by decide)) rfl rfl rfl rfl rfl rfl, ?_⟩
  refine kdef (dturn_caught [3] [] rfl rfl rfl (dveil1_caught _ _) rfl rfl rfl rfl rfl) ?_
  refine kend0 (rs2 rfl (rv_t rfl) (rv_1 tb34 rfl rfl rfl)) rfl ?_
  rfl
set_option maxRecDepth 4000 in
set_option maxHeartbeats 1000000 in
theorem frame_d (w h : Int) (ds : List D) (ts : List TL) (hr : RowOk ds ts) (hc : CvOk w h ts) (c : C4) (a b : P2) (ha : drwB a = true) (hb : drwB b = true) : DFun Tryz.prog 32 [cvD w h ds, .val (.agg (c4 c).toArray), .val (.agg #[.int .i64 a.x, .int .i64 a.y]), .val (.agg #[.int .i64 b.x, .int .i64 b.y])] [] (.tup [cvD w h (dpR (drwC false w h ts c (uniL (frmR a b)))), .val (.int .i64 0)]) [] := by
  obtain ⟨d1, d2⟩ := ac_drw ha hb
  have g1 := rct_ok (show (drwB a && drwB (ac2 a b)) = true by rw [ha, d1]; rfl)
  have g2 := rct_ok (show (drwB a && drwB (dn2 a b)) = true by rw [ha, d2]; rfl)
  have g3 := rct_ok (show (drwB (ac2 a b) && drwB b) = true by rw [d1, hb]; rfl)
  have g4 := rct_ok (show (drwB (dn2 a b) && drwB b) = true by rw [d2, hb]; rfl)
  obtain ⟨hfa, hfl⟩ := frm_ok ha hb
  have hue := (uni_ok hfa).2
  have hul := uni_len hfa
  refine dcalls_body (N := 61) 0 (by kernel_rfl) Tryz.func32 rfl rfl rfl (by simp only [fr0, Nat.zero_add, Nat.reduceAdd]; exact rfl) rfl fun s0 hs0 => ?_
  refine dbody_seq rfl hs0 ?_
  refine zah 4 (by simp only [holes, List.cons_append, List.nil_append]; exact rfl) ?_
  refine zad ?_
  refine zak rfl rfl rfl (op_boxa 0 rfl (ev1 rfl) rfl) (by simp only [upd, zaa, za]; exact rfl) ?_
  refine zak rfl rfl rfl (op_boxa 1 rfl (ev1 rfl) rfl) (by simp only [upd, zaa, za]; exact rfl) ?_
  refine zak rfl rfl rfl (op_boxa 2 rfl (ev1 rfl) rfl) (by simp only [upd, zaa, za]; exact rfl) ?_
  refine zab rfl rfl rfl (zac (.inr rfl) (ev1 rfl)) ?_
  refine zak rfl rfl rfl (op_alloc 3 rfl zr34 rfl) (by simp only [upd, zaa, za]; exact rfl) ?_
  refine zae ?_
  refine dbody_defer (l0 := [_]) rfl rfl rfl rfl rfl hs0 ?_
  refine zab rfl rfl rfl (op_mkf rfl en (ec (ev1 rfl) en)) ?_
  refine zae ⟨_, _, _, 4, ev1 rfl, Nat.le_trans hs0 (by decide), rfl, ?_⟩
  have hs1 : s0.M.length ≤ 4 := Nat.le_trans hs0 (by decide)
  refine dbody_end rfl hs0 ?_
  refine zaf ?_
  refine zah 1 (by simp only [holes, List.cons_append, List.nil_append]; exact rfl) ?_
  refine zad ?_
  refine zab rfl rfl rfl (zac (.inl rfl) (ev1 rfl)) ?_
  refine zab rfl rfl rfl (zai [] [] [] rfl (ev1 rfl) (ec (ev1 rfl) en) rfl rfl (easel_d w h ds) rfl rfl rfl rfl rfl rfl) ?_
  refine zak rfl rfl rfl (op_alloc 4 rfl zr85 rfl) (by simp only [upd, zaa, za]; exact rfl) ?_
  refine walk_s rfl rfl (op_stam2 rfl tb85 (ev1 rfl) (ev1 rfl) rfl rfl rfl rfl) (by simp only [upd, zaa, za]; exact rfl) ?_
  refine zae ?_
  refine zaf ?_
  refine zah 2 (by simp only [holes, List.cons_append, List.nil_append]; exact rfl) ?_
  refine dwp_draw [([], []), ([2], []), ([], []), ([1], []), ([], []), ([], []), ([1], []), ([], []), ([2], []), ([], []), ([5], [5]), ([6], [6]), ([5], [5]), ([6], [6])] mixed (by kernel_rfl) ?_
  refine zag rfl rfl (op_fa rfl fo51_0 (ev1 rfl)) ?_
  refine zag rfl rfl (zal rfl tb3 (ev1 rfl) rfl rfl) ?_
  refine zag rfl rfl (op_fa rfl fo51_1 (ev1 rfl)) ?_
  refine zag rfl rfl (zal rfl tb3 (ev1 rfl) rfl rfl) ?_
  refine zag rfl rfl (op_build (ps := [(0, .tmp 18), (1, .tmp 20)]) rfl fl51 zr51 (vc (ev1 rfl) (vc (ev1 rfl) vn)) rfl rfl) ?_
  refine zag rfl rfl (op_fa rfl fo51_0 (ev1 rfl)) ?_
  refine zag rfl rfl (zal rfl tb3 (ev1 rfl) rfl rfl) ?_
  refine zag rfl rfl (op_fa rfl fo51_1 (ev1 rfl)) ?_
  refine zag rfl rfl (zal rfl tb3 (ev1 rfl) rfl rfl) ?_
  refine zag rfl rfl (op_build (ps := [(0, .tmp 23), (1, .tmp 25)]) rfl fl51 zr51 (vc (ev1 rfl) (vc (ev1 rfl) vn)) rfl rfl) ?_
  refine lex_w rfl rfl (op_alloc 5 rfl zr51 rfl) rfl (by simp only [upd, zaa, za]; exact rfl) ?_
  refine lex_w rfl rfl (op_alloc 6 rfl zr51 rfl) rfl (by simp only [upd, zaa, za]; exact rfl) ?_
  refine lex_s rfl rfl (op_stwa rfl tb51 (ev1 rfl) (ev1 rfl) rfl rfl rfl rfl) rfl (by simp only [upd, zaa, za]; exact rfl) ?_
  refine lex_s rfl rfl (op_stwa rfl tb51 (ev1 rfl) (ev1 rfl) rfl rfl rfl rfl) rfl (by simp only [upd, zaa, za]; exact rfl) ?_
  refine lex_nil ?_
  refine zaf ?_
  refine dwp_draw [([1], []), ([5], []), ([], []), ([], []), ([], []), ([], []), ([1], []), ([6], []), ([], []), ([], []), ([], []), ([], []), ([5], []), ([2], []), ([], []), ([], []), ([], []), ([], []), ([6], []), ([2], []), ([], []), ([], []), ([], []), ([], []), ([], []), ([], []), ([], []), ([], []), ([], []), ([], [])] mixed (by kernel_rfl) ?_
  refine zag rfl rfl (op_ldw rfl tb51 (ev1 rfl) rfl rfl) ?_
  refine zag rfl rfl (op_ldw rfl tb51 (ev1 rfl) rfl rfl) ?_
  refine zag rfl rfl (zai [] [] [] rfl (ev1 rfl) (ec (ev1 rfl) (ec (ev1 rfl) en)) rfl rfl (rect_d a (ac2 a b)) rfl rfl rfl rfl rfl rfl) ?_
  refine zag rfl rfl ((op_ext rfl (ev1 rfl) rfl).cast (d' := .slf 3 (rectL a (ac2 a b)).length ((rectL a (ac2 a b)).flatMap s3)) (by rw [g1.1])) ?_
  refine zag rfl rfl ((op_ext rfl (ev1 rfl) rfl).cast (d' := .val (.int .i64 0)) (by rw [g1.2])) ?_
  refine zag rfl rfl (zai [] [] [] rfl (ev1 rfl) (ec (ev1 rfl) (ec (ev1 rfl) en)) rfl rfl (mustS_d (rectL a (ac2 a b))) rfl rfl rfl rfl rfl rfl) ?_
  refine zag rfl rfl (op_ldw rfl tb51 (ev1 rfl) rfl rfl) ?_
  refine zag rfl rfl (op_ldw rfl tb51 (ev1 rfl) rfl rfl) ?_
  refine zag rfl rfl (zai [] [] [] rfl (ev1 rfl) (ec (ev1 rfl) (ec (ev1 rfl) en)) rfl rfl (rect_d a (dn2 a b)) rfl rfl rfl rfl rfl rfl) ?_
  refine zag rfl rfl ((op_ext rfl (ev1 rfl) rfl).cast (d' := .slf 3 (rectL a (dn2 a b)).length ((rectL a (dn2 a b)).flatMap s3)) (by rw [g2.1])) ?_
  refine zag rfl rfl ((op_ext rfl (ev1 rfl) rfl).cast (d' := .val (.int .i64 0)) (by rw [g2.2])) ?_
  refine zag rfl rfl (zai [] [] [] rfl (ev1 rfl) (ec (ev1 rfl) (ec (ev1 rfl) en)) rfl rfl (mustS_d (rectL a (dn2 a b))) rfl rfl rfl rfl rfl rfl) ?_
  refine zag rfl rfl (op_ldw rfl tb51 (ev1 rfl) rfl rfl) ?_
  refine zag rfl rfl (op_ldw rfl tb51 (ev1 rfl) rfl rfl) ?_
  refine zag rfl rfl (zai [] [] [] rfl (ev1 rfl) (ec (ev1 rfl) (ec (ev1 rfl) en)) rfl rfl (rect_d (ac2 a b) b) rfl rfl rfl rfl rfl rfl) ?_
  refine zag rfl rfl ((op_ext rfl (ev1 rfl) rfl).cast (d' := .slf 3 (rectL (ac2 a b) b).length ((rectL (ac2 a b) b).flatMap s3)) (by rw [g3.1])) ?_
  refine zag rfl rfl ((op_ext rfl (ev1 rfl) rfl).cast (d' := .val (.int .i64 0)) (by rw [g3.2])) ?_
  refine zag rfl rfl (zai [] [] [] rfl (ev1 rfl) (ec (ev1 rfl) (ec (ev1 rfl) en)) rfl rfl (mustS_d (rectL (ac2 a b) b)) rfl rfl rfl rfl rfl rfl) ?_
  refine zag rfl rfl (op_ldw rfl tb51 (ev1 rfl) rfl rfl) ?_
  refine zag rfl rfl (op_ldw rfl tb51 (ev1 rfl) rfl rfl) ?_
  refine zag rfl rfl (zai [] [] [] rfl (ev1 rfl) (ec (ev1 rfl) (ec (ev1 rfl) en)) rfl rfl (rect_d (dn2 a b) b) rfl rfl rfl rfl rfl rfl) ?_
  refine zag rfl rfl ((op_ext rfl (ev1 rfl) rfl).cast (d' := .slf 3 (rectL (dn2 a b) b).length ((rectL (dn2 a b) b).flatMap s3)) (by rw [g4.1])) ?_
  refine zag rfl rfl ((op_ext rfl (ev1 rfl) rfl).cast (d' := .val (.int .i64 0)) (by rw [g4.2])) ?_
  refine zag rfl rfl (zai [] [] [] rfl (ev1 rfl) (ec (ev1 rfl) (ec (ev1 rfl) en)) rfl rfl (mustS_d (rectL (dn2 a b) b)) rfl rfl rfl rfl rfl rfl) ?_
  refine zag rfl rfl (op_bsm (ps := [(0, .tmp 32), (1, .tmp 38), (2, .tmp 44), (3, .tmp 50)]) rfl sl142 zr25 rfl (ec (ev1 rfl) (ec (ev1 rfl) (ec (ev1 rfl) (ec (ev1 rfl) en)))) rfl (by decide)) ?_
  refine zag rfl rfl (zai [] [] [] rfl (ev1 rfl) (ec (ev1 rfl) en) rfl rfl (union_d (frmR a b) (by omega)) rfl rfl rfl rfl rfl rfl) ?_
  refine zag rfl rfl ((op_ext rfl (ev1 rfl) rfl).cast (d' := .slf 3 (uniL (frmR a b)).length ((uniL (frmR a b)).flatMap s3)) (rfl)) ?_
  refine zag rfl rfl ((op_ext rfl (ev1 rfl) rfl).cast (d' := .val (.int .i64 0)) (by rw [hue])) ?_
  refine zag rfl rfl (zai [] [] [] rfl (ev1 rfl) (ec (ev1 rfl) (ec (ev1 rfl) en)) rfl rfl (mustS_d (uniL (frmR a b))) rfl rfl rfl rfl rfl rfl) ?_
  refine zag rfl rfl (zac (.inr rfl) (ev1 rfl)) ?_
  refine lex_nil ?_
  refine zaf ?_
  refine zah 1 (by simp only [holes, List.cons_append, List.nil_append]; exact rfl) ?_
  refine dwp_draw [([4], []), ([], []), ([0], []), ([7], [7]), ([7], [7]), ([], []), ([3], [3])] mixed (by kernel_rfl) ?_
  refine zag rfl rfl (op_ldmw rfl tb85 (ev1 rfl) rfl rfl) ?_
  refine zag rfl rfl (zac (.inl rfl) (ev1 rfl)) ?_
  refine zag rfl rfl (op_ldw rfl tb27 (ev1 rfl) rfl rfl) ?_
  refine lex_w rfl rfl (zai [] [] [7] rfl (ev1 rfl) (ec (ev1 rfl) en) rfl rfl (paints_d c) rfl rfl rfl rfl rfl rfl) rfl (by simp only [upd, zaa, za]; exact rfl) ?_
  refine lex_w rfl rfl (zai [7] [] [] rfl (ev1 rfl) (ec (ev1 rfl) (ec (ev1 rfl) (ec (ev1 rfl) en))) rfl rfl (drawn_p w h ds ts hr hc c (uniL (frmR a b)) (uni_chk hfa) (by omega)) rfl rfl rfl rfl rfl rfl) rfl (by simp only [upd, zaa, za]; exact rfl) ?_
  refine zag rfl rfl (zac (.inr rfl) (ev1 rfl)) ?_
  refine lex_s rfl rfl (op_stwi rfl tb34 (ev1 rfl) (ev1 rfl) rfl) rfl (by simp only [upd, zaa, za]; exact rfl) ?_
  refine lex_nil ?_
  refine dwp_ret ?_
  refine kdef (dturn_idle [3] [] rfl rfl (dframe1_idle _) rfl rfl rfl rfl rfl) ?_
  refine kend0 (rs2 rfl (rv_t rfl) (rv_1 tb34 rfl rfl rfl)) rfl ?_
  rfl
end Go.Proofs.YtjgnalfnginjbaaGreatDoor
namespace Go.Proofs.YtjgnalfnginjbaaGreatDoor
set_option maxRecDepth 4000
set_option linter.unusedVariables false
set_option linter.unusedSimpArgs false
open Go.RowKit
theorem fl47 : fdL Tryz.prog 47 = some [(0, 4), (4, 1), (5, 1)] := by kernel_rfl
theorem zr47 : zrC Tryz.prog 47 = some [.int .u8 0, .int .u8 0, .int .u8 0, .int .u8 0, .int .i64 0, .bool false] := by kernel_rfl
theorem okd_wk {I : Nat → Prop} {w h : Int} {ts : List TL} {d : D} (hf : Okd (NewCv I w h ts) d) : Wk d (.tup [cvD w h (dpR ts), .val (.int .i64 0)]) := by
  obtain ⟨_, ⟨A, hA, _, rfl⟩, rfl⟩ := hf
  exact Wk.tup (.cons ((pinsR_ok hA).wkd w h) (.cons (.refl _) .nil))
theorem of_d (w h : Int) (ts : List TL) (hc : CvOk w h ts) : DFun Tryz.prog 12 [shD w h ts] [] (.tup [cvD w h (dpR ts), .val (.int .i64 0)]) [] := (of_i w h ts hc).fun fun I d hf => okd_wk hf
theorem cnew_d (w h : Int) (n : Nat) (hm : mayS w h = true) (hn : w * h = (n : Int)) : DFun Tryz.prog 41 [.val (.int .i64 w), .val (.int .i64 h)] [] (.tup [cvD w h (dpR (List.replicate n (nT zC4))), .val (.int .i64 0)]) [] := (cnew_i w h n hm hn).fun fun I d hf => okd_wk hf
theorem norm_calc {l m r : List Sp} (hp : m.Perm l) (hs : m.Pairwise leS) (hv : ∀ s ∈ l, s.f ≤ s.t) (h : m.foldl mergeS [] = r) : normS l = r := (norm_of_sorted hv hp hs).symm.trans h
theorem br_run (r : Bool) (n : Nat) : brS r n = runS ((fieldN (2 * n + 1) ((2 * n + 1) * (2 * n + 1)) (-(n : Int)) (-(n : Int))).filter (inBr r n)) := (run_norm ((field_beh (by omega) _ _ _).sublist List.filter_sublist)).symm
def redC : C4 := ⟨255, 0, 0, 255⟩
def wkT : List TL := List.replicate 1 (nT zC4)
theorem wkT_ok : CvOk 1 1 wkT := ⟨by decide, by decide⟩
def k7a : List Sp := [⟨0, 0, 3⟩]
def k7b : List Sp := [⟨-1, -1, 4⟩, ⟨0, -1, 4⟩, ⟨1, -1, 4⟩]
def k7c : List Sp := [⟨1, 1, 3⟩, ⟨2, 1, 3⟩, ⟨3, 1, 3⟩]
def k7d : List Sp := [⟨1, 1, 3⟩, ⟨2, 1, 1⟩, ⟨2, 3, 3⟩, ⟨3, 1, 3⟩]
theorem w7_b0 : brS false 0 = [⟨0, 0, 0⟩] := by rw [br_run]; decide
theorem w7_b1 : brS false 1 = [⟨-1, -1, 1⟩, ⟨0, -1, 1⟩, ⟨1, -1, 1⟩] := by rw [br_run]; decide
theorem w7_ln : lineL ⟨0, 0⟩ ⟨3, 0⟩ = [⟨0, 0⟩, ⟨1, 0⟩, ⟨2, 0⟩, ⟨3, 0⟩] := by decide
theorem w7_a : swL false 0 (lineL ⟨0, 0⟩ ⟨3, 0⟩) = k7a := by
  rw [w7_ln]
  obtain ⟨e1, _⟩ := sw_ok (r := false) (n := 0) (l := [⟨0, 0⟩, ⟨1, 0⟩, ⟨2, 0⟩, ⟨3, 0⟩]) (by decide)
  rw [e1]
  show normS (swK false 0 _) = _
  unfold swK
  rw [w7_b0]
  exact norm_calc (m := [⟨0, 0, 0⟩, ⟨0, 1, 1⟩, ⟨0, 2, 2⟩, ⟨0, 3, 3⟩]) (by decide) (by decide) (by decide) (by decide)
theorem w7_b : swL false 1 (lineL ⟨0, 0⟩ ⟨3, 0⟩) = k7b := by
  rw [w7_ln]
  obtain ⟨e1, _⟩ := sw_ok (r := false) (n := 1) (l := [⟨0, 0⟩, ⟨1, 0⟩, ⟨2, 0⟩, ⟨3, 0⟩]) (by decide)
  rw [e1]
  show normS (swK false 1 _) = _
  unfold swK
  rw [w7_b1]
  exact norm_calc (m := [⟨-1, -1, 1⟩, ⟨-1, 0, 2⟩, ⟨-1, 1, 3⟩, ⟨-1, 2, 4⟩, ⟨0, -1, 1⟩, ⟨0, 0, 2⟩, ⟨0, 1, 3⟩, ⟨0, 2, 4⟩, ⟨1, -1, 1⟩, ⟨1, 0, 2⟩, ⟨1, 1, 3⟩, ⟨1, 2, 4⟩]) (by decide) (by decide) (by decide) (by decide)
theorem w7_c : rectL ⟨3, 3⟩ ⟨1, 1⟩ = k7c := by decide
theorem w7_d : uniL (frmR ⟨1, 1⟩ ⟨3, 3⟩) = k7d := by
  rw [(uni_ok (frm_ok (a := ⟨1, 1⟩) (b := ⟨3, 3⟩) (by decide) (by decide)).1).1]
  exact norm_calc (m := [⟨1, 1, 3⟩, ⟨1, 1, 1⟩, ⟨1, 3, 3⟩, ⟨2, 1, 1⟩, ⟨2, 3, 3⟩, ⟨3, 1, 1⟩, ⟨3, 1, 3⟩, ⟨3, 3, 3⟩]) (by decide) (by decide) (by decide) (by decide)
theorem w7_na : (difC 1 1 wkT (drwC false 1 1 wkT redC k7a)).length = 4 := by kernel_rfl
theorem w7_nb : (difC 1 1 wkT (drwC false 1 1 wkT redC k7b)).length = 10 := by kernel_rfl
theorem w7_nc : (difC 1 1 wkT (drwC false 1 1 wkT redC k7c)).length = 9 := by kernel_rfl
theorem w7_nd : (difC 1 1 wkT (drwC false 1 1 wkT redC k7d)).length = 8 := by kernel_rfl
theorem w7_sn : swB 16 [⟨0, 0⟩] = false := by decide
theorem w7l0_d : DFun Tryz.prog 29 [cvD 1 1 (dpR wkT), .val (.agg #[.int .u8 255, .int .u8 0, .int .u8 0, .int .u8 255, .int .i64 0, .bool false]), .val (.agg #[.int .i64 0, .int .i64 0]), .val (.agg #[.int .i64 3, .int .i64 0])] [] (.tup [cvD 1 1 (dpR (drwC false 1 1 wkT redC k7a)), .val (.int .i64 0)]) [] := by
  have h := dline_d 1 1 _ wkT (dpR_ok wkT) wkT_ok redC 0 false ⟨0, 0⟩ ⟨3, 0⟩ (by decide) (by decide) (by rw [w7_ln]; decide)
  rw [w7_a] at h
  exact h
theorem w7l1_d : DFun Tryz.prog 29 [cvD 1 1 (dpR wkT), .val (.agg #[.int .u8 255, .int .u8 0, .int .u8 0, .int .u8 255, .int .i64 1, .bool false]), .val (.agg #[.int .i64 0, .int .i64 0]), .val (.agg #[.int .i64 3, .int .i64 0])] [] (.tup [cvD 1 1 (dpR (drwC false 1 1 wkT redC k7b)), .val (.int .i64 0)]) [] := by
  have h := dline_d 1 1 _ wkT (dpR_ok wkT) wkT_ok redC 1 false ⟨0, 0⟩ ⟨3, 0⟩ (by decide) (by decide) (by rw [w7_ln]; decide)
  rw [w7_b] at h
  exact h
theorem w7r_d : DFun Tryz.prog 31 [cvD 1 1 (dpR wkT), .val (.agg #[.int .u8 255, .int .u8 0, .int .u8 0, .int .u8 255]), .val (.agg #[.int .i64 3, .int .i64 3]), .val (.agg #[.int .i64 1, .int .i64 1])] [] (.tup [cvD 1 1 (dpR (drwC false 1 1 wkT redC k7c)), .val (.int .i64 0)]) [] := by
  have h := drect_d 1 1 _ wkT (dpR_ok wkT) wkT_ok redC ⟨3, 3⟩ ⟨1, 1⟩ (by decide) (by decide)
  rw [w7_c] at h
  exact h
theorem w7f_d : DFun Tryz.prog 32 [cvD 1 1 (dpR wkT), .val (.agg #[.int .u8 255, .int .u8 0, .int .u8 0, .int .u8 255]), .val (.agg #[.int .i64 1, .int .i64 1]), .val (.agg #[.int .i64 3, .int .i64 3])] [] (.tup [cvD 1 1 (dpR (drwC false 1 1 wkT redC k7d)), .val (.int .i64 0)]) [] := by
  have h := frame_d 1 1 _ wkT (dpR_ok wkT) wkT_ok redC ⟨1, 1⟩ ⟨3, 3⟩ (by decide) (by decide)
  rw [w7_d] at h
  exact h
theorem w7n_d : DFun Tryz.prog 27 [cvD 1 1 (dpR wkT), .val (.agg #[.int .u8 0, .int .u8 0, .int .u8 0, .int .u8 0, .int .i64 16, .bool false]), .slf 2 1 [.int .i64 0, .int .i64 0]] [] (.tup [.val (.pointer none), .val (.int .i64 2)]) [] := stroke_n 1 1 _ wkT (dpR_ok wkT) wkT_ok zC4 16 false [⟨0, 0⟩] w7_sn (by decide)
set_option maxRecDepth 4000 in
set_option maxHeartbeats 1000000 in
theorem wakes_d : DFun Tryz.prog 9 [] [.glob 0 (c4 redC)] (.val (.bool true)) [.glob 0 (c4 redC)] := by
  refine zam (N := 120) 1 (by kernel_rfl) Tryz.func9 rfl rfl rfl (by simp only [fr0, Nat.zero_add, Nat.reduceAdd]; exact rfl) rfl fun s0 hs0 => ?_
  refine zaf ?_
  refine zad ?_
  refine zab rfl rfl rfl (zac (.inr rfl) (ev1 rfl)) ?_
  refine zae ?_
  refine zaf ?_
  refine zad ?_
  refine zab rfl rfl rfl (zai [] [] [] rfl (ev1 rfl) (ec (ev1 rfl) (ec (ev1 rfl) en)) rfl rfl (cnew_d 1 1 1 (by decide) (by decide)) rfl rfl rfl rfl rfl rfl) ?_
  refine zab rfl rfl rfl (zac (.inl rfl) (ev1 rfl)) ?_
  refine zab rfl rfl rfl (op_ext rfl (ev1 rfl) rfl) ?_
  refine zab rfl rfl rfl (op_ext rfl (ev1 rfl) rfl) ?_
  refine zab rfl rfl rfl (zac (.inr rfl) (ev1 rfl)) ?_
  refine zab rfl rfl rfl (zac (.inr rfl) (ev1 rfl)) ?_
  refine zae ?_
  refine zaf ?_
  refine zad ?_
  refine zab rfl rfl rfl (zac (.inl rfl) (ev1 rfl)) ?_
  refine zab rfl rfl rfl (op_ldg (i := 0) rfl tb27 (ev1 rfl) rfl rfl) ?_
  refine zab rfl rfl rfl (op_build (ps := [(0, .tmp 21)]) rfl fl47 zr47 (vc (ev1 rfl) vn) rfl rfl) ?_
  refine zab rfl rfl rfl (op_build0 rfl fl51 zr51) ?_
  refine zab rfl rfl rfl (op_build (ps := [(0, .const (.int .i64 3))]) rfl fl51 zr51 (vc (ev1 rfl) vn) rfl rfl) ?_
  refine zab rfl rfl rfl (zai [] [] [] rfl (ev1 rfl) (ec (ev1 rfl) (ec (ev1 rfl) (ec (ev1 rfl) (ec (ev1 rfl) en)))) rfl rfl (w7l0_d) rfl rfl rfl rfl rfl rfl) ?_
  refine zab rfl rfl rfl (zac (.inl rfl) (ev1 rfl)) ?_
  refine zab rfl rfl rfl (op_ext rfl (ev1 rfl) rfl) ?_
  refine zab rfl rfl rfl (op_ext rfl (ev1 rfl) rfl) ?_
  refine zab rfl rfl rfl (zac (.inr rfl) (ev1 rfl)) ?_
  refine zab rfl rfl rfl (zac (.inr rfl) (ev1 rfl)) ?_
  refine zae ?_
  refine zaf ?_
  refine zad ?_
  refine zab rfl rfl rfl (zac (.inl rfl) (ev1 rfl)) ?_
  refine zab rfl rfl rfl (op_ldg (i := 0) rfl tb27 (ev1 rfl) rfl rfl) ?_
  refine zab rfl rfl rfl (op_build (ps := [(0, .tmp 30), (1, .const (.int .i64 1))]) rfl fl47 zr47 (vc (ev1 rfl) (vc (ev1 rfl) vn)) rfl rfl) ?_
  refine zab rfl rfl rfl (op_build0 rfl fl51 zr51) ?_
  refine zab rfl rfl rfl (op_build (ps := [(0, .const (.int .i64 3))]) rfl fl51 zr51 (vc (ev1 rfl) vn) rfl rfl) ?_
  refine zab rfl rfl rfl (zai [] [] [] rfl (ev1 rfl) (ec (ev1 rfl) (ec (ev1 rfl) (ec (ev1 rfl) (ec (ev1 rfl) en)))) rfl rfl (w7l1_d) rfl rfl rfl rfl rfl rfl) ?_
  refine zab rfl rfl rfl (zac (.inl rfl) (ev1 rfl)) ?_
  refine zab rfl rfl rfl (op_ext rfl (ev1 rfl) rfl) ?_
  refine zab rfl rfl rfl (op_ext rfl (ev1 rfl) rfl) ?_
  refine zab rfl rfl rfl (zac (.inr rfl) (ev1 rfl)) ?_
  refine zab rfl rfl rfl (zac (.inr rfl) (ev1 rfl)) ?_
  refine zae ?_
  refine zaf ?_
  refine zad ?_
  refine zab rfl rfl rfl (zac (.inl rfl) (ev1 rfl)) ?_
  refine zab rfl rfl rfl (op_ldg (i := 0) rfl tb27 (ev1 rfl) rfl rfl) ?_
  refine zab rfl rfl rfl (op_build (ps := [(0, .const (.int .i64 3)), (1, .const (.int .i64 3))]) rfl fl51 zr51 (vc (ev1 rfl) (vc (ev1 rfl) vn)) rfl rfl) ?_
  refine zab rfl rfl rfl (op_build (ps := [(0, .const (.int .i64 1)), (1, .const (.int .i64 1))]) rfl fl51 zr51 (vc (ev1 rfl) (vc (ev1 rfl) vn)) rfl rfl) ?_
  refine zab rfl rfl rfl (zai [] [] [] rfl (ev1 rfl) (ec (ev1 rfl) (ec (ev1 rfl) (ec (ev1 rfl) (ec (ev1 rfl) en)))) rfl rfl (w7r_d) rfl rfl rfl rfl rfl rfl) ?_
  refine zab rfl rfl rfl (zac (.inl rfl) (ev1 rfl)) ?_
  refine zab rfl rfl rfl (op_ext rfl (ev1 rfl) rfl) ?_
  refine zab rfl rfl rfl (op_ext rfl (ev1 rfl) rfl) ?_
  refine zab rfl rfl rfl (zac (.inr rfl) (ev1 rfl)) ?_
  refine zab rfl rfl rfl (zac (.inr rfl) (ev1 rfl)) ?_
  refine zae ?_
  refine zaf ?_
  refine zad ?_
  refine zab rfl rfl rfl (zac (.inl rfl) (ev1 rfl)) ?_
  refine zab rfl rfl rfl (op_ldg (i := 0) rfl tb27 (ev1 rfl) rfl rfl) ?_
  refine zab rfl rfl rfl (op_build (ps := [(0, .const (.int .i64 1)), (1, .const (.int .i64 1))]) rfl fl51 zr51 (vc (ev1 rfl) (vc (ev1 rfl) vn)) rfl rfl) ?_
  refine zab rfl rfl rfl (op_build (ps := [(0, .const (.int .i64 3)), (1, .const (.int .i64 3))]) rfl fl51 zr51 (vc (ev1 rfl) (vc (ev1 rfl) vn)) rfl rfl) ?_
  refine zab rfl rfl rfl (zai [] [] [] rfl (ev1 rfl) (ec (ev1 rfl) (ec (ev1 rfl) (ec (ev1 rfl) (ec (ev1 rfl) en)))) rfl rfl (w7f_d) rfl rfl rfl rfl rfl rfl) ?_
  refine zab rfl rfl rfl (zac (.inl rfl) (ev1 rfl)) ?_
  refine zab rfl rfl rfl (op_ext rfl (ev1 rfl) rfl) ?_
  refine zab rfl rfl rfl (op_ext rfl (ev1 rfl) rfl) ?_
  refine zab rfl rfl rfl (zac (.inr rfl) (ev1 rfl)) ?_
  refine zab rfl rfl rfl (zac (.inr rfl) (ev1 rfl)) ?_
  refine zae ?_
  refine zaf ?_
  refine zad ?_
  refine zab rfl rfl rfl (zac (.inl rfl) (ev1 rfl)) ?_
  refine zab rfl rfl rfl (op_build (ps := [(1, .const (.int .i64 16))]) rfl fl47 zr47 (vc (ev1 rfl) vn) rfl rfl) ?_
  refine zab rfl rfl rfl (op_build0 rfl fl51 zr51) ?_
  refine zab rfl rfl rfl (op_bs (ps := [(0, .tmp 56)]) rfl sl48 zr51 rfl (vc (ev1 rfl) vn) rfl (by decide) (by decide)) ?_
  refine zab rfl rfl rfl (zai [] [] [] rfl (ev1 rfl) (ec (ev1 rfl) (ec (ev1 rfl) (ec (ev1 rfl) en))) rfl rfl (w7n_d) rfl rfl rfl rfl rfl rfl) ?_
  refine zab rfl rfl rfl (zac (.inl rfl) (ev1 rfl)) ?_
  refine zab rfl rfl rfl (op_ext rfl (ev1 rfl) rfl) ?_
  refine zab rfl rfl rfl (op_ext rfl (ev1 rfl) rfl) ?_
  refine zab rfl rfl rfl (zac (.inr rfl) (ev1 rfl)) ?_
  refine zab rfl rfl rfl (zac (.inr rfl) (ev1 rfl)) ?_
  refine zae ?_
  refine zaf ?_
  refine zad ?_
  refine zab rfl rfl rfl (op_ldg (i := 0) rfl tb27 (ev1 rfl) rfl rfl) ?_
  refine zab rfl rfl rfl (zai [] [] [] rfl (ev1 rfl) (ec (ev1 rfl) (ec (evnil 3 (ev1 rfl)) (ec (ev1 rfl) en))) rfl rfl (paint_0 [] redC) rfl rfl rfl rfl rfl rfl) ?_
  refine zab rfl rfl rfl (zac (.inl rfl) (ev1 rfl)) ?_
  refine zab rfl rfl rfl (op_ext rfl (ev1 rfl) rfl) ?_
  refine zab rfl rfl rfl (op_ext rfl (ev1 rfl) rfl) ?_
  refine zab rfl rfl rfl (zac (.inr rfl) (ev1 rfl)) ?_
  refine zab rfl rfl rfl (zac (.inr rfl) (ev1 rfl)) ?_
  refine zae ?_
  refine zaf ?_
  refine zad ?_
  refine zab rfl rfl rfl (zac (.inl rfl) (ev1 rfl)) ?_
  refine zab rfl rfl rfl ((op_eql rfl (ev1 rfl) (ev1 rfl)).cast (d' := .val (.bool true)) (by kernel_rfl)) ?_
  refine zab rfl rfl rfl (zac (.inl rfl) (ev1 rfl)) ?_
  refine walk_k (gd_t (b := true) rfl rfl rfl) rfl rfl rfl (zac (.inl rfl) (ev1 rfl)) (by simp only [upd, zaa, za]; exact rfl) ?_
  refine walk_k (gd_t (b := true) rfl rfl rfl) rfl rfl rfl ((op_eql rfl (ev2 rfl) (ev1 rfl)).cast (d' := .val (.bool true)) (by kernel_rfl)) (by simp only [upd, zaa, za]; exact rfl) ?_
  refine zab rfl rfl rfl ((op_and rfl (ev1 rfl) (ev3 rfl (fun _ => rfl))).cast (d' := .val (.bool true)) (by rfl)) ?_
  refine zab rfl rfl rfl (zac (.inl rfl) (ev1 rfl)) ?_
  refine walk_k (gd_t (b := true) rfl rfl rfl) rfl rfl rfl (zac (.inl rfl) (ev1 rfl)) (by simp only [upd, zaa, za]; exact rfl) ?_
  refine walk_k (gd_t (b := true) rfl rfl rfl) rfl rfl rfl ((op_eql rfl (ev2 rfl) (ev1 rfl)).cast (d' := .val (.bool true)) (by kernel_rfl)) (by simp only [upd, zaa, za]; exact rfl) ?_
  refine zab rfl rfl rfl ((op_and rfl (ev1 rfl) (ev3 rfl (fun _ => rfl))).cast (d' := .val (.bool true)) (by rfl)) ?_
  refine zab rfl rfl rfl (zac (.inl rfl) (ev1 rfl)) ?_
  refine walk_k (gd_t (b := true) rfl rfl rfl) rfl rfl rfl (zac (.inl rfl) (ev1 rfl)) (by simp only [upd, zaa, za]; exact rfl) ?_
  refine walk_k (gd_t (b := true) rfl rfl rfl) rfl rfl rfl ((op_eql rfl (ev2 rfl) (ev1 rfl)).cast (d' := .val (.bool true)) (by kernel_rfl)) (by simp only [upd, zaa, za]; exact rfl) ?_
  refine zab rfl rfl rfl ((op_and rfl (ev1 rfl) (ev3 rfl (fun _ => rfl))).cast (d' := .val (.bool true)) (by rfl)) ?_
  refine zab rfl rfl rfl (zac (.inl rfl) (ev1 rfl)) ?_
  refine walk_k (gd_t (b := true) rfl rfl rfl) rfl rfl rfl (zac (.inl rfl) (ev1 rfl)) (by simp only [upd, zaa, za]; exact rfl) ?_
  refine walk_k (gd_t (b := true) rfl rfl rfl) rfl rfl rfl ((op_eql rfl (ev2 rfl) (ev1 rfl)).cast (d' := .val (.bool true)) (by kernel_rfl)) (by simp only [upd, zaa, za]; exact rfl) ?_
  refine zab rfl rfl rfl ((op_and rfl (ev1 rfl) (ev3 rfl (fun _ => rfl))).cast (d' := .val (.bool true)) (by rfl)) ?_
  refine zab rfl rfl rfl (zac (.inl rfl) (ev1 rfl)) ?_
  refine walk_k (gd_t (b := true) rfl rfl rfl) rfl rfl rfl (zac (.inl rfl) (ev1 rfl)) (by simp only [upd, zaa, za]; exact rfl) ?_
  refine walk_k (gd_t (b := true) rfl rfl rfl) rfl rfl rfl ((op_eql rfl (ev2 rfl) (ev1 rfl)).cast (d' := .val (.bool true)) (by kernel_rfl)) (by simp only [upd, zaa, za]; exact rfl) ?_
  refine zab rfl rfl rfl ((op_and rfl (ev1 rfl) (ev3 rfl (fun _ => rfl))).cast (d' := .val (.bool true)) (by rfl)) ?_
  refine zab rfl rfl rfl (zac (.inl rfl) (ev1 rfl)) ?_
  refine walk_k (gd_t (b := true) rfl rfl rfl) rfl rfl rfl (zac (.inl rfl) (ev1 rfl)) (by simp only [upd, zaa, za]; exact rfl) ?_
  refine walk_k (gd_t (b := true) rfl rfl rfl) rfl rfl rfl ((op_eql rfl (ev2 rfl) (ev1 rfl)).cast (d' := .val (.bool true)) (by kernel_rfl)) (by simp only [upd, zaa, za]; exact rfl) ?_
  refine zab rfl rfl rfl ((op_and rfl (ev1 rfl) (ev3 rfl (fun _ => rfl))).cast (d' := .val (.bool true)) (by rfl)) ?_
  refine zab rfl rfl rfl (zac (.inl rfl) (ev1 rfl)) ?_
  refine walk_k (gd_t (b := true) rfl rfl rfl) rfl rfl rfl (zac (.inl rfl) (ev1 rfl)) (by simp only [upd, zaa, za]; exact rfl) ?_
  refine walk_k (gd_t (b := true) rfl rfl rfl) rfl rfl rfl (zac (.inl rfl) (ev1 rfl)) (by simp only [upd, zaa, za]; exact rfl) ?_
  refine walk_k (gd_t (b := true) rfl rfl rfl) rfl rfl rfl (zai [] [] [] rfl (ev1 rfl) (ec (ev2 rfl) (ec (ev2 rfl) en)) rfl rfl (differ_d 1 1 _ _ wkT (drwC false 1 1 wkT redC k7a) (dpR_ok _) (dpR_ok _) wkT_ok (wkT_ok.puts _)) rfl rfl rfl rfl rfl rfl) (by simp only [upd, zaa, za]; exact rfl) ?_
  refine walk_k (gd_t (b := true) rfl rfl rfl) rfl rfl rfl (op_len rfl sl48 (ev2 rfl)) (by simp only [upd, zaa, za]; exact rfl) ?_
  refine walk_k (gd_t (b := true) rfl rfl rfl) rfl rfl rfl ((op_eql rfl (ev2 rfl) (ev1 rfl)).cast (d' := .val (.bool true)) (by rw [w7_na]; rfl)) (by simp only [upd, zaa, za]; exact rfl) ?_
  refine zab rfl rfl rfl ((op_and rfl (ev1 rfl) (ev3 rfl (fun _ => rfl))).cast (d' := .val (.bool true)) (by rfl)) ?_
  refine zab rfl rfl rfl (zac (.inl rfl) (ev1 rfl)) ?_
  refine walk_k (gd_t (b := true) rfl rfl rfl) rfl rfl rfl (zac (.inl rfl) (ev1 rfl)) (by simp only [upd, zaa, za]; exact rfl) ?_
  refine walk_k (gd_t (b := true) rfl rfl rfl) rfl rfl rfl (zac (.inl rfl) (ev1 rfl)) (by simp only [upd, zaa, za]; exact rfl) ?_
  refine walk_k (gd_t (b := true) rfl rfl rfl) rfl rfl rfl (zai [] [] [] rfl (ev1 rfl) (ec (ev2 rfl) (ec (ev2 rfl) en)) rfl rfl (differ_d 1 1 _ _ wkT (drwC false 1 1 wkT redC k7b) (dpR_ok _) (dpR_ok _) wkT_ok (wkT_ok.puts _)) rfl rfl rfl rfl rfl rfl) (by simp only [upd, zaa, za]; exact rfl) ?_
  refine walk_k (gd_t (b := true) rfl rfl rfl) rfl rfl rfl (op_len rfl sl48 (ev2 rfl)) (by simp only [upd, zaa, za]; exact rfl) ?_
  refine walk_k (gd_t (b := true) rfl rfl rfl) rfl rfl rfl ((op_eql rfl (ev2 rfl) (ev1 rfl)).cast (d' := .val (.bool true)) (by rw [w7_nb]; rfl)) (by simp only [upd, zaa, za]; exact rfl) ?_
  refine zab rfl rfl rfl ((op_and rfl (ev1 rfl) (ev3 rfl (fun _ => rfl))).cast (d' := .val (.bool true)) (by rfl)) ?_
  refine zab rfl rfl rfl (zac (.inl rfl) (ev1 rfl)) ?_
  refine walk_k (gd_t (b := true) rfl rfl rfl) rfl rfl rfl (zac (.inl rfl) (ev1 rfl)) (by simp only [upd, zaa, za]; exact rfl) ?_
  refine walk_k (gd_t (b := true) rfl rfl rfl) rfl rfl rfl (zac (.inl rfl) (ev1 rfl)) (by simp only [upd, zaa, za]; exact rfl) ?_
  refine walk_k (gd_t (b := true) rfl rfl rfl) rfl rfl rfl (zai [] [] [] rfl (ev1 rfl) (ec (ev2 rfl) (ec (ev2 rfl) en)) rfl rfl (differ_d 1 1 _ _ wkT (drwC false 1 1 wkT redC k7c) (dpR_ok _) (dpR_ok _) wkT_ok (wkT_ok.puts _)) rfl rfl rfl rfl rfl rfl) (by simp only [upd, zaa, za]; exact rfl) ?_
  refine walk_k (gd_t (b := true) rfl rfl rfl) rfl rfl rfl (op_len rfl sl48 (ev2 rfl)) (by simp only [upd, zaa, za]; exact rfl) ?_
  refine walk_k (gd_t (b := true) rfl rfl rfl) rfl rfl rfl ((op_eql rfl (ev2 rfl) (ev1 rfl)).cast (d' := .val (.bool true)) (by rw [w7_nc]; rfl)) (by simp only [upd, zaa, za]; exact rfl) ?_
  refine zab rfl rfl rfl ((op_and rfl (ev1 rfl) (ev3 rfl (fun _ => rfl))).cast (d' := .val (.bool true)) (by rfl)) ?_
  refine zab rfl rfl rfl (zac (.inl rfl) (ev1 rfl)) ?_
  refine walk_k (gd_t (b := true) rfl rfl rfl) rfl rfl rfl (zac (.inl rfl) (ev1 rfl)) (by simp only [upd, zaa, za]; exact rfl) ?_
  refine walk_k (gd_t (b := true) rfl rfl rfl) rfl rfl rfl (zac (.inl rfl) (ev1 rfl)) (by simp only [upd, zaa, za]; exact rfl) ?_
  refine walk_k (gd_t (b := true) rfl rfl rfl) rfl rfl rfl (zai [] [] [] rfl (ev1 rfl) (ec (ev2 rfl) (ec (ev2 rfl) en)) rfl rfl (differ_d 1 1 _ _ wkT (drwC false 1 1 wkT redC k7d) (dpR_ok _) (dpR_ok _) wkT_ok (wkT_ok.puts _)) rfl rfl rfl rfl rfl rfl) (by simp only [upd, zaa, za]; exact rfl) ?_
  refine walk_k (gd_t (b := true) rfl rfl rfl) rfl rfl rfl (op_len rfl sl48 (ev2 rfl)) (by simp only [upd, zaa, za]; exact rfl) ?_
  refine walk_k (gd_t (b := true) rfl rfl rfl) rfl rfl rfl ((op_eql rfl (ev2 rfl) (ev1 rfl)).cast (d' := .val (.bool true)) (by rw [w7_nd]; rfl)) (by simp only [upd, zaa, za]; exact rfl) ?_
  refine zab rfl rfl rfl ((op_and rfl (ev1 rfl) (ev3 rfl (fun _ => rfl))).cast (d' := .val (.bool true)) (by rfl)) ?_
  refine zab rfl rfl rfl (zac (.inr rfl) (ev1 rfl)) ?_
  refine zae ?_
  refine dwp_ret ?_
  refine kend [0] (rs1 rfl (rv_t rfl)) rfl rfl ?_ ⟨rfl, trivial⟩
  rfl
end Go.Proofs.YtjgnalfnginjbaaGreatDoor
namespace Go.Proofs.YtjgnalfnginjbaaGreatDoor
set_option maxRecDepth 4000
set_option linter.unusedVariables false
set_option linter.unusedSimpArgs false
open Go.RowKit
theorem drwC_ok {w h : Int} {ts : List TL} (hc : CvOk w h ts) (k : Bool) (c : C4) (l : List Sp) : CvOk w h (drwC k w h ts c l) := hc.puts _
end Go.Proofs.YtjgnalfnginjbaaGreatDoor
namespace Go.Proofs.YtjgnalfnginjbaaGreatDoor
set_option maxRecDepth 4000
set_option linter.unusedVariables false
set_option linter.unusedSimpArgs false
open Go.RowKit
open Go.ChangeShapes Go.WideShapes Go.ChangeAt Go.Joins Go.Deep
theorem fits_prim_i64 {v : Value} (h : (Prim.int .i64).is v) : ∃ a : Int, (-9223372036854775808 ≤ a ∧ a ≤ 9223372036854775807) ∧ v = .int .i64 a := by
  obtain ⟨x, rfl, w⟩ := h
  exact ⟨x, by simpa [Lit.wf, IntKind.min, IntKind.max, IntKind.signed, IntKind.bits] using w, rfl⟩
theorem fitsP_append : ∀ (a b : List Prim) (cs : List Value), fitsP (a ++ b) cs → ∃ c d, cs = c ++ d ∧ fitsP a c ∧ fitsP b d
  | [], _, cs, h => ⟨[], cs, rfl, trivial, h⟩
  | _ :: _, _, [], h => by cases h
  | p :: a, b, v :: cs, h => by
    obtain ⟨h1, h2⟩ := h
    obtain ⟨c, d, rfl, h3, h4⟩ := fitsP_append a b cs h2
    exact ⟨v :: c, d, rfl, ⟨h1, h3⟩, h4⟩
theorem fitsP_cons {p : Prim} {ps : List Prim} {cs : List Value} (h : fitsP (p :: ps) cs) : ∃ v r, cs = v :: r ∧ p.is v ∧ fitsP ps r := by
  cases cs with
  | nil => cases h
  | cons v r => exact ⟨v, r, rfl, h.1, h.2⟩
theorem fitsP_nil {cs : List Value} (h : fitsP [] cs) : cs = [] := by
  cases cs with
  | nil => rfl
  | cons v r => cases h
theorem fits_i64 : ∀ cs, fitsP [.int .i64] cs → ∃ a : Int, (-9223372036854775808 ≤ a ∧ a ≤ 9223372036854775807) ∧ cs = [.int .i64 a]
  | [c0], h => by
    obtain ⟨h0, _⟩ := h
    obtain ⟨a, w, rfl⟩ := fits_prim_i64 h0
    exact ⟨a, w, rfl⟩
  | [], h => by cases h
  | _ :: _ :: _, h => by obtain ⟨_, h⟩ := h; cases h
theorem fits_u8 {v : Value} (h : (Prim.int .u8).is v) : ∃ a : Int, (0 ≤ a ∧ a ≤ 255) ∧ v = .int .u8 a := by
  obtain ⟨x, rfl, w⟩ := h
  exact ⟨x, by simpa [Lit.wf, IntKind.min, IntKind.max, IntKind.signed, IntKind.bits] using w, rfl⟩
theorem fits_c4 (cs : List Value) (h : fitsP [.int .u8, .int .u8, .int .u8, .int .u8] cs) : ∃ a : C4, a.rng ∧ cs = c4 a := by
  obtain ⟨x0, r, rfl, h0, h⟩ := fitsP_cons h
  obtain ⟨x1, r, rfl, h1, h⟩ := fitsP_cons h
  obtain ⟨x2, r, rfl, h2, h⟩ := fitsP_cons h
  obtain ⟨x3, r, rfl, h3, h⟩ := fitsP_cons h
  obtain rfl := fitsP_nil h
  obtain ⟨a0, w0, rfl⟩ := fits_u8 h0
  obtain ⟨a1, w1, rfl⟩ := fits_u8 h1
  obtain ⟨a2, w2, rfl⟩ := fits_u8 h2
  obtain ⟨a3, w3, rfl⟩ := fits_u8 h3
  exact ⟨⟨a0, a1, a2, a3⟩, ⟨w0, w1, w2, w3⟩, rfl⟩
def P2.rng (p : P2) : Prop := (-9223372036854775808 ≤ p.x ∧ p.x ≤ 9223372036854775807) ∧ (-9223372036854775808 ≤ p.y ∧ p.y ≤ 9223372036854775807)
theorem fits_p2 (cs : List Value) (h : fitsP [.int .i64, .int .i64] cs) : ∃ p : P2, p.rng ∧ cs = p2 p := by
  obtain ⟨x0, r, rfl, h0, g1⟩ := fitsP_cons h
  obtain ⟨x1, r, rfl, h1, g2⟩ := fitsP_cons g1
  obtain rfl := fitsP_nil g2
  obtain ⟨x, wx, rfl⟩ := fits_prim_i64 h0
  obtain ⟨y, wy, rfl⟩ := fits_prim_i64 h1
  exact ⟨⟨x, y⟩, ⟨wx, wy⟩, rfl⟩
theorem fits_cs : ∀ (n : Nat) (cs : List Value), fitsP (List.replicate n [.int .u8, .int .u8, .int .u8, .int .u8]).flatten cs → ∃ l : List C4, l.length = n ∧ (∀ c ∈ l, c.rng) ∧ cs = l.flatMap c4
  | 0, [], _ => ⟨[], rfl, (fun c h => by cases h), rfl⟩
  | 0, _ :: _, h => by cases h
  | n + 1, cs, h => by
    rw [List.replicate_succ, List.flatten_cons] at h
    obtain ⟨a, b, rfl, h1, h2⟩ := fitsP_append _ _ _ h
    obtain ⟨c, hc, rfl⟩ := fits_c4 _ h1
    obtain ⟨l, hl, hr, rfl⟩ := fits_cs n b h2
    exact ⟨c :: l, by rw [List.length_cons, hl], fun d hd => (List.mem_cons.1 hd).elim (fun e => e ▸ hc) (hr d), rfl⟩
theorem fits_tl (cs : List Value) (h : fitsP (List.replicate 64 [.int .u8, .int .u8, .int .u8, .int .u8]).flatten cs) : ∃ t : TL, (∀ c ∈ t.l, c.rng) ∧ cs = tc t := by
  obtain ⟨l, hl, hr, rfl⟩ := fits_cs 64 cs h
  exact ⟨⟨l, hl⟩, hr, rfl⟩
theorem opens_i64 {w : World} : Opens Tryz.prog w 3 (fun a : Int => [.val (.int .i64 a)]) (fun a => -9223372036854775808 ≤ a ∧ a ≤ 9223372036854775807) := opens_flat 1 (fun a : Int => [.int .i64 a]) _ fits_i64 (by kernel_rfl)
theorem opens_rowz {α : Type} {w : World} {t e : TypeId} {ps : List Prim} {sz : Nat} (f : Nat) (en : α → List Value) (ok : α → Prop) (hP : ∀ cs, fitsP ps cs → ∃ a, ok a ∧ cs = en a) (ht : Tryz.prog.underlying t = some (.slice e)) (hf : flatT Tryz.prog f e = some ps) (hz : ps.length = sz) (hc : Tryz.prog.cellsOf e = sz) (hpos : 0 < sz)
    (hen : ∀ a, (en a).length = sz) : Opens Tryz.prog w t (fun l : List α => [.slf sz l.length (l.flatMap en)]) (fun l => ∀ a ∈ l, ok a) := by
  subst hz
  exact opens_row f en ok hP ht hf hc hpos hen
abbrev kT : List Prim := (List.replicate 64 [.int .u8, .int .u8, .int .u8, .int .u8]).flatten
theorem kT_len : kT.length = 256 := by kernel_rfl
theorem opens_tls {w : World} : Opens Tryz.prog w 22 (fun l : List TL => [.slf 256 l.length (l.flatMap tc)]) (fun l => ∀ x ∈ l, ∀ c ∈ x.l, c.rng) :=
  opens_rowz 4 tc (fun t => ∀ c ∈ t.l, c.rng) fits_tl Tryz.underlying22 (show flatT Tryz.prog 4 73 = some kT by kernel_rfl) kT_len (by kernel_rfl) (by decide) tc_len
abbrev shL (a : Int × Int × List TL) : List D := [.val (.int .i64 a.1), .val (.int .i64 a.2.1), .slf 256 a.2.2.length (a.2.2.flatMap tc)]
theorem opens_cv {w : World} : Opens Tryz.prog w 24 shL (fun a => tsRng a.2.2) :=
  opens_map (fun a : Int × Int × List TL × Unit => (a.1, a.2.1, a.2.2.1)) (opens_struct Tryz.underlying24 (by kernel_rfl) (opensF_cons (k := 1) rfl (by kernel_rfl) opens_i64 (opensF_cons (k := 1) rfl (by kernel_rfl) opens_i64 (opensF_cons (k := 1) rfl (by kernel_rfl) opens_tls opensF_nil)))) (fun _ => rfl) (fun _ h => h.2.2.1)
def Sp.rng (s : Sp) : Prop := (-9223372036854775808 ≤ s.y ∧ s.y ≤ 9223372036854775807) ∧ (-9223372036854775808 ≤ s.f ∧ s.f ≤ 9223372036854775807) ∧ -9223372036854775808 ≤ s.t ∧ s.t ≤ 9223372036854775807
end Go.Proofs.YtjgnalfnginjbaaGreatDoor
namespace Go.Proofs.YtjgnalfnginjbaaGreatDoor
set_option maxRecDepth 4000
set_option linter.unusedVariables false
set_option linter.unusedSimpArgs false
open Go.RowKit
open Go.ChangeShapes Go.WideShapes Go.ChangeAt Go.Joins Go.Deep
theorem red_cells {w : World} {fuel : Nat} {cs : List Value} {p : List MemPlace} (h : DataW.trod (fun _ => ()) Tryz.prog w 0 (fun _ => true) false fuel 27 cs = some (Rows.laid_gesso_gessolaw07_red, p)) : cs = c4 redC := by
  obtain ⟨xs, n, _, hx, hl, hxl, hf⟩ := DataW.trod_struct Tryz.underlying27 h
  have hc : Tryz.prog.cellsOf 5 = 1 := by kernel_rfl
  have hl4 : cs.length = 4 := hl.trans (by kernel_rfl)
  match cs, hl4, xs, hxl with
  | [c0, c1, c2, c3], _, [x0, x1, x2, x3], _ =>
    have e0 : DataW.trod (fun _ => ()) Tryz.prog w 0 (fun _ => true) false n 5 (([c0, c1, c2, c3].drop 0).take (Tryz.prog.cellsOf 5)) = some x0 := hf 0 _ rfl
    have e1 : DataW.trod (fun _ => ()) Tryz.prog w 0 (fun _ => true) false n 5 (([c0, c1, c2, c3].drop 1).take (Tryz.prog.cellsOf 5)) = some x1 := hf 1 _ rfl
    have e2 : DataW.trod (fun _ => ()) Tryz.prog w 0 (fun _ => true) false n 5 (([c0, c1, c2, c3].drop 2).take (Tryz.prog.cellsOf 5)) = some x2 := hf 2 _ rfl
    have e3 : DataW.trod (fun _ => ()) Tryz.prog w 0 (fun _ => true) false n 5 (([c0, c1, c2, c3].drop 3).take (Tryz.prog.cellsOf 5)) = some x3 := hf 3 _ rfl
    rw [hc] at e0 e1 e2 e3
    obtain ⟨n0, q0, w0, _⟩ := DataW.trod_int Tryz.underlying5 e0
    obtain ⟨n1, q1, w1, _⟩ := DataW.trod_int Tryz.underlying5 e1
    obtain ⟨n2, q2, w2, _⟩ := DataW.trod_int Tryz.underlying5 e2
    obtain ⟨n3, q3, w3, _⟩ := DataW.trod_int Tryz.underlying5 e3
    subst w0 w1 w2 w3
    have hx := congrArg Prod.fst hx
    simp [Rows.laid_gesso_gessolaw07_red] at hx
    simp at q0 q1 q2 q3
    obtain ⟨a0, a1, a2, a3⟩ := hx
    subst q0 q1 q2 q3 a0 a1 a2 a3
    rfl
theorem red_glob (W : World) (h : laidMetH Tryz.prog [("gesso/gessolaw07.red", Rows.laid_gesso_gessolaw07_red)] W) : globMet W 0 (c4 redC) := by
  unfold laidMetH at h
  rw [show (([("gesso/gessolaw07.red", Rows.laid_gesso_gessolaw07_red)] : List (String × DataW Unit)).filter fun x => x.2.handleName?.isSome) = [] from rfl] at h
  obtain ⟨ps, hv, _⟩ := h
  obtain ⟨g', t', cs, fuel, p, h1, h2, h3, h4⟩ := laid_reads hv "gesso/gessolaw07.red" _ (List.mem_cons_self ..)
  have hg : Tryz.prog.globalNamed "gesso/gessolaw07.red" = some 0 := by kernel_rfl
  obtain rfl := Option.some.inj (hg.symm.trans h1)
  have hty : (Tryz.prog.globals[0]?).map (·.type) = some 27 := by kernel_rfl
  obtain rfl := Option.some.inj (hty.symm.trans h2)
  have hcs := red_cells h4
  unfold World.var? at h3
  rw [hg] at h3
  simp only [Option.bind_some] at h3
  split at h3
  · rename_i cs' T fz hb
    obtain rfl := Option.some.inj h3
    have hlt := (Array.getElem?_eq_some_iff.1 hb).1
    refine ⟨hlt, ?_⟩
    have := cellsAt_block hb 0
    rw [List.drop_zero, hcs] at this
    exact this
  · cases h3
end Go.Proofs.YtjgnalfnginjbaaGreatDoor
namespace Go.Proofs.YtjgnalfnginjbaaGreatDoor
set_option maxRecDepth 4000
set_option linter.unusedVariables false
set_option linter.unusedSimpArgs false
open Go.RowKit
theorem frm_has {a b : P2} (ha : drwB a = true) (hb : drwB b = true) (x y : Int) : hasS (uniL (frmR a b)) x y ↔ ((min a.x b.x ≤ x ∧ x ≤ max a.x b.x) ∧ min a.y b.y ≤ y ∧ y ≤ max a.y b.y) ∧ (x = a.x ∨ x = b.x ∨ y = a.y ∨ y = b.y) := by
  rw [uni_has (frm_ok ha hb).1]
  unfold frmR
  have e : (∃ l ∈ [rectL a (ac2 a b), rectL a (dn2 a b), rectL (ac2 a b) b, rectL (dn2 a b) b], hasS l x y) ↔ hasS (rectL a (ac2 a b)) x y ∨ hasS (rectL a (dn2 a b)) x y ∨ hasS (rectL (ac2 a b) b) x y ∨ hasS (rectL (dn2 a b) b) x y := by simp
  rw [e, rect_has, rect_has, rect_has, rect_has]
  unfold ac2 dn2
  simp only
  omega
end Go.Proofs.YtjgnalfnginjbaaGreatDoor
namespace Go.Proofs.YtjgnalfnginjbaaGreatDoor
set_option maxRecDepth 4000
set_option linter.unusedVariables false
set_option linter.unusedSimpArgs false
open Go.RowKit
theorem puts_one {w h : Int} {ts : List TL} (l : List Dt) (d : Dt) : putsC w h ts (l ++ [d]) = putC w h (putsC w h ts l) d := by unfold putsC; rw [List.foldl_append]; rfl
theorem take_rng {ts : List TL} (h : tsRng ts) (n : Nat) : tsRng (ts.take n) := fun t ht => h t (List.mem_of_mem_take ht)
theorem tkmin {α : Type} (l : List α) (n : Nat) : l.take (min l.length n) = l.take n := by
  rcases Nat.le_total l.length n with h | h
  · rw [Nat.min_eq_left h, List.take_length, List.take_of_length_le h]
  · rw [Nat.min_eq_right h]
set_option maxRecDepth 4000 in
set_option maxHeartbeats 1000000 in
theorem own_d (w h : Int) (ts : List TL) : DFun Tryz.prog 10 [shD w h ts] [] (shD w h (ts.take 17)) [] := by
  refine zam (N := 13) 0 (by kernel_rfl) Tryz.func10 rfl rfl rfl (by simp only [fr0, Nat.zero_add, Nat.reduceAdd]; exact rfl) rfl fun s0 hs0 => ?_
  refine zaf ?_
  refine zah 2 (by simp only [holes, List.cons_append, List.nil_append]; exact rfl) ?_
  refine zad ?_
  refine zak rfl rfl rfl (op_boxam 0 rfl (ev1 rfl) rfl) (by simp only [upd, zaa, za]; exact rfl) ?_
  refine zak rfl rfl rfl (op_alloc 1 rfl zr24 rfl) (by simp only [upd, zaa, za]; exact rfl) ?_
  refine zae ?_
  refine zaf ?_
  refine zad ?_
  refine zab rfl rfl rfl (op_fa rfl fo24_2 (ev1 rfl)) ?_
  refine zab rfl rfl rfl (op_ldm rfl tb22 (ev1 rfl) rfl rfl) ?_
  refine zab rfl rfl rfl (op_fa rfl fo24_2 (ev1 rfl)) ?_
  refine zab rfl rfl rfl (op_ldm rfl tb22 (ev1 rfl) rfl rfl) ?_
  refine zab rfl rfl rfl (op_len rfl sl22 (ev1 rfl)) ?_
  refine zab rfl rfl rfl (op_min rfl (ev1 rfl) (ev1 rfl)) ?_
  refine zab rfl rfl rfl (op_sltk (j := min ts.length 17) rfl sl22 (ev1 rfl) (bd_some (ev1 rfl)) (fun _ => by omega) (fun _ => by omega) tc_len) ?_
  refine zab rfl rfl rfl (zai [] [] [] rfl (ev1 rfl) (ec (ev1 rfl) en) rfl rfl (cloneT_f _ (by rw [List.length_take]; omega)) rfl rfl rfl rfl rfl rfl) ?_
  refine zab rfl rfl rfl (op_fa rfl fo24_2 (ev1 rfl)) ?_
  refine walk_s rfl rfl (op_stm rfl tb22 (ev1 rfl) (ev1 rfl) (fun s v h => by cases h <;> exact ⟨rfl, rfl⟩) rfl (by first | decide | exact Nat.le_of_ble_eq_true rfl | simp)) (by simp only [upd, zaa, za]; exact rfl) ?_
  refine zae ?_
  refine zaf ?_
  refine zad ?_
  refine zab rfl rfl rfl (op_ldmw rfl tb24 (ev1 rfl) rfl rfl) ?_
  refine walk_s rfl rfl (op_stam rfl tb24 (ev1 rfl) (ev1 rfl) rfl rfl rfl rfl) (by simp only [upd, zaa, za]; exact rfl) ?_
  refine zae ?_
  refine dwp_ret ?_
  refine kend0 (rs1 rfl (rv_mw tb24 rfl rfl rfl)) rfl ?_
  rw [tkmin]
end Go.Proofs.YtjgnalfnginjbaaGreatDoor
namespace Go.Proofs.YtjgnalfnginjbaaGreatDoor
set_option maxRecDepth 4000
set_option linter.unusedVariables false
set_option linter.unusedSimpArgs false
open Go.RowKit
set_option maxRecDepth 4000 in
set_option maxHeartbeats 1000000 in
theorem says_e (w h : Int) (ts : List TL) (n : Int) (hn : n ≠ 0) : DFun Tryz.prog 17 [.val (.pointer none), .val (.int .i64 n), shD w h ts, .val (.int .i64 n)] [] (.val (.bool true)) [] := by
  refine zam (N := 30) 0 (by kernel_rfl) Tryz.func17 rfl rfl rfl (by simp only [fr0, Nat.zero_add, Nat.reduceAdd]; exact rfl) rfl fun s0 hs0 => ?_
  refine zaf ?_
  refine zah 1 (by simp only [holes, List.cons_append, List.nil_append]; exact rfl) ?_
  refine zad ?_
  refine zak rfl rfl rfl (op_boxam 0 rfl (ev1 rfl) rfl) (by simp only [upd, zaa, za]; exact rfl) ?_
  refine zab rfl rfl rfl (zac (.inr rfl) (ev1 rfl)) ?_
  refine zae ?_
  refine zaf ?_
  refine zaf ?_
  refine zad ?_
  refine zab rfl rfl rfl (zac (.inl rfl) (ev1 rfl)) ?_
  refine zab rfl rfl rfl (op_neq rfl (ev1 rfl) (ev1 rfl)) ?_
  refine zae ?_
  refine dwp_if_t rfl (by simpa using hn) ?_
  refine zaf ?_
  refine zad ?_
  refine zab rfl rfl rfl (zac (.inl rfl) (ev1 rfl)) ?_
  refine zab rfl rfl rfl (zac (.inl rfl) (ev1 rfl)) ?_
  refine zab rfl rfl rfl ((op_eql rfl (ev1 rfl) (ev1 rfl)).cast (d' := .val (.bool true)) (by simp)) ?_
  refine zab rfl rfl rfl (zac (.inl rfl) (ev1 rfl)) ?_
  refine walk_k (gd_t (b := true) rfl rfl rfl) rfl rfl rfl (zac (.inl rfl) (ev1 rfl)) (by simp only [upd, zaa, za]; exact rfl) ?_
  refine walk_k (gd_t (b := true) rfl rfl rfl) rfl rfl rfl (op_pnil0 rfl pt33 (ev2 rfl)) (by simp only [upd, zaa, za]; exact rfl) ?_
  refine zab rfl rfl rfl ((op_and rfl (ev1 rfl) (ev3 rfl (fun _ => rfl))).cast (d' := .val (.bool true)) (by rfl)) ?_
  refine zab rfl rfl rfl (zac (.inr rfl) (ev1 rfl)) ?_
  refine zae ?_
  refine dwp_ret ?_
  refine kend0 (rs1 rfl (rv_t rfl)) rfl ?_
  rfl
set_option maxRecDepth 4000 in
set_option maxHeartbeats 1000000 in
theorem says_d (w h : Int) (ts : List TL) (hc : CvOk w h ts) : DFun Tryz.prog 17 [cvD w h (dpR ts), .val (.int .i64 0), shD w h ts, .val (.int .i64 0)] [] (.val (.bool true)) [] := by
  have hle := hc.le
  refine zam (N := 30) 0 (by kernel_rfl) Tryz.func17 rfl rfl rfl (by simp only [fr0, Nat.zero_add, Nat.reduceAdd]; exact rfl) rfl fun s0 hs0 => ?_
  refine zaf ?_
  refine zah 1 (by simp only [holes, List.cons_append, List.nil_append]; exact rfl) ?_
  refine zad ?_
  refine zak rfl rfl rfl (op_boxam 0 rfl (ev1 rfl) rfl) (by simp only [upd, zaa, za]; exact rfl) ?_
  refine zab rfl rfl rfl (zac (.inr rfl) (ev1 rfl)) ?_
  refine zae ?_
  refine zaf ?_
  refine zaf ?_
  refine zad ?_
  refine zab rfl rfl rfl (zac (.inl rfl) (ev1 rfl)) ?_
  refine zab rfl rfl rfl ((op_neq rfl (ev1 rfl) (ev1 rfl)).cast (d' := .val (.bool false)) (by kernel_rfl)) ?_
  refine zae ?_
  refine dwp_if_f rfl (rfl) ?_
  refine dwp_skip ?_
  refine zaf ?_
  refine dwp_draw [([], []), ([], []), ([], []), ([], []), ([], []), ([], []), ([], []), ([], []), ([], []), ([0], []), ([], []), ([], []), ([], [])] mixed (by kernel_rfl) ?_
  refine zag rfl rfl (zac (.inl rfl) (ev1 rfl)) ?_
  refine zag rfl rfl ((op_eql rfl (ev1 rfl) (ev1 rfl)).cast (d' := .val (.bool true)) (by kernel_rfl)) ?_
  refine zag rfl rfl (zac (.inl rfl) (ev1 rfl)) ?_
  refine lex_k (gd_t (b := true) rfl rfl rfl) rfl rfl (zac (.inl rfl) (ev1 rfl)) rfl (by simp only [upd, zaa, za]; exact rfl) ?_
  refine lex_k (gd_t (b := true) rfl rfl rfl) rfl rfl (op_pnilmn rfl pt33 (ev2 rfl)) rfl (by simp only [upd, zaa, za]; exact rfl) ?_
  refine zag rfl rfl ((op_and rfl (ev1 rfl) (ev3 rfl (fun _ => rfl))).cast (d' := .val (.bool true)) (by rfl)) ?_
  refine zag rfl rfl (zac (.inl rfl) (ev1 rfl)) ?_
  refine lex_k (gd_t (b := true) rfl rfl rfl) rfl rfl (zac (.inl rfl) (ev1 rfl)) rfl (by simp only [upd, zaa, za]; exact rfl) ?_
  refine lex_k (gd_t (b := true) rfl rfl rfl) rfl rfl (zai [] [] [] rfl (ev1 rfl) (ec (ev2 rfl) en) rfl rfl (show_d w h _ ts (dpR_ok _) hc) rfl rfl rfl rfl rfl rfl) rfl (by simp only [upd, zaa, za]; exact rfl) ?_
  refine lex_k (gd_t (b := true) rfl rfl rfl) rfl rfl (op_ldmw rfl tb24 (ev1 rfl) rfl rfl) rfl (by simp only [upd, zaa, za]; exact rfl) ?_
  refine lex_k (gd_t (b := true) rfl rfl rfl) rfl rfl ((zai [] [] [] rfl (ev1 rfl) (ec (ev2 rfl) (ec (ev2 rfl) en)) rfl rfl (same_d w h w h ts ts (by omega)) rfl rfl rfl rfl rfl rfl).cast (d' := .val (.bool true)) (by simp)) rfl (by simp only [upd, zaa, za]; exact rfl) ?_
  refine zag rfl rfl ((op_and rfl (ev1 rfl) (ev3 rfl (fun _ => rfl))).cast (d' := .val (.bool true)) (by rfl)) ?_
  refine zag rfl rfl (zac (.inr rfl) (ev1 rfl)) ?_
  refine lex_nil ?_
  refine dwp_ret ?_
  refine kend0 (rs1 rfl (rv_t rfl)) rfl ?_
  rfl
end Go.Proofs.YtjgnalfnginjbaaGreatDoor
namespace Go.Proofs.YtjgnalfnginjbaaGreatDoor
set_option maxRecDepth 4000
set_option linter.unusedVariables false
set_option linter.unusedSimpArgs false
open Go.RowKit
set_option maxRecDepth 4000 in
set_option maxHeartbeats 1000000 in
theorem rmay_d (p : P2) : DFun Tryz.prog 25 [.val (.agg #[.int .i64 p.x, .int .i64 p.y])] [] (.val (.bool (drwB p))) [] := by
  refine zam (N := 21) 0 (by kernel_rfl) Tryz.func25 rfl rfl rfl (by simp only [fr0, Nat.zero_add, Nat.reduceAdd]; exact rfl) rfl fun s0 hs0 => ?_
  refine zaf ?_
  refine zah 1 (by simp only [holes, List.cons_append, List.nil_append]; exact rfl) ?_
  refine zad ?_
  refine zak rfl rfl rfl (op_boxa 0 rfl (ev1 rfl) rfl) (by simp only [upd, zaa, za]; exact rfl) ?_
  refine zab rfl rfl rfl (zac (.inr rfl) (ev1 rfl)) ?_
  refine zae ?_
  refine zaf ?_
  refine zad ?_
  refine zab rfl rfl rfl (op_fa rfl fo51_0 (ev1 rfl)) ?_
  refine zab rfl rfl rfl (zal rfl tb3 (ev1 rfl) rfl rfl) ?_
  refine zab rfl rfl rfl (op_geq rfl (ev1 rfl) (ev1 rfl)) ?_
  refine zab rfl rfl rfl (zac (.inl rfl) (ev1 rfl)) ?_
  refine zaj (gd_t rfl rfl rfl) rfl rfl rfl (op_fa rfl fo51_0 (ev1 rfl)) ?_
  refine zaj (gd_t rfl rfl rfl) rfl rfl rfl (zal rfl tb3 (ev2 rfl) rfl rfl) ?_
  refine zaj (gd_t rfl rfl rfl) rfl rfl rfl (op_leq rfl (ev2 rfl) (ev1 rfl)) ?_
  refine zab rfl rfl rfl (op_and rfl (ev1 rfl) (ev3 rfl id)) ?_
  refine zab rfl rfl rfl (zac (.inl rfl) (ev1 rfl)) ?_
  refine zaj (gd_t rfl rfl rfl) rfl rfl rfl (op_fa rfl fo51_1 (ev1 rfl)) ?_
  refine zaj (gd_t rfl rfl rfl) rfl rfl rfl (zal rfl tb3 (ev2 rfl) rfl rfl) ?_
  refine zaj (gd_t rfl rfl rfl) rfl rfl rfl (op_geq rfl (ev2 rfl) (ev1 rfl)) ?_
  refine zab rfl rfl rfl (op_and rfl (ev1 rfl) (ev3 rfl id)) ?_
  refine zab rfl rfl rfl (zac (.inl rfl) (ev1 rfl)) ?_
  refine zaj (gd_t rfl rfl rfl) rfl rfl rfl (op_fa rfl fo51_1 (ev1 rfl)) ?_
  refine zaj (gd_t rfl rfl rfl) rfl rfl rfl (zal rfl tb3 (ev2 rfl) rfl rfl) ?_
  refine zaj (gd_t rfl rfl rfl) rfl rfl rfl (op_leq rfl (ev2 rfl) (ev1 rfl)) ?_
  refine zab rfl rfl rfl (op_and rfl (ev1 rfl) (ev3 rfl id)) ?_
  refine zab rfl rfl rfl (zac (.inr rfl) (ev1 rfl)) ?_
  refine zae ?_
  refine dwp_ret ?_
  refine kend0 (rs1 rfl (rv_t rfl)) rfl ?_
  unfold drwB
  simp [Bool.and_assoc]
end Go.Proofs.YtjgnalfnginjbaaGreatDoor
