/- A region that draws its order, walked once; one operation of the head, which looks at its slots alone, may wait till behind the tail's first ones. -/
import Derived.Test.YtjpgabpicfcapaaDep
namespace Go.Proofs.Ytjpgabpicfcapaa.Late
open Go.RowKit Go.Proofs.Ytjpgabpicfcapaa

/-- Every operation of the head but p leads on to the tail's first one, by others than p. -/
def sinkL (ops : Array Oper) (n p : Nat) : Bool :=
  (List.range n).all fun i => i == p || (List.range (n + 1)).any fun j => decide (i < j) && j != p && Region.waitsFor .any ops j i

theorem tail_waitsL {ops : Array Oper} {p n : Nat} {listed : Array Bool} (hs : sinkL ops n p = true) (hc : Region.chainB .any ops n = true) (hn : n < ops.size) (inv : HeadInv .any ops n listed) :
    ∀ (d i : Nat), n - i = d → i < n → i ≠ p → listed.getD i true = false → ∀ t, n ≤ t → t ∉ Region.ready .any ops listed := by
  intro d
  induction d using Nat.strongRecOn with
  | _ d ih =>
    intro i hd hi hip hun t ht hr
    obtain ⟨_, ot, hot, hall⟩ := mem_ready.1 hr
    have htlt : t < ops.size := (Array.getElem?_eq_some_iff.1 hot).1
    by_cases htn : t = n
    · subst htn
      have h1 := List.all_eq_true.1 hs i (List.mem_range.2 hi)
      simp only [Bool.or_eq_true, beq_iff_eq, hip, false_or] at h1
      obtain ⟨j, hj, hj2⟩ := List.any_eq_true.1 h1
      simp only [Bool.and_eq_true, decide_eq_true_eq, bne_iff_ne, ne_eq] at hj2
      obtain ⟨oj, hoj, e, he, hb, hon⟩ := Region.waitsFor_spec hj2.2
      have hjle : j ≤ t := by have := List.mem_range.1 hj; omega
      by_cases hjt : j = t
      · subst hjt
        have : oj = ot := Option.some.inj (hoj.symm.trans hot)
        subst this
        have h2 := hall e he hb
        rw [hon, getD_both hun] at h2
        cases h2
      · cases hl : listed.getD j false with
        | true =>
          have h2 := inv.closed j oj hoj hl e he hb
          rw [hon, getD_both hun] at h2
          cases h2
        | false =>
          have hjs : j < listed.size := by rw [inv.size]; omega
          exact ih (t - j) (by omega) j rfl (by omega) hj2.1.2 (getD_in hjs hl) t (Nat.le_refl _) hr
    · have h1 := List.all_eq_true.1 hc t (List.mem_range.2 htlt)
      simp only [Bool.or_eq_true, decide_eq_true_eq] at h1
      rcases h1 with h1 | h1
      · omega
      · obtain ⟨o', ho', e, he, hb, hon⟩ := Region.waitsFor_spec h1
        have : o' = ot := Option.some.inj (ho'.symm.trans hot)
        subst this
        have h2 := hall e he hb
        rw [hon, getD_both (inv.tail (t - 1) (by omega) (by omega))] at h2
        cases h2

/-- The kernel's look: n operations of the head, the rest forced; p may be late: no other one's slot hangs on it but behind it. -/
def depB (ops : Array Oper) (n p : Nat) : Bool :=
  Region.noSelect ops && decide (n ≤ ops.size) &&
  ((List.range n).all fun i => match ops[i]? with
    | none => false
    | some o => (o.after.all fun e => !Region.binds .any e || decide (e.on < i)) &&
        (o.looksAt ops).all fun t => (List.range ops.size).all fun j => ((ops[j]?).bind (·.dst)) != some t || (decide (j < i) && o.after.any fun e => Region.binds .any e && e.on == j)) &&
  ((List.range n).all fun i => (List.range i).all fun j => ((ops[i]?).bind (·.dst)).isNone || ((ops[i]?).bind (·.dst)) != ((ops[j]?).bind (·.dst))) &&
  (decide (n < ops.size) && sinkL ops n p && Region.chainB .any ops n) &&
  Region.seqB .any ops (ops.size - n) n (come n ops.size) &&
  (decide (p < n) && match ops[p]? with
    | none => false
    | some o => o.guard.isNone && (List.range ops.size).all fun j => j == p || match ops[j]? with
      | some q => o.after.any (fun e => Region.binds .any e && e.on == j) || (q.after.any (fun e => Region.binds .any e && e.on == p) || o.apart ops q)
      | none => true)

/-- The lexical walk from what each operation looks at serves every order; W: what is asked, step by step. -/
theorem region_core (B n p : Nat) {P : Program} {a : Act} {w : World} {l : List Oper} (W : Nat → Array Bool → Act → World → Prop) (R : Act → World → Prop) (hB : depB l.toArray n p = true)
    (hsz : slotsB l.toArray n a.tmps.size = true) (hBw : B ≤ w.heap.size)
    (hW : ∀ (k : Nat) (listed : Array Bool) (b : Act) (v : World), Region.ready .any l.toArray listed ≠ [] →
      (∀ i ∈ Region.ready .any l.toArray listed, ∃ o, l.toArray[i]? = some o ∧
        ((Region.wanted o (yielded l.toArray b.tmps) = true ∧ ∃ φ : Value → World → Prop, gives P v φ ((execOp b.eval o).run P v) ∧ ∀ u v', Below v.heap.size v v' → φ u v' → W k (listed.setIfInBounds i true) (b.put o.dst u) v') ∨
         (Region.wanted o (yielded l.toArray b.tmps) = false ∧ W k (listed.setIfInBounds i true) (b.put o.dst undef) v))) → W (k + 1) listed b v)
    (hLate : ∀ (k : Nat) (listed : Array Bool) (b : Act) (v : World), p ∈ Region.ready .any l.toArray listed →
      (∃ o, l.toArray[p]? = some o ∧
        ((Region.wanted o (yielded l.toArray b.tmps) = true ∧ ∃ φ : Value → World → Prop, gives P v φ ((execOp b.eval o).run P v) ∧ ∀ u v', Below v.heap.size v v' → φ u v' → W k (listed.setIfInBounds p true) (b.put o.dst u) v') ∨
         (Region.wanted o (yielded l.toArray b.tmps) = false ∧ W k (listed.setIfInBounds p true) (b.put o.dst undef) v))) → W (k + 1) listed b v)
    (hEnd : ∀ (b : Act) (v : World), R b v → W (l.toArray.size - n) (come n l.toArray.size) b v)
    (h : wpDep P l.toArray B w (fun hid aE => ∀ (f : Tmp → Value) (m : Near B w), (∀ h ∈ hid, h.φ (f h.t) m.u) → R (fillV hid f aE) m.u) (l.take n) [] a) :
    W l.toArray.size (Array.replicate l.toArray.size false) a { w with drawn := w.drawn + 1 } := by
  simp only [depB, Bool.and_eq_true, decide_eq_true_eq] at hB
  obtain ⟨⟨⟨⟨⟨⟨hsel, hn⟩, hhead⟩, huniq⟩, hwait⟩, _⟩, hp0, _⟩ := hB
  have hn' : n ≤ l.length := by simpa using hn
  have htk : ∀ k o, (l.take n)[k]? = some o → k < n ∧ l.toArray[k]? = some o := by
    intro k o hk
    have hlt : k < n := by
      have := (List.getElem?_eq_some_iff.1 hk).1
      simp at this; omega
    exact ⟨hlt, by simpa [List.getElem?_take, hlt] using hk⟩
  have hselp := Region.noSelect_spec hsel
  obtain ⟨E, hid, aE, e1, e2, e3, e4⟩ := lex_walk (a0 := a) (ops := l.toArray) (fun o ho cs x => by
      obtain ⟨j, hj, rfl⟩ := Array.mem_iff_getElem.1 ho
      exact hselp j _ cs x (by simp)) (l.take n) [] [] a (Lex.start a) (fun o ho => by simpa using List.mem_of_mem_take ho) (fun k o hk d hd => by
      obtain ⟨hkn, hk'⟩ := htk k o hk
      refine ⟨?_, fun r hr => (by cases hr), fun j p hj hp => ?_⟩
      · have := List.all_eq_true.1 hsz k (List.mem_range.2 hkn)
        simpa [hk', hd] using this
      · obtain ⟨_, hp'⟩ := htk j p hp
        have := List.all_eq_true.1 (List.all_eq_true.1 huniq k (List.mem_range.2 hkn)) j (List.mem_range.2 hj)
        simp [hk', hp', hd] at this
        exact fun e => this e.symm) h
  have elen : E.length = n := by rw [e1]; simp; omega
  simp only [List.nil_append] at e2 e3
  -- operation by operation
  have hop : ∀ i o, i < n → l.toArray[i]? = some o → ∃ r, E[i]? = some r ∧ OpOk P l.toArray B w a (E.take i) o r := by
    intro i o hi ho
    exact e2 i o (by simpa [List.getElem?_take, hi] using ho)
  have main : ∀ (f : Nat) (listed : Array Bool) (b : Act) (v : World), Inv l.toArray n B w a E listed b v → cnt listed n = f → W (f + (l.toArray.size - n)) listed b v := by
    intro f
    induction f with
    | zero =>
      intro listed b v inv hc
      have hall := cnt_none listed n hc
      have hl : listed = come n l.toArray.size := by
        refine Array.ext (by simp [come, inv.head.size]; omega) fun i h1 h2 => ?_
        have hi : i < l.toArray.size := by rw [← inv.head.size]; exact h1
        by_cases hin : i < n
        · have := hall i hin
          simp only [Array.getD_eq_getD_getElem?, Array.getElem?_eq_getElem h1, Option.getD_some] at this
          rw [this]; simp [come, hin]
        · have := inv.head.tail i (by omega) hi
          simp only [Array.getD_eq_getD_getElem?, Array.getElem?_eq_getElem h1, Option.getD_some] at this
          rw [this]; simp [come, List.getElem_append, hin]
      have hfit : ∀ t, Fits E a b v t := fun t => ⟨fun r hr hd => by
          obtain ⟨i, hi, rfl⟩ := List.getElem_of_mem hr
          exact inv.some' i _ (by omega) (List.getElem?_eq_getElem hi) (hall i (by omega)) t hd, fun hnone => inv.none' t fun i r _ hr _ hd => hnone r (List.mem_of_getElem? hr) hd⟩
      have hfill : fillV hid (Act.at' b) aE = b := by
        refine Act.ext_at (by rw [fillV_size, e3.size, inv.size]) (by rw [fillV_def, e3.defs, inv.defs]) fun t => ?_
        by_cases hx : ∃ h ∈ hid, h.t = t
        · by_cases hlt : t < aE.tmps.size
          · exact fillV_in _ _ _ _ hx hlt
          · have h1 : ∀ (c : Act), c.tmps.size = aE.tmps.size → Act.at' c t = undef := fun c hb => by
              unfold Act.at'; rw [Array.getD_eq_getD_getElem?, Array.getElem?_eq_none (Nat.le_of_not_lt (hb ▸ hlt))]; rfl
            rw [h1 _ (fillV_size _ _ _), h1 b (by rw [inv.size, e3.size])]
        · rw [fillV_out _ _ _ (fun h hm e => hx ⟨h, hm, e⟩)]
          exact e3.plain b v t (hfit t) (fun h hm e => hx ⟨h, hm, e⟩)
      have hgo := e4 (Act.at' b) ⟨v, inv.below⟩ (fun h hm => e3.seen b v h.t (hfit _) h hm rfl)
      rw [hfill] at hgo
      rw [Nat.zero_add, hl]
      exact hEnd b v hgo
    | succ f ih =>
      intro listed b v inv hc
      rw [show f + 1 + (l.toArray.size - n) = (f + (l.toArray.size - n)) + 1 by omega]
      have key : ∀ i, i ∈ Region.ready .any l.toArray listed → i < n → ∃ o, l.toArray[i]? = some o ∧
        ((Region.wanted o (yielded l.toArray b.tmps) = true ∧ ∃ φ : Value → World → Prop, gives P v φ ((execOp b.eval o).run P v) ∧ ∀ u v', Below v.heap.size v v' → φ u v' → W (f + (l.toArray.size - n)) (listed.setIfInBounds i true) (b.put o.dst u) v') ∨
         (Region.wanted o (yielded l.toArray b.tmps) = false ∧ W (f + (l.toArray.size - n)) (listed.setIfInBounds i true) (b.put o.dst undef) v)) := by
        intro i hi hin
        obtain ⟨hun, o, ho, hall⟩ := mem_ready.1 hi
        have hlt : i < l.toArray.size := (Array.getElem?_eq_some_iff.1 ho).1
        obtain ⟨r, hr, hrd, hst, hok⟩ := hop i o hin ho
        have hfit : ∀ t ∈ o.looksAt l.toArray, Fits (E.take i) a b v t := by
          intro t ht
          have h4 := List.all_eq_true.1 hhead i (List.mem_range.2 hin)
          simp only [ho, Bool.and_eq_true] at h4
          have h5 := List.all_eq_true.1 h4.2 t ht
          have dep : ∀ j x, j < n → E[j]? = some x → x.dst = some t → j < i ∧ listed.getD j true = true := by
            intro j x hj hx hd
            have hjs : j < l.toArray.size := by omega
            obtain ⟨x', hx', hxd, _⟩ := hop j _ hj (Array.getElem?_eq_getElem hjs)
            have : x' = x := Option.some.inj (hx'.symm.trans hx)
            subst this
            have h6 := List.all_eq_true.1 h5 j (List.mem_range.2 hjs)
            rw [hxd] at hd
            simp only [Array.getElem?_eq_getElem hjs, Option.bind_some, hd, bne_self_eq_false, Bool.false_or, Bool.and_eq_true, decide_eq_true_eq] at h6
            obtain ⟨e, he, hb⟩ := Array.any_eq_true'.1 h6.2
            simp only [Bool.and_eq_true, beq_iff_eq] at hb
            have h7 := hall e he hb.1
            rw [hb.2] at h7
            exact ⟨h6.1, listed_of inv.head.size hjs h7⟩
          refine ⟨fun x hx hd => ?_, fun hnone => inv.none' t fun j x hj hx hl hd => ?_⟩
          · obtain ⟨j, hj, rfl⟩ := List.getElem_of_mem hx
            have hj' : j < E.length := by simp at hj; omega
            have hjn : j < n := by omega
            have hx2 : E[j]? = some (E.take i)[j] := by rw [List.getElem_take]; exact List.getElem?_eq_getElem hj'
            exact inv.some' j _ hjn hx2 (dep j _ hjn hx2 hd).2 t hd
          · have hji := (dep j x hj hx hd).1
            exact hnone x (List.mem_of_getElem? (i := j) (by rw [List.getElem?_take, if_pos hji]; exact hx)) hd
        have step : ∀ u v', Below v.heap.size v v' → r.φ u v' → Inv l.toArray n B w a E (listed.setIfInBounds i true) (b.put o.dst u) v' := by
          intro u v' hb hphi
          have hdd : ∀ j x d, j < n → j ≠ i → E[j]? = some x → x.dst = some d → o.dst ≠ some d := by
            intro j x d hj hji hx hd he
            have hjs : j < l.toArray.size := by omega
            obtain ⟨x', hx', hxd, _⟩ := hop j _ hj (Array.getElem?_eq_getElem hjs)
            have : x' = x := Option.some.inj (hx'.symm.trans hx)
            subst this
            rw [hxd] at hd
            rcases Nat.lt_or_gt_of_ne hji with h | h
            · have := List.all_eq_true.1 (List.all_eq_true.1 huniq i (List.mem_range.2 hin)) j (List.mem_range.2 h)
              simp only [ho, Array.getElem?_eq_getElem hjs, Option.bind_some, hd, he] at this
              simp at this
            · have := List.all_eq_true.1 (List.all_eq_true.1 huniq j (List.mem_range.2 hj)) i (List.mem_range.2 h)
              simp only [ho, Array.getElem?_eq_getElem hjs, Option.bind_some, hd, he] at this
              simp at this
          refine ⟨inv.head.set hi hin, by rw [Act.put_size]; exact inv.size, by rw [Act.put_def]; exact inv.defs, inv.below.trans (hb.mono (Nat.le_trans hBw inv.below.size)), fun j x hj hx hl d hd => ?_, fun t ht => ?_⟩
          · by_cases hji : j = i
            · subst hji
              have : x = r := Option.some.inj (hx.symm.trans hr)
              subst this
              rw [hrd] at hd
              have hd2 : d < b.tmps.size := by
                have := List.all_eq_true.1 hsz j (List.mem_range.2 hj)
                simp only [ho, Option.bind_some, hd, decide_eq_true_eq] at this
                rw [inv.size]; exact this
              rw [hd, Act.put_at, if_pos ⟨rfl, hd2⟩]
              exact hphi
            · rw [getD_set_ne true (Ne.symm hji)] at hl
              have hne := hdd j x d hj hji hx hd
              have hold := inv.some' j x hj hx hl d hd
              have : Act.at' (b.put o.dst u) d = Act.at' b d := by
                cases hod : o.dst with
                | none => rfl
                | some e => rw [Act.put_at, if_neg (fun q => hne (by rw [hod, q.1]))]
              rw [this]
              obtain ⟨x', hx', _, hxs, _⟩ := hop j _ hj (Array.getElem?_eq_getElem (by omega : j < l.toArray.size))
              have : x' = x := Option.some.inj (hx'.symm.trans hx)
              subst this
              exact hxs _ _ _ hb hold
          · have h1 : o.dst ≠ some t := fun e => ht i r hin hr (by
              have hls : i < listed.size := by rw [inv.head.size]; exact hlt
              simp [hls]) (by rw [hrd, e])
            have h2 : Act.at' b t = Act.at' a t := inv.none' t fun j x hj hx hl => ht j x hj hx (by
              by_cases hji : j = i
              · subst hji; rw [hun] at hl; cases hl
              · rw [getD_set_ne true (Ne.symm hji)]; exact hl)
            cases hod : o.dst with
            | none => exact h2
            | some e => rw [Act.put_at, if_neg (fun q => h1 (by rw [hod, q.1]))]; exact h2
        have next : ∀ u v', Below v.heap.size v v' → r.φ u v' → W (f + (l.toArray.size - n)) (listed.setIfInBounds i true) (b.put o.dst u) v' :=
          fun u v' hb hphi => ih _ _ _ (step u v' hb hphi) (by have := cnt_set listed i n hin hun; omega)
        refine ⟨o, ho, ?_⟩
        rcases hok b ⟨v, inv.below⟩ inv.size hfit with ⟨hw, hg⟩ | ⟨hw, hg⟩
        · exact .inl ⟨hw, r.φ, hg, next⟩
        · exact .inr ⟨hw, next undef v (Below.refl _ _) hg⟩
      by_cases hpr : p ∈ Region.ready .any l.toArray listed
      · exact hLate _ _ _ _ hpr (key p hpr hp0)
      refine hW _ _ _ _ (fun hnone => ?_) (fun i hi => ?_)
      · exfalso
        obtain ⟨i, h1, h2, h3⟩ := cnt_some listed n (by omega)
        have h4 := List.all_eq_true.1 hhead i (List.mem_range.2 h1)
        have hlt : i < l.toArray.size := by omega
        simp only [Array.getElem?_eq_getElem hlt, Bool.and_eq_true] at h4
        have : i ∈ Region.ready .any l.toArray listed := mem_ready.2 ⟨h2, _, Array.getElem?_eq_getElem hlt, fun e he hb => by
          have h5 := Array.all_eq_true_iff_forall_mem.1 h4.1 e he
          simp [hb] at h5
          exact listed_to inv.head.size (by omega) (h3 _ h5)⟩
        rw [hnone] at this
        cases this
      · refine key i hi ?_
        rcases Nat.lt_or_ge i n with h | h
        · exact h
        · exfalso
          obtain ⟨k, k1, k2, k3⟩ : ∃ k, k < n ∧ k ≠ p ∧ listed.getD k true = false := by
            obtain ⟨k, k1, k2, k3⟩ := cnt_some listed n (by omega)
            by_cases hkp : k = p
            · exfalso
              subst hkp
              have h4 := List.all_eq_true.1 hhead k (List.mem_range.2 k1)
              have hlt : k < l.toArray.size := by omega
              simp only [Array.getElem?_eq_getElem hlt, Bool.and_eq_true] at h4
              refine hpr (mem_ready.2 ⟨k2, _, Array.getElem?_eq_getElem hlt, fun e he hb => ?_⟩)
              have h5 := Array.all_eq_true_iff_forall_mem.1 h4.1 e he
              simp [hb] at h5
              exact listed_to inv.head.size (by omega) (k3 _ h5)
            · exact ⟨k, k1, hkp, k2⟩
          exact tail_waitsL hwait.1.2 hwait.2 hwait.1.1 inv.head _ k rfl k1 k2 k3 i h hi
  have inv0 : Inv l.toArray n B w a E (Array.replicate l.toArray.size false) a { w with drawn := w.drawn + 1 } :=
    ⟨⟨by simp, fun j oj _ hl => (by rw [getD_replicate_false] at hl; cases hl), fun t _ ht => getD_in (by simpa using ht) (getD_replicate_false _ _)⟩, rfl, rfl, ⟨rfl, rfl, rfl, Nat.le_refl _, fun _ _ => rfl⟩,
      fun i r hi _ hl => (by
        have h0 := getD_in (listed := Array.replicate l.toArray.size false) (i := i) (by simp; omega) (getD_replicate_false _ _)
        rw [h0] at hl; cases hl), fun t _ => rfl⟩
  have := main n _ a _ inv0 (cnt_start _ _ hn)
  rwa [show n + (l.toArray.size - n) = l.toArray.size by omega] at this
theorem depB_seq {ops : Array Oper} {n p : Nat} (h : depB ops n p = true) : Region.seqB .any ops (ops.size - n) n (come n ops.size) = true := by
  simp only [depB, Bool.and_eq_true] at h; exact h.1.2

/-- **A region that draws its order, one of its operations late.** -/
theorem wp_region_dep (B n p : Nat) {P : Program} {id : Nat} {Q : Exit → Act → World → Prop} {a : Act} {w : World} {l : List Oper} (hm : P.follows .mixedOrders = true) (hB : depB l.toArray n p = true)
    (hsz : slotsB l.toArray n a.tmps.size = true) (hBw : B ≤ w.heap.size)
    (hpure : ∀ o, l.toArray[p]? = some o → ∀ ρ w nx w', (execOp ρ o).run P w = .ok nx w' → ∃ u, nx = .value u ∧ ∀ w, (execOp ρ o).run P w = .ok (.value u) w)
    (hQ : ∀ c a d v w, Q (.panic c) (Act.put a d v) w → Q (.panic c) a w)
    (h : wpDep P l.toArray B w (fun hid aE => ∀ (f : Tmp → Value) (m : Near B w), (∀ h ∈ hid, h.φ (f h.t) m.u) → wpList P l.toArray Q (l.drop n) (fillV hid f aE) m.u) (l.take n) [] a) :
    (Code.region id l.toArray true).wp P Q a w := by
  have hdl : (l.drop n).length = l.toArray.size - n := by simp
  refine wp_region_any hm (region_core B n p (wpAny P .any l.toArray Q) (fun b v => wpList P l.toArray Q (l.drop n) b v) hB hsz hBw (fun k listed b v hne hall => ?_) (fun k listed b v hpr hall => ?_) (fun b v hgo => ?_) h)
  · refine ⟨fun e => absurd e hne, fun i hi => ?_⟩
    obtain ⟨o, ho, hcase⟩ := hall i hi
    unfold wpOp
    simp only [ho]
    rcases hcase with ⟨hw, φ, hg, next⟩ | ⟨hw, next⟩
    · rw [if_pos hw]
      left
      unfold Oper.wp
      generalize (execOp b.eval o).run P v = res at hg
      cases res with
      | ok nx v' =>
        cases nx <;> simp only [gives] at hg <;> simp only [Oper.upon]
        case value u => exact next u v' hg.1 hg.2
        case skip => exact next undef v' hg.1 hg.2
        case enter g args =>
          obtain ⟨rfl, hcall⟩ := hg
          exact hcall.mono fun e v'' ⟨u, he, hb, hphi⟩ => by subst he; exact next u v'' hb hphi
      | halt x v' => simp only [gives] at hg
    · rw [hw]
      simp only [Bool.false_eq_true, if_false]
      exact next
  · obtain ⟨o, ho, hcase⟩ := hall
    have hB' := hB
    simp only [depB, Bool.and_eq_true, decide_eq_true_eq] at hB'
    obtain ⟨⟨⟨⟨⟨⟨hsel, _⟩, _⟩, _⟩, _⟩, _⟩, _, hp⟩ := hB'
    simp only [ho, Bool.and_eq_true] at hp
    have hfree : ∀ j oj, l.toArray[j]? = some oj → j ≠ p → listed.getD j true = false → (∀ e ∈ oj.after, Region.binds .any e = true → e.on ≠ p) → o.apart l.toArray oj = true := by
      intro j oj hj hjp hun hno
      have h1 := List.all_eq_true.1 hp.2 j (List.mem_range.2 (Array.getElem?_eq_some_iff.1 hj).1)
      simp only [hj, Bool.or_eq_true, beq_iff_eq, hjp, false_or] at h1
      rcases h1 with h1 | h1 | h1
      · exfalso
        obtain ⟨e, he, hb⟩ := Array.any_eq_true'.1 h1
        simp only [Bool.and_eq_true, beq_iff_eq] at hb
        obtain ⟨_, o', ho', hall⟩ := mem_ready.1 hpr
        have : o' = o := Option.some.inj (ho'.symm.trans ho)
        subst this
        have h2 := hall e he hb.1
        rw [hb.2, getD_both hun] at h2
        cases h2
      · exfalso
        obtain ⟨e, he, hb⟩ := Array.any_eq_true'.1 h1
        simp only [Bool.and_eq_true, beq_iff_eq] at hb
        exact hno e he hb.1 hb.2
      · exact h1
    rcases hcase with ⟨hw, φ, hg, next⟩ | ⟨hw, next⟩
    · generalize hres : (execOp b.eval o).run P v = res at hg
      cases res with
      | ok nx v' =>
        obtain ⟨u, hu, hall⟩ := hpure o ho _ _ _ _ hres
        subst hu
        have : v' = v := by
          have h3 := hall v
          rw [hres] at h3
          cases h3; rfl
        subst this
        simp only [gives] at hg
        exact wpAny_first ho (Region.noSelect_spec hsel) (fun c a w h => hQ c a _ _ w h) k listed b _ hfree hpr (.inl ⟨hw, hall⟩) (next u _ hg.1 hg.2)
      | halt x v' => simp only [gives] at hg
    · exact wpAny_first ho (Region.noSelect_spec hsel) (fun c a w h => hQ c a _ _ w h) k listed b _ hfree hpr (.inr ⟨hw, rfl⟩) next
  · rw [← hdl]
    exact wpAny_of_seq (md := .any) (Q' := Q) (l.drop n) n _ b v (fun j => by simp [List.getElem?_drop]) (by rw [hdl]; exact depB_seq hB) hgo
end Go.Proofs.Ytjpgabpicfcapaa.Late
