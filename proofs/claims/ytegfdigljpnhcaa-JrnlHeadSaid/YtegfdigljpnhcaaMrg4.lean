/- Texts joined: Eng27, Eng28. -/
import Derived.Test.YtegfdigljpnhcaaMrg3
section
/- The engine: calls of functions that turn what their first argument points to, and may panic. -/
namespace Go.Proofs.Ytegfdigljpnhcaa.eng
open Go Go.RowKit
variable {W0 : Base}
set_option linter.unusedVariables false
set_option linter.unusedSimpArgs false

/-- The state behind such a call: what is answered, the cells put anew. -/
def turnA (st : St) (E : PtrE) (g : Nat → SX) (outs : Sh) (kinds : List CK) (r v idx sz sub : Nat) (o : ARoot) (ok : Bool) : Option (List AV × St × Nat × List Fact) := match o.vers with
  | (v', n) :: _ => (outD g kinds 0 st.next (st.next + (rowsAt kinds 0).length) st.path).bind fun (cs, fs, p', os) =>
    cond (Nat.beq v v' && Nat.beq (idx * sz + sub) 0 && ok && !o.ro && !o.opn && Nat.beq n o.cells.length && Nat.beq n E.cells && Nat.beq o.elem E.elem && Nat.blt (st.next + (rowsAt kinds 0).length + os.length) 16777215 && Nat.beq kinds.length (shLen outs + E.cells) && (cs.drop (shLen outs)).all AV.one)
      ((St.put (resSt st g kinds p' os) r { o with cells := cs.drop (shLen outs), vers := [(v, n)], dat := none, sym := none }).map fun st' => (cs.take (shLen outs), st', (1 <<< r) ||| resMask st kinds os, fs)) none
  | [] => none
def callQ (f : FuncId) (E : PtrE) (pans : List Value) (args : List AV) (st : St) : Option (ARet × St × Log) := match args, st.path with
  | .ptr r v idx sz sub :: rest, c :: p => (getC st r).bind fun o => (leavesA E.ins rest).bind fun ls => (cellsSX st (ls ++ o.cells)).bind fun (es, ok, lA) => match c with
    | 0 => (turnA { st with path := p } E (fun j => .fn E.k es (j + 1)) E.outs E.kinds r v idx sz sub o ok).map fun (cs, st', mk, fs) =>
      (.ret (answerA E.outs cs), st', ⟨(1 <<< r) ||| (lA.A ||| mk), mk, .fq f E pans es :: .is (.fn E.k es 0) (.int .i64 0) :: (lA.V ++ fs)⟩)
    | j + 1 => (pans[j]?).bind fun x => (turnA { st with path := p } E (fun j => .fn E.k es (j + 1)) [] (E.kinds.drop (shLen E.outs)) r v idx sz sub o ok).map fun (_, st', mk, fs) =>
      (.pan x, st', ⟨(1 <<< r) ||| (lA.A ||| mk), mk, .fq f E pans es :: .is (.fn E.k es 0) (.int .i64 ((j + 1 : Nat) : Int)) :: (lA.V ++ fs)⟩)
  | _, _ => none
def orcQ (tab : FuncId → Option (PtrE × List Value)) : Orc := fun f args st => (tab f).bind fun E => callQ f E.1 E.2 args st
theorem turn_ok {st s1 : St} {E : PtrE} {g : Nat → SX} {outs : Sh} {kinds : List CK} {r0 v idx sz sub : Nat} {o : ARoot} {ok : Bool} {cs : List AV} {mk : Nat} {fs : List Fact} (ht : turnA st E g outs kinds r0 v idx sz sub o ok = some (cs, s1, mk, fs))
    {A : Nat → Prop} {m : Map} {w : World} (hR : Rel W0 A m st.heap.get w) (hF : Fresh A m st.next) (har : A r0) (ho : st.heap.get r0 = some o) (hmp : o.mp = false) (hmk : ∀ r, bit mk r → A r) (hfs : ∀ f ∈ fs, f.holds W0)
    {b : Nat × Nat} (hb : m r0 v = some b) {qs : List PV} (hev : ∀ i q, qs[i]? = some q → W0.ev (g i) = some q) {en : List Value → Ending} {e : Ending} {w' : World} (hT : TurnP E outs kinds en (May W0 A m st w) b.1 w qs e w') :
    ∃ m' us', Step W0 A (bit mk) m st.heap.get w m' s1.heap.get w' ∧ Fresh A m' s1.next ∧ denL m' cs = some us' ∧ us'.length = shLen outs ∧ e = en us' := by
  unfold turnA at ht
  split at ht
  rotate_left
  · cases ht
  rename_i v' n rest' hvers
  simp only [Option.bind_eq_some_iff] at ht
  obtain ⟨⟨cs0, fs0, p', os⟩, hout, ht⟩ := ht
  cases hc : (Nat.beq v v' && Nat.beq (idx * sz + sub) 0 && ok && !o.ro && !o.opn && Nat.beq n o.cells.length && Nat.beq n E.cells && Nat.beq o.elem E.elem && Nat.blt (st.next + (rowsAt kinds 0).length + os.length) 16777215 && Nat.beq kinds.length (shLen outs + E.cells) && (cs0.drop (shLen outs)).all AV.one) with
  | false => simp [hc] at ht
  | true =>
    simp only [hc, cond_true, Option.map_eq_some_iff, Prod.mk.injEq] at ht
    obtain ⟨s2, hput, rfl, rfl, rfl, rfl⟩ := ht
    simp only [Bool.and_eq_true, Nat.blt_eq, Nat.beq_eq, Bool.not_eq_true', List.all_eq_true] at hc
    obtain ⟨⟨⟨⟨⟨⟨⟨⟨⟨⟨rfl, hz⟩, rfl⟩, hro⟩, hop⟩, hnl⟩, hnE⟩, hel⟩, hsm⟩, hkl⟩, hone⟩ := hc
    obtain ⟨b', hb', hB⟩ := hR.blkC r0 o har ho hmp v n (by rw [hvers]; simp)
    rw [hb] at hb'; cases hb'
    obtain ⟨c, fz, hcc, hfz, hn1, hn2, hcell, hsize⟩ := hB
    simp only [hop, cond_false] at hsize
    have hbm : ∀ k, May W0 A m st w k → k < w.heap.size ∧ k ≠ b.1 := fun k hk => ⟨hk.1, fun he => by
      obtain ⟨r3, o3, e3, v3, fp3, a3, h3, d3, m3, k3⟩ := hk.2.2
      exact hR.disj r3 o3 e3 v3 fp3 r0 o v n b a3 har h3 d3 m3 ho (by rw [hvers]; simp) hb (he ▸ k3)⟩
    obtain ⟨us', c', fz', ow, h1, h2, h3, h4, hfz', how, h5, rfl, hos, htape, hout2, hsz, hkeep⟩ := hT
    rw [← hel] at h4
    have hlt0 : r0 < st.next := by
      rcases Nat.lt_or_ge r0 st.next with h | h
      · exact h
      · rw [(hF r0 har h).1 v] at hb; cases hb
    have hblt : b.1 < w.heap.size := hR.lt har ho (show (v, n) ∈ o.vers by rw [hvers]; simp) hb
    -- the world with the cells as they were
    let w1 : World := { w' with heap := w'.heap.setIfInBounds b.1 (.cells c o.elem fz) }
    have hw1 : ∀ k, k ≠ b.1 → w1.heap[k]? = w'.heap[k]? := fun k hk => by
      show (w'.heap.setIfInBounds b.1 _)[k]? = _
      rw [Array.getElem?_setIfInBounds_ne (Ne.symm hk)]
    have hw1s : w1.heap.size = w'.heap.size := by show (w'.heap.setIfInBounds b.1 _).size = _; simp
    have hex : Ex w w1 := ⟨hos, htape, hout2, by rw [hw1s]; exact hsz, fun k hk => by
      by_cases hkb : k = b.1
      · subst hkb
        show (w'.heap.setIfInBounds b.1 _)[b.1]? = _
        rw [hcc, Array.getElem?_setIfInBounds_self_of_lt (by omega)]
      · rw [hw1 k hkb]; exact hkeep k hk hkb⟩
    have hrb : ∀ k, (May W0 A m st w k ∨ (w.heap.size ≤ k ∧ k < w'.heap.size)) → k ≠ b.1 := fun k hk => by
      rcases hk with hk | hk
      · exact (hbm k hk).2
      · omega
    have hall : (us' ++ c'.toList).length = kinds.length := by simp [h1, h2]; omega
    have how1 : Owns w w1 kinds qs (us' ++ c'.toList) ow := ⟨fun i bb hi => by
      obtain ⟨el, sz, may, q, u, g1, g2, g3, ⟨g4, g5, n2, cap, cs2, c2, fz2, g6, g7, g8, g9⟩, g10⟩ := how.at' i bb hi
      exact ⟨el, sz, may, q, u, g1, g2, g3, ⟨g4, by rw [hw1s]; exact g5, n2, cap, cs2, c2, fz2, g6, g7, (hw1 bb (by omega)).trans g8, g9⟩, g10⟩, how.no, how.inj⟩
    obtain ⟨m', S, F', hden⟩ := results hR hF hex (g := g) (us := us' ++ c'.toList) hall (by omega) hev how1
      (fun i q u hq hu w2 hw2 => h5 i q u hq hu w2 (fun k hk hj => (hw2 k (by rw [hw1s]; exact hk) hj).trans (hw1 k (hrb k hk)))) hout hfs hsm (fun r hr => hmk r (bit_or_r hr))
    have t1 := denL_take (shLen outs) hden
    have t2 := denL_drop (shLen outs) hden
    rw [← h1, List.take_left' rfl, h1] at t1
    rw [← h1, List.drop_left' rfl, h1] at t2
    -- the cells are put
    obtain ⟨hpt, hnext⟩ := put_ok hput
    have hg1 : (resSt st g kinds p' os).heap.get r0 = some o := by
      rw [resSt_gk (lg := ⟨0, resMask st kinds os, []⟩) hsm (fun _ h => h) r0 (fun h => by have := (maskFrom_bit _ _ _).1 h; omega)]
      exact ho
    have hb1 : m' r0 v = some b := S.ext.1 _ _ _ hb
    have hcsl : (cs0.drop (shLen outs)).length = n := by
      have := denL_length t2
      rw [← this, Array.length_toList, h2]
      omega
    have hrel1 := S.rel
    have hstep2 : Step W0 A (fun k => k = r0) m' (resSt st g kinds p' os).heap.get w1 m' s2.heap.get w' := by
      rw [hpt]
      refine Step.put hrel1 har (Map.Le.refl m') (fun _ _ _ => rfl) rfl rfl (fun o2 _ _ _ ho2 _ _ => by rw [hg1] at ho2; cases ho2; exact hro) rfl (fun _ _ _ _ he _ _ => by simp at he) (fun o2 _ _ _ ho2 _ _ => by rw [hg1] at ho2; cases ho2; rfl) (fun _ v1 n1 b1 hv1 hb1' => by
        simp only [List.mem_singleton, Prod.mk.injEq] at hv1
        obtain ⟨rfl, rfl⟩ := hv1
        rw [hb1] at hb1'
        cases hb1'
        exact Nat.lt_of_lt_of_le hblt hex.size) rfl rfl rfl (by rw [hw1s]; exact Nat.le_refl _) ?_ ?_ ?_ ?_
      · intro k hk hno
        exact (hw1 k (fun e => hno o v n b hg1 (by rw [hvers]; simp) hb1 e.symm)).symm
      · intro v1 n1 hv1
        simp only [List.mem_singleton, Prod.mk.injEq] at hv1
        obtain ⟨rfl, rfl⟩ := hv1
        refine ⟨b, hb1, BlkC.b ⟨c', fz', h4, hfz', by simp only; omega, by omega, fun i x hi hx => ?_, by simp only [hop, cond_false]; omega⟩ hmp⟩
        obtain ⟨u, hu1, hu2⟩ := denL_get t2 hx
        exact ⟨u, hu1, by simpa using hu2⟩
      · intro v1 n1 rest1 he v2 hlt
        simp only [List.cons.injEq, Prod.mk.injEq] at he
        obtain ⟨⟨rfl, rfl⟩, _⟩ := he
        exact hrel1.top r0 o v n rest' har hg1 hvers v2 hlt
      · intro v1 n1 b1 hv1 hb1' _
        simp only [List.mem_singleton, Prod.mk.injEq] at hv1
        obtain ⟨rfl, rfl⟩ := hv1
        exact ⟨o, v1, n1, b1, hg1, by rw [hvers]; simp, hb1', rfl⟩
    refine ⟨m', us', (S.trans hstep2).more (fun k hk => ?_), by rw [hnext]; exact F', t1, h1, rfl⟩
    rcases hk with hk | hk
    · exact bit_or_r hk
    · exact bit_or_l ((bit_one _ _).2 hk)
/-- What is given, as the contract wants it. -/
theorem given {st : St} {E : PtrE} {r0 v idx sz sub n : Nat} {rest' : List (Nat × Nat)} {o : ARoot} {rest ls : List AV} {es : List SX} {lA : Log} {A : Nat → Prop} {m : Map} {w : World} {vs : List Value} (hR : Rel W0 A m st.heap.get w) (har : A r0) (ho : st.heap.get r0 = some o) (hvers : o.vers = (v, n) :: rest')
    (hz : idx * sz + sub = 0) (hmp : o.mp = false) (hop : o.opn = false) (hnl : n = o.cells.length) (hnE : n = E.cells) (hel : o.elem = E.elem) (hls : leavesA E.ins rest = some ls) (hes : cellsSX st (ls ++ o.cells) = some (es, true, lA)) (hlA : lA.Fits W0 A) (hvs : denL m (.ptr r0 v idx sz sub :: rest) = some vs) :
    ∃ (b : Nat × Nat) (c : Array Value) (fz : Nat × Nat) (us : List Value) (ps : List PV), m r0 v = some b ∧ vs = .pointer (some ⟨b.1, 0, none⟩) :: assemble E.ins us ∧ us.length = shLen E.ins ∧ ps.length = shLen E.ins + E.cells ∧ c.size = E.cells ∧ w.heap[b.1]? = some (.cells c E.elem fz) ∧ (∀ i, i < c.size → ¬ (fz.1 ≤ i ∧ i < fz.2)) ∧
      (∀ k, May W0 A m st w k → k < w.heap.size ∧ k ≠ b.1) ∧ evs W0.s W0.F es = some ps ∧ (∀ (i : Nat) (p : PV) (u : Value), ps[i]? = some p → (us ++ c.toList)[i]? = some u → ∀ w2 : World, (∀ k, May W0 A m st w k → w2.heap[k]? = w.heap[k]?) → Reads w2 p u) := by
  simp only [denL, Option.bind_eq_some_iff, Option.map_eq_some_iff] at hvs
  obtain ⟨pv, hpv, rv, hrv, rfl⟩ := hvs
  simp only [AV.den, Option.map_eq_some_iff] at hpv
  obtain ⟨b, hb, rfl⟩ := hpv
  rw [hz]
  obtain ⟨b', hb', hB⟩ := hR.blkC r0 o har ho hmp v n (by rw [hvers]; simp)
  rw [hb] at hb'; cases hb'
  have hB' := hB
  obtain ⟨c, fz, hcc, hfz, hn1, hn2, hcell, hsize⟩ := hB'
  simp only [hop, cond_false] at hsize
  obtain ⟨l, hd, hll, _, hlc⟩ := hB.cells (P := (default : Program)) (off := 0) (k := n) (by omega)
  have hcl : cellsAt o 0 n = o.cells := by simp [cellsAt, hnl]
  rw [hcl] at hd
  have hl : l = c.toList := by
    apply List.ext_getElem?
    intro i
    by_cases hi : i < l.length
    · have := hlc i l[i] (List.getElem?_eq_getElem hi)
      simp only [World.cell?, hcc, Nat.zero_add] at this
      rw [List.getElem?_eq_getElem hi]
      simpa using this.symm
    · rw [List.getElem?_eq_none (by omega), List.getElem?_eq_none (by simp; omega)]
  subst hl
  obtain ⟨us, hus, hul, rfl⟩ := leavesA_ok E.ins rest hls hrv
  obtain ⟨ps, hps, hpl, hrd⟩ := cellsSX_ok hR hes hlA (denL_append hus hd)
  have hcl2 : c.toList.length = n := hll
  refine ⟨b, c, fz, us, ps, hb, rfl, hul, by rw [hpl, List.length_append]; omega, by omega, by rw [← hel]; exact hcc, hfz, fun k hk => ⟨hk.1, fun he => ?_⟩, hps, fun i p u hp hu w2 hw2 => (hrd i p u hp hu).2 rfl w2 hw2⟩
  obtain ⟨r3, o3, e3, v3, fp3, a3, h3, d3, m3, k3⟩ := hk.2.2
  exact hR.disj r3 o3 e3 v3 fp3 r0 o v n b a3 har h3 d3 m3 ho (by rw [hvers]; simp) hb (he ▸ k3)
theorem turn_hyp {st s1 : St} {E : PtrE} {g : Nat → SX} {outs : Sh} {kinds : List CK} {r0 v idx sz sub : Nat} {o : ARoot} {ok : Bool} {cs : List AV} {mk : Nat} {fs : List Fact} (ht : turnA st E g outs kinds r0 v idx sz sub o ok = some (cs, s1, mk, fs)) :
    ∃ n rest', o.vers = (v, n) :: rest' ∧ idx * sz + sub = 0 ∧ ok = true ∧ o.opn = false ∧ n = o.cells.length ∧ n = E.cells ∧ o.elem = E.elem ∧ Gk st s1 ⟨0, mk, []⟩ ∧ bit mk r0 := by
  unfold turnA at ht
  split at ht
  rotate_left
  · cases ht
  rename_i v' n rest' hvers
  simp only [Option.bind_eq_some_iff] at ht
  obtain ⟨⟨cs0, fs0, p', os⟩, hout, ht⟩ := ht
  cases hc : (Nat.beq v v' && Nat.beq (idx * sz + sub) 0 && ok && !o.ro && !o.opn && Nat.beq n o.cells.length && Nat.beq n E.cells && Nat.beq o.elem E.elem && Nat.blt (st.next + (rowsAt kinds 0).length + os.length) 16777215 && Nat.beq kinds.length (shLen outs + E.cells) && (cs0.drop (shLen outs)).all AV.one) with
  | false => simp [hc] at ht
  | true =>
    simp only [hc, cond_true, Option.map_eq_some_iff, Prod.mk.injEq] at ht
    obtain ⟨s2, hput, rfl, rfl, rfl, rfl⟩ := ht
    simp only [Bool.and_eq_true, Nat.blt_eq, Nat.beq_eq, Bool.not_eq_true', List.all_eq_true] at hc
    obtain ⟨⟨⟨⟨⟨⟨⟨⟨⟨⟨rfl, hz⟩, hok⟩, hro⟩, hop⟩, hnl⟩, hnE⟩, hel⟩, hsm⟩, hkl⟩, hone⟩ := hc
    refine ⟨n, rest', hvers, hz, hok, hop, hnl, hnE, hel, fun r hr => ?_, bit_or_l ((bit_one _ _).2 rfl)⟩
    have g1 : Gk st (resSt st g kinds p' os) ⟨0, resMask st kinds os, []⟩ := resSt_gk hsm (fun _ h => h)
    have g2 := put_gk hput
    rw [g2 r (fun h => hr (bit_or_l h)), g1 r (fun h => hr (bit_or_r h))]
theorem callQ_ok {f : FuncId} {E : PtrE} {pans : List Value} {args : List AV} {st st' : St} {r : ARet} {lg : Log} (hr : callQ f E pans args st = some (r, st', lg)) (W0 : Base) (A : Nat → Prop) (m : Map) (w : World) (vs : List Value) (hA : lg.Fits W0 A) (hR : Rel W0 A m st.heap.get w) (hF : Fresh A m st.next) (hvs : denL m args = some vs) :
    Calls Try.prog f vs.toArray w (CPost W0 A m st w r st' lg) := by
  unfold callQ at hr
  split at hr
  rotate_left
  · cases hr
  rename_i r0 v idx sz sub rest c p hpath
  simp only [Option.bind_eq_some_iff] at hr
  obtain ⟨o, ho, ls, hls, ⟨es, ok, lA⟩, hes, hr⟩ := hr
  obtain ⟨ho, hmp⟩ := getC_ok ho
  split at hr
  · simp only [Option.map_eq_some_iff, Prod.mk.injEq] at hr
    obtain ⟨⟨cs, s1, mk, fs⟩, ht, rfl, rfl, rfl⟩ := hr
    obtain ⟨n, rest', hvers, hz, rfl, hop, hnl, hnE, hel, _, hbit⟩ := turn_hyp ht
    have har : A r0 := hA.1 r0 (bit_or_l ((bit_one _ _).2 rfl))
    have hlA : lA.Fits W0 A := ⟨fun r hr => hA.1 r (bit_or_r (bit_or_l hr)), fun f hf => hA.2 f (by simp [hf])⟩
    obtain ⟨b, cc, fz, us, ps, hb, rfl, g1, g2, g3, g4, g5, g6, hps, g8⟩ := given hR har ho hvers hz hmp hop hnl hnE hel hls hes hlA hvs
    obtain ⟨htold, ps', qs, hps', hqs⟩ := hA.2 (.fq f E pans es) (by simp)
    rw [hps] at hps'
    cases hps'
    have h0 : W0.ev (.fn E.k es 0) = some (.v (.int .i64 0)) := hA.2 (.is (.fn E.k es 0) (.int .i64 0)) (by simp)
    have hev : ∀ i q, qs[i]? = some q → W0.ev (.fn E.k es i) = some q := fun i q hq => by simp [Base.ev, SX.ev, hps, hqs, hq]
    refine (htold w (May W0 A m st w) b.1 cc fz us ps qs hqs g1 g2 g3 g4 g5 g6 g8).mono ?_
    rintro e w' (⟨qs', rfl, hT⟩ | ⟨j, x, qs', rfl, _⟩)
    · obtain ⟨m', us', S, F', d1, d2, rfl⟩ := turn_ok (st := { st with path := p }) ht hR hF har ho hmp (fun r hr => hA.1 r (bit_or_r (bit_or_r hr))) (fun f hf => hA.2 f (by simp [hf])) hb (fun i q hq => hev (i + 1) q (by simpa using hq)) hT
      exact ⟨m', ⟨S, F'⟩, _, answerA_ok d1 d2, rfl⟩
    · exfalso
      rw [hev 0 _ rfl] at h0
      simp only [Option.some.injEq, PV.v.injEq, Value.int.injEq, true_and] at h0
      omega
  · rename_i j
    simp only [Option.bind_eq_some_iff, Option.map_eq_some_iff, Prod.mk.injEq] at hr
    obtain ⟨x, hx, ⟨cs, s1, mk, fs⟩, ht, rfl, rfl, rfl⟩ := hr
    obtain ⟨n, rest', hvers, hz, rfl, hop, hnl, hnE, hel, _, hbit⟩ := turn_hyp ht
    have har : A r0 := hA.1 r0 (bit_or_l ((bit_one _ _).2 rfl))
    have hlA : lA.Fits W0 A := ⟨fun r hr => hA.1 r (bit_or_r (bit_or_l hr)), fun f hf => hA.2 f (by simp [hf])⟩
    obtain ⟨b, cc, fz, us, ps, hb, rfl, g1, g2, g3, g4, g5, g6, hps, g8⟩ := given hR har ho hvers hz hmp hop hnl hnE hel hls hes hlA hvs
    obtain ⟨htold, ps', qs, hps', hqs⟩ := hA.2 (.fq f E pans es) (by simp)
    rw [hps] at hps'
    cases hps'
    have h0 : W0.ev (.fn E.k es 0) = some (.v (.int .i64 ((j + 1 : Nat) : Int))) := hA.2 (.is (.fn E.k es 0) (.int .i64 ((j + 1 : Nat) : Int))) (by simp)
    have hev : ∀ i q, qs[i]? = some q → W0.ev (.fn E.k es i) = some q := fun i q hq => by simp [Base.ev, SX.ev, hps, hqs, hq]
    refine (htold w (May W0 A m st w) b.1 cc fz us ps qs hqs g1 g2 g3 g4 g5 g6 g8).mono ?_
    rintro e w' (⟨qs', rfl, _⟩ | ⟨j', x', qs', rfl, hx', hT⟩)
    · exfalso
      rw [hev 0 _ rfl] at h0
      simp only [Option.some.injEq, PV.v.injEq, Value.int.injEq, true_and] at h0
      omega
    · rw [hev 0 _ rfl] at h0
      simp only [Option.some.injEq, PV.v.injEq, Value.int.injEq, true_and] at h0
      obtain rfl : j' = j := by omega
      rw [hx] at hx'
      cases hx'
      obtain ⟨m', us', S, F', d1, d2, rfl⟩ := turn_ok (st := { st with path := p }) ht hR hF har ho hmp (fun r hr => hA.1 r (bit_or_r (bit_or_r hr))) (fun f hf => hA.2 f (by simp [hf])) hb (fun i q hq => hev (i + 1) q (by simpa using hq)) hT
      exact ⟨m', ⟨S, F'⟩, _, by rw [pick_self]⟩
theorem callQ_gk {f : FuncId} {E : PtrE} {pans : List Value} {args : List AV} {st st' : St} {r : ARet} {lg : Log} (hr : callQ f E pans args st = some (r, st', lg)) : Gk st st' lg := by
  unfold callQ at hr
  split at hr
  rotate_left
  · cases hr
  rename_i r0 v idx sz sub rest c p hpath
  simp only [Option.bind_eq_some_iff] at hr
  obtain ⟨o, ho, ls, hls, ⟨es, ok, lA⟩, hes, hr⟩ := hr
  obtain ⟨ho, hmp⟩ := getC_ok ho
  split at hr
  · simp only [Option.map_eq_some_iff, Prod.mk.injEq] at hr
    obtain ⟨⟨cs, s1, mk, fs⟩, ht, rfl, rfl, rfl⟩ := hr
    obtain ⟨n, rest', _, _, _, _, _, _, _, hg, _⟩ := turn_hyp ht
    exact fun r hr => hg r hr
  · simp only [Option.bind_eq_some_iff, Option.map_eq_some_iff, Prod.mk.injEq] at hr
    obtain ⟨x, hx, ⟨cs, s1, mk, fs⟩, ht, rfl, rfl, rfl⟩ := hr
    obtain ⟨n, rest', _, _, _, _, _, _, _, hg, _⟩ := turn_hyp ht
    exact fun r hr => hg r hr
theorem orcQ_ok (tab : FuncId → Option (PtrE × List Value)) : OrcOk Try.prog (orcQ tab) := by
  refine ⟨?_, ?_⟩
  · intro f args st r st' lg hr W0 A m w vs hA hR hF hvs
    simp only [orcQ, Option.bind_eq_some_iff] at hr
    obtain ⟨E, hE, hr⟩ := hr
    exact callQ_ok hr W0 A m w vs hA hR hF hvs
  · intro f args st r st' lg hr
    simp only [orcQ, Option.bind_eq_some_iff] at hr
    obtain ⟨E, hE, hr⟩ := hr
    exact callQ_gk hr
end Go.Proofs.Ytegfdigljpnhcaa.eng
end

section
/- The engine: a contract out of pieces, of a function that turns what its first argument points to and may panic. -/
namespace Go.Proofs.Ytegfdigljpnhcaa.eng
open Go Go.RowKit
variable {W0 : Base}
set_option linter.unusedVariables false
set_option linter.unusedSimpArgs false

/-- What lies in the cells of a state. -/
def cellsTo (sh : Shape) (E : PtrE) : Option (List SX) := (canon sh []).bind fun (x, st) => (getC st 0).bind fun o => match o.vers with
  | (v, n) :: _ => (resAll st o.cells).bind fun (es, l2) => cond (l2.V.isEmpty && o.lent && !o.opn && Nat.beq n o.cells.length && Nat.beq n E.cells && Nat.beq o.elem E.elem) (some es) none
  | [] => none
theorem turned {E : PtrE} {outs : Sh} {kinds : List CK} {en : List Value → Ending} {FP : Nat → Prop} {b : Nat} {w w' : World} {B : Base} (hBh : B.w = w) (hBf : B.fp = FP) (hBm : B.mine = fun k => k = b) {m1 : Map} {st2 : St} (hR : Rel B (fun _ => True) m1 st2.heap.get w') {o : ARoot} (ho : st2.heap.get 0 = some o) (hmp : o.mp = false) {v n : Nat} {rest : List (Nat × Nat)} (hvers : o.vers = (v, n) :: rest) (hlent : o.lent = true) (hop : o.opn = false) (hnl : n = o.cells.length) (hnE : n = E.cells) (hel2 : o.elem = E.elem)
    {ls : List AV} {es2 : List SX} {l2 : Log} (hes2 : resAll st2 (ls ++ o.cells) = some (es2, l2)) (hv2 : l2.V = []) {us' : List Value} (h1 : denL m1 ls = some us') (h2 : us'.length = shLen outs) {qs : List PV} (hev : evs B.s B.F es2 = some qs) (hpl : kinds.all CK.plain = true) :
    TurnP E outs kinds en FP b w qs (en us') w' := by
  subst hBh hBf
  obtain ⟨b', hb', hB⟩ := hR.blkC 0 o trivial ho hmp v n (by rw [hvers]; simp)
  have hmine : b'.1 = b := by
    have := (hR.abv 0 o v n b' trivial ho (by rw [hvers]; simp) hb').2 hlent
    rw [hBm] at this
    exact this
  obtain ⟨l, hd, hll, _, hlc⟩ := hB.cells (P := (default : Program)) (off := 0) (k := n) (by omega)
  have hca : cellsAt o 0 n = o.cells := by simp [cellsAt, hnl]
  rw [hca] at hd
  obtain ⟨c', fz', hcc', hfz', hn1, hn2, _, hsz'⟩ := hB
  simp only [hop, cond_false] at hsz'
  have hlc' : l = c'.toList := by
    apply List.ext_getElem?
    intro i
    by_cases hi : i < l.length
    · have := hlc i l[i] (List.getElem?_eq_getElem hi)
      simp only [World.cell?, hcc', Nat.zero_add] at this
      rw [List.getElem?_eq_getElem hi]
      simpa using this.symm
    · rw [List.getElem?_eq_none (by omega), List.getElem?_eq_none (by simp; omega)]
  subst hlc'
  obtain ⟨qs2, h3, h4, h5⟩ := resAll_ok hR hes2 ⟨fun _ _ => trivial, fun f hf => by rw [hv2] at hf; cases hf⟩ (denL_append h1 hd)
  rw [hev] at h3
  cases h3
  rw [hmine] at hcc'
  have hll2 := denL_length (denL_append h1 hd)
  refine ⟨us', c', fz', fun _ => none, h2, by omega, by rw [h4, List.length_append, h2]; omega, by rw [← hel2]; exact hcc', hfz', owns_none hpl, fun i q u hq hu w2 hw2 => h5 i q u _ hq hu (List.getElem?_eq_getElem (show i < (ls ++ o.cells).length by have := (List.getElem?_eq_some_iff.1 hu).1; omega)) w2 (fun k hk _ => hw2 k ?_ (fun _ _ h => by cases h)), rfl, hR.same.1, hR.same.2.1, hR.same.2.2, hR.size0, fun k hk hkb => hR.amb k hk (by rw [hBm]; exact hkb)⟩
  rcases hk.2 with h | h
  · exact .inl h
  · exact .inr ⟨h, hk.1⟩
theorem told_ptrQ {f : FuncId} {E : PtrE} {pans : List Value} {spec : List PV → Option (List PV)} (F : Fns) (fn : Func) (c : Code) (hfn : Try.prog.funcs[f]? = some fn) (hc : fn.body = some c) (sh0 : Shape) (hsh : startOkP E fn f sh0 = true)
    (hk : ∀ ps qs, spec ps = some qs → ∀ i : Nat, sh0.rows[i]? = some none → ∃ x, ps[i]? = some (.v x) ∧ x.oneCell' = true)
    (h : ∀ (C : Base) ps qs, C.F = F → spec ps = some qs → ∀ a w, InShape C sh0 ps a w → wpL Try.prog (flat c) (fun e a' w' => (∃ qs', qs = .v (.int .i64 0) :: qs' ∧ (e = .normal ∨ e = .ret) ∧ ∃ sh' ps' es, InShape C sh' ps' a' w' ∧ resToP Try.prog fn sh' E = some es ∧ evs (fun i => ps'[i]?) F es = some qs') ∨ (∃ (j : Nat) (v : Value) (qs' : List PV) (sh' : Shape) (ps' : List PV) (es : List SX), qs = .v (.int .i64 ((j + 1 : Nat) : Int)) :: qs' ∧ pans[j]? = some v ∧ e = .panic [{ v, recovered := false }] ∧ InShape C sh' ps' a' w' ∧ cellsTo sh' E = some es ∧ evs (fun i => ps'[i]?) F es = some qs')) a w) (hpl0 : E.kinds.all CK.plain = true := by rfl) : ToldQ f E pans spec := by
  intro w FP b cc fz us ps qs hsp hul hpl hcs hcc hfz hFP hrd
  unfold startOkP at hsh
  split at hsh
  · rename_i args st fs hst
    simp only [Bool.and_eq_true, Nat.blt_eq, Nat.beq_eq] at hsh
    obtain ⟨⟨⟨⟨hal, hrl⟩, hcan⟩, hvf⟩, hread⟩ := hsh
    split at hread
    · rename_i es fs' hre
      simp only [Bool.and_eq_true, Nat.beq_eq] at hread
      obtain ⟨⟨hiv, hel⟩, hvf'⟩ := hread
      have hk' := hk ps qs hsp
      let B : Base := ⟨w, fun i => ps[i]?, F, FP, fun k => k = b⟩
      simp only [beginP, Option.bind_eq_some_iff] at hst
      obtain ⟨⟨args0, st0, fs0⟩, hst0, hst⟩ := hst
      cases hlen : Nat.beq args0.length (E.ins.length + E.cells) with
      | false => simp [hlen] at hst
      | true =>
        simp only [hlen, cond_true, Option.map_eq_some_iff, Prod.mk.injEq] at hst
        obtain ⟨st1, hput, rfl, rfl, rfl⟩ := hst
        have hlen := Nat.eq_of_beq_eq_true hlen
        have hcl : cc.toList.length = E.cells := by simpa using hcs
        have hall : shLen E.all.ins = shLen E.ins + E.cells := by simp [PtrE.all, shLen_app, shLen_nones]
        obtain ⟨m, hR, hF, hargs, hv0, hfps⟩ := start_rel (F := F) (X := fun k => k = b) (us := us ++ cc.toList) (ps := ps) hst0 (by simp [hul, hpl, hcl]) (by rw [hall]; exact hpl) (fun k hk => (hFP k hk).1)
          (fun i p u hp hu => ⟨hrd i p u hp hu w (fun _ _ => rfl), fun _ w2 hw2 => hrd i p u hp hu w2 hw2⟩) (varFacts_ok (B := B) hk' fs0 hvf)
        have hfp : ∀ r v fp, m.d r = some (v, fp) → ∀ k, fp k → FP k := fun r v fp hm k hk => by
          rcases hfps r v fp hm k hk with h | ⟨x, hx, hl⟩
          · exact h
          · exfalso
            have hx' : x < shLen E.ins + E.cells := by simp [hul, hcl] at hx; omega
            simp [PtrE.all, List.getD, List.getElem?_replicate, hx'] at hl
        have hasm : assemble E.all.ins (us ++ cc.toList) = assemble E.ins us ++ cc.toList := by
          simp only [PtrE.all]
          rw [assemble_app _ _ _ _ hul, ← hcl, assemble_nones]
        rw [hasm] at hargs
        have hail := assemble_len E.ins us hul
        have t1 := denL_take E.ins.length hargs
        have t2 := denL_drop E.ins.length hargs
        rw [← hail, List.take_left' rfl, hail] at t1
        rw [← hail, List.drop_left' rfl, hail] at t2
        obtain ⟨hpt, hnext⟩ := put_ok hput
        -- the state in which the call begins
        have hblt : b < w.heap.size := by
          rcases Nat.lt_or_ge b w.heap.size with h | h
          · exact h
          · rw [Array.getElem?_eq_none h] at hcc; cases hcc
        have hcells : (args0.drop E.ins.length).length = E.cells := by simp; omega
        have hle : m.Le (m.new st0.next (b, 0)) := ⟨fun r v x hx => by
          show (if r = st0.next ∧ v = 0 then some (b, 0) else m r v) = some x
          split
          · rename_i e
            rw [e.1, (hF st0.next trivial (Nat.le_refl _)).1 v] at hx
            cases hx
          · exact hx, fun _ _ h => h, fun _ _ h => h⟩
        have hup : ∀ r o, st1.heap.get r = some o → (r = st0.next ∧ o = lentRoot E (args0.drop E.ins.length)) ∨ (r ≠ st0.next ∧ st0.heap.get r = some o) := fun r o ho => by
          rw [hpt] at ho
          by_cases hr : r = st0.next
          · simp [Heap.upd, hr] at ho; exact .inl ⟨hr, ho.symm⟩
          · simp [Heap.upd, hr] at ho; exact .inr ⟨hr, ho⟩
        have hvr : ∀ r o v n, st1.heap.get r = some o → (v, n) ∈ o.vers → r = st0.next ∧ o = lentRoot E (args0.drop E.ins.length) ∧ v = 0 ∧ n = E.cells := fun r o v n ho hv => by
          rcases hup r o ho with ⟨h1, h2⟩ | ⟨h1, h2⟩
          · subst h2
            simp only [lentRoot, List.mem_singleton, Prod.mk.injEq] at hv
            exact ⟨h1, rfl, hv.1, hv.2⟩
          · rw [hv0 r o h2] at hv; cases hv
        have hmb : (m.new st0.next (b, 0)) st0.next 0 = some (b, 0) := by simp [Map.new]
        have hR1 : Rel B (fun _ => True) (m.new st0.next (b, 0)) st1.heap.get w := by
          refine ⟨?_, ?_, ?_, Nat.le_refl _, fun _ _ _ => rfl, ?_, ?_, ?_, hR.sv, ⟨rfl, rfl, rfl⟩, ?_, ?_⟩
          · intro r o _ ho v n hv
            obtain ⟨rfl, rfl, rfl, rfl⟩ := hvr r o v n ho hv
            refine ⟨(b, 0), hmb, cc, fz, hcc, hfz, by simp only [lentRoot]; omega, by omega, fun i x hi hx => ?_, by simp only [lentRoot, cond_false]; exact hcs⟩
            obtain ⟨u, hu1, hu2⟩ := denL_get t2 hx
            exact ⟨u, AV.den_mono hle x hu1, by simpa using hu2⟩
          · intro r r' o o' v n v' n' b1 b1' _ _ ho ho' hv hv' _ _ _
            obtain ⟨rfl, _⟩ := hvr r o v n ho hv
            obtain ⟨rfl, _⟩ := hvr r' o' v' n' ho' hv'
            rfl
          · intro r o v n rest _ ho hv v' hlt
            obtain ⟨rfl, rfl, rfl, rfl⟩ := hvr r o v n ho (by rw [hv]; simp)
            have : ¬ v' = 0 := by omega
            simp [Map.new, this, (hF st0.next trivial (Nat.le_refl _)).1]
          · intro r o v n b1 _ ho hv hb
            obtain ⟨rfl, rfl, rfl, rfl⟩ := hvr r o v n ho hv
            rw [hmb] at hb
            cases hb
            exact ⟨fun hl => (by simp [lentRoot] at hl), fun _ => rfl⟩
          · intro r o e _ ho hd
            rcases hup r o ho with ⟨h1, h2⟩ | ⟨h1, h2⟩
            · subst h2; simp [lentRoot] at hd
            · exact hR.dat r o e trivial h2 hd
          · intro r o e v fp r' o' u n b1 _ _ ho hd hm ho' hu hb hfpb
            obtain ⟨rfl, rfl, rfl, rfl⟩ := hvr r' o' u n ho' hu
            rw [hmb] at hb
            cases hb
            exact (hFP _ (hfp r v fp hm _ hfpb)).2 rfl
          · intro r o e v fp _ ho hd hm hro k hk
            exact .inl (hfp r v fp hm k hk)
          · intro r o e v n b1 _ ho hs hv hb
            obtain ⟨rfl, rfl, rfl, rfl⟩ := hvr r o v n ho hv
            simp [lentRoot] at hs
        have hF1 : Fresh (fun _ => True) (m.new st0.next (b, 0)) st1.next := by
          intro r _ hr
          rw [hnext] at hr
          have hr' : st0.next + 1 ≤ r := hr
          have : ¬ r = st0.next := by omega
          have h := hF r trivial (by omega)
          refine ⟨fun v => ?_, h.2⟩
          simp only [Map.new, this, false_and, if_false]
          exact h.1 v
        have hdenargs : denL (m.new st0.next (b, 0)) (.ptr st0.next 0 0 0 0 :: args0.take E.ins.length) = some (.pointer (some ⟨b, 0, none⟩) :: assemble E.ins us) := by
          simp [denL, AV.den, hmb, denL_mono hle _ t1]
        have hT := start_ok (f := f) (fn := fn) hdenargs hal
        have hnx : st1.next - 1 = st0.next := by rw [hnext]; simp
        obtain ⟨qs', q1, q2⟩ := reabs (B := B) ⟨hR1, hF1, hT⟩ hre (varFacts_ok (B := B) hk' fs' hvf') hcan
        have := isVars_ok (s := fun i => ps[i]?) (F := F) (ps := ps) es 0 hiv (by omega) (fun j p hp => hp)
        rw [List.drop_zero] at this
        simp only [B] at q1
        rw [this] at q1
        cases q1
        refine calls_of_wp_defers hfn hc (wp_mono (wp_of_flat (h B ps qs rfl hsp _ w q2)) ?_)
        rintro e a' w' hcase
        have nodef : ∀ {sh' : Shape} {x : AAct} {st1 : St} {m1 : Map} {ps' : List PV}, canon sh' [] = some (x, st1) → At (B.with ps') m1 x st1 a' w' → a'.defers = [] := fun hc1 hat => by
          have := hat.tm.defers
          have hx := canon_defers hc1
          rw [hx] at this
          simpa [denD] using this.symm
        rcases hcase with ⟨qs', rfl, he, sh', ps', es', ⟨x, st2, m1, hc1, hl1, hat⟩, hres, hev⟩ | ⟨j, v, qs', sh', ps', es', rfl, hv, rfl, ⟨x, st2, m1, hc1, hl1, hat⟩, hres, hev⟩
        · simp only [resToP, hc1, Option.bind_some, Option.bind_eq_some_iff] at hres
          obtain ⟨⟨y, l1⟩, hy, ys, hys, ls, hls, o, ho, hres⟩ := hres
          obtain ⟨ho, hmp⟩ := getC_ok ho
          split at hres
          · rename_i v n rest hvers
            simp only [Option.bind_eq_some_iff] at hres
            obtain ⟨⟨es2, l2⟩, hes2, hres⟩ := hres
            cases hv : (l1.V.isEmpty && l2.V.isEmpty && o.lent && !o.opn && Nat.beq n o.cells.length && Nat.beq n E.cells && Nat.beq o.elem E.elem) with
            | false => simp [hv] at hres
            | true =>
              simp only [hv, cond_true, Option.some.injEq] at hres
              subst hres
              simp only [Bool.and_eq_true, List.isEmpty_iff, Nat.beq_eq, Bool.not_eq_true'] at hv
              obtain ⟨⟨⟨⟨⟨⟨hv1, hv2⟩, hlent⟩, hop⟩, hnl⟩, hnE⟩, hel2⟩ := hv
              obtain ⟨vv, hvv, hrun⟩ := aResults_ok hy ⟨fun _ _ => trivial, fun f hf => by rw [hv1] at hf; cases hf⟩ hat.rel hat.tm
              obtain ⟨us', h1, h2, rfl⟩ := parts_ok hys hvv hls
              have hT := turned (E := E) (outs := E.outs) (kinds := E.kinds) (en := fun us' => .returned (answer E.outs us')) (B := B.with ps') (b := b) (FP := FP) (w := w) rfl rfl rfl hat.rel ho hmp hvers hlent hop hnl hnE hel2 hes2 hv2 h1 h2 hev hpl0
              have fin : Leaves Try.prog fn a'.tmps (fun e w' => (∃ qs'', PV.v (.int .i64 0) :: qs' = .v (.int .i64 0) :: qs'' ∧ TurnP E E.outs E.kinds (fun us' => .returned (answer E.outs us')) FP b w qs'' e w') ∨ (∃ (j : Nat) (v : Value) (qs'' : List PV), PV.v (.int .i64 0) :: qs' = .v (.int .i64 ((j + 1 : Nat) : Int)) :: qs'' ∧ pans[j]? = some v ∧ TurnP E [] (E.kinds.drop (shLen E.outs)) (fun _ => .panicked [{ v, recovered := false }]) FP b w qs'' e w')) a'.defers .returning w' := by
                rw [nodef hc1 hat]
                exact ⟨_, hrun, .inl ⟨qs', rfl, hT⟩⟩
              rcases he with rfl | rfl
              · exact fin
              · exact fin
          · cases hres
        · simp only [cellsTo, hc1, Option.bind_some, Option.bind_eq_some_iff] at hres
          obtain ⟨o, ho, hres⟩ := hres
          obtain ⟨ho, hmp⟩ := getC_ok ho
          split at hres
          · rename_i v1 n rest hvers
            simp only [Option.bind_eq_some_iff] at hres
            obtain ⟨⟨es2, l2⟩, hes2, hres⟩ := hres
            cases hv' : (l2.V.isEmpty && o.lent && !o.opn && Nat.beq n o.cells.length && Nat.beq n E.cells && Nat.beq o.elem E.elem) with
            | false => simp [hv'] at hres
            | true =>
              simp only [hv', cond_true, Option.some.injEq] at hres
              subst hres
              simp only [Bool.and_eq_true, List.isEmpty_iff, Nat.beq_eq, Bool.not_eq_true'] at hv'
              obtain ⟨⟨⟨⟨⟨hv2, hlent⟩, hop⟩, hnl⟩, hnE⟩, hel2⟩ := hv'
              have hpl1 : (E.kinds.drop (shLen E.outs)).all CK.plain = true := List.all_eq_true.2 fun k hk => List.all_eq_true.1 hpl0 k (List.mem_of_mem_drop hk)
              have hT := turned (E := E) (outs := []) (kinds := E.kinds.drop (shLen E.outs)) (en := fun _ => .panicked [{ v, recovered := false }]) (B := B.with ps') (b := b) (FP := FP) (w := w) (ls := []) (us' := []) rfl rfl rfl hat.rel ho hmp hvers hlent hop hnl hnE hel2 hes2 hv2 rfl rfl hev hpl1
              show Leaves Try.prog fn a'.tmps _ a'.defers (.panicking _) w'
              rw [nodef hc1 hat]
              exact .inr ⟨j, v, qs', rfl, hv, hT⟩
          · cases hres
    · cases hread
  · cases hsh
end Go.Proofs.Ytegfdigljpnhcaa.eng
end
