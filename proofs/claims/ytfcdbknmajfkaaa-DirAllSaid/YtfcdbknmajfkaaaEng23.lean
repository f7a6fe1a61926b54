/- The engine: calls of functions that are told of by a contract and turn what their first argument points to. -/
import Derived.Test.YtfcdbknmajfkaaaEng22
namespace Go.Proofs.Ytfcdbknmajfkaaa.eng
open Go Go.RowKit
variable {W0 : Base}
set_option linter.unusedVariables false
set_option linter.unusedSimpArgs false

def callP (f : FuncId) (E : PtrE) (args : List AV) (st : St) : Option (ARet × St × Log) := match args with
  | .ptr r v idx sz sub :: rest => (st.heap.get r).bind fun o => match o.vers with
    | (v', n) :: _ => (leavesA E.ins rest).bind fun ls => (cellsSX st (ls ++ o.cells)).bind fun (es, ok, lA) => (outD (.fn E.k es) E.kinds 0 st.next (st.next + (rowsAt E.kinds 0).length) st.path).bind fun (cs, fs, p', os) =>
      cond (Nat.beq v v' && Nat.beq (idx * sz + sub) 0 && ok && !o.ro && !o.opn && Nat.beq n o.cells.length && Nat.beq n E.cells && Nat.beq o.elem E.elem && Nat.blt (st.next + (rowsAt E.kinds 0).length + os.length) 16777215 && Nat.beq E.kinds.length (shLen E.outs + E.cells) && (cs.drop (shLen E.outs)).all AV.one)
        ((St.put (resSt st (.fn E.k es) E.kinds p' os) r { o with cells := cs.drop (shLen E.outs), vers := [(v, n)], dat := none, sym := none }).map fun st' =>
          (.ret (answerA E.outs (cs.take (shLen E.outs))), st', ⟨(1 <<< r) ||| (lA.A ||| resMask st E.kinds os), (1 <<< r) ||| resMask st E.kinds os, .fp f E es :: (lA.V ++ fs)⟩)) none
    | [] => none
  | _ => none
def orcP (tab : FuncId → Option PtrE) : Orc := fun f args st => (tab f).bind fun E => callP f E args st
theorem callP_ok {f : FuncId} {E : PtrE} {args : List AV} {st st' : St} {r : ARet} {lg : Log} (hr : callP f E args st = some (r, st', lg)) (W0 : Base) (A : Nat → Prop) (m : Map) (w : World) (vs : List Value) (hA : lg.Fits W0 A) (hR : Rel W0 A m st.heap.get w) (hF : Fresh A m st.next) (hvs : denL m args = some vs) :
    Calls Try.prog f vs.toArray w (CPost W0 A m st w r st' lg) := by
  unfold callP at hr
  split at hr
  · rename_i r0 v idx sz sub rest
    simp only [Option.bind_eq_some_iff] at hr
    obtain ⟨o, ho, hr⟩ := hr
    split at hr
    · rename_i v' n rest' hvers
      simp only [Option.bind_eq_some_iff] at hr
      obtain ⟨ls, hls, ⟨es, ok, lA⟩, hes, ⟨cs, fs, p', os⟩, hout, hr⟩ := hr
      cases hc : (Nat.beq v v' && Nat.beq (idx * sz + sub) 0 && ok && !o.ro && !o.opn && Nat.beq n o.cells.length && Nat.beq n E.cells && Nat.beq o.elem E.elem && Nat.blt (st.next + (rowsAt E.kinds 0).length + os.length) 16777215 && Nat.beq E.kinds.length (shLen E.outs + E.cells) && (cs.drop (shLen E.outs)).all AV.one) with
      | false => simp [hc] at hr
      | true =>
        simp only [hc, cond_true, Option.map_eq_some_iff, Prod.mk.injEq] at hr
        obtain ⟨s1, hput, rfl, rfl, rfl⟩ := hr
        simp only [Bool.and_eq_true, Nat.blt_eq, Nat.beq_eq, Bool.not_eq_true', List.all_eq_true] at hc
        obtain ⟨⟨⟨⟨⟨⟨⟨⟨⟨⟨rfl, hz⟩, rfl⟩, hro⟩, hop⟩, hnl⟩, hnE⟩, hel⟩, hsm⟩, hkl⟩, hone⟩ := hc
        have har : A r0 := hA.1 r0 (bit_or_l ((bit_one _ _).2 rfl))
        have hlA : lA.Fits W0 A := ⟨fun r hr => hA.1 r (bit_or_r (bit_or_l hr)), fun f hf => hA.2 f (by simp [hf])⟩
        simp only [denL, Option.bind_eq_some_iff, Option.map_eq_some_iff] at hvs
        obtain ⟨pv, hpv, rv, hrv, rfl⟩ := hvs
        simp only [AV.den, Option.map_eq_some_iff] at hpv
        obtain ⟨b, hb, rfl⟩ := hpv
        rw [hz]
        obtain ⟨b', hb', hB⟩ := hR.blk r0 o har ho v n (by rw [hvers]; simp)
        rw [hb] at hb'; cases hb'
        have hB' := hB
        obtain ⟨c, fz, hcc, hfz, hn1, hn2, hcell, hsize⟩ := hB'
        simp only [hop, cond_false] at hsize
        obtain ⟨l, hd, hll, _, hlc⟩ := hB.cells (P := (default : Program)) (off := 0) (k := n) (by omega)
        have hcl : cellsAt o 0 n = o.cells := by simp [cellsAt, hnl]
        rw [hcl] at hd
        have hl : l = c.toList := by
          apply List.ext_getElem?
          intro i
          by_cases hi : i < l.length
          · have := hlc i l[i] (List.getElem?_eq_getElem hi)
            simp only [World.cell?, hcc, Nat.zero_add] at this
            rw [List.getElem?_eq_getElem hi]
            simpa using this.symm
          · rw [List.getElem?_eq_none (by omega), List.getElem?_eq_none (by simp; omega)]
        subst hl
        obtain ⟨us, hus, hul, rfl⟩ := leavesA_ok E.ins rest hls hrv
        obtain ⟨ps, hps, hpl, hrd⟩ := cellsSX_ok hR hes hlA (denL_append hus hd)
        obtain ⟨htold, ps', qs, hps', hqs⟩ := hA.2 (.fp f E es) (by simp)
        rw [hps] at hps'
        cases hps'
        have hbm : ∀ k, May W0 A m st w k → k < w.heap.size ∧ k ≠ b.1 := fun k hk => ⟨hk.1, fun he => by
          obtain ⟨r3, o3, e3, v3, fp3, a3, h3, d3, m3, k3⟩ := hk.2.2
          exact hR.disj r3 o3 e3 v3 fp3 r0 o v n b a3 har h3 d3 m3 ho (by rw [hvers]; simp) hb (he ▸ k3)⟩
        have hcl2 : c.toList.length = n := hll
        refine (htold w (May W0 A m st w) b.1 c fz us ps qs hqs hul (by rw [hpl, List.length_append]; omega) (by omega) (by rw [← hel]; exact hcc) hfz hbm (fun i p u hp hu w2 hw2 => (hrd i p u hp hu).2 rfl w2 hw2)).mono ?_
        rintro e w' ⟨us', c', fz', ow, h1, h2, h3, h4, hfz', how, h5, rfl, hos, htape, hout2, hsz, hkeep⟩
        rw [← hel] at h4
        have hlt0 : r0 < st.next := by
          rcases Nat.lt_or_ge r0 st.next with h | h
          · exact h
          · rw [(hF r0 har h).1 v] at hb; cases hb
        have hblt : b.1 < w.heap.size := hR.lt har ho (show (v, n) ∈ o.vers by rw [hvers]; simp) hb
        -- the world with the cells as they were
        let w1 : World := { w' with heap := w'.heap.setIfInBounds b.1 (.cells c o.elem fz) }
        have hw1 : ∀ k, k ≠ b.1 → w1.heap[k]? = w'.heap[k]? := fun k hk => by
          show (w'.heap.setIfInBounds b.1 _)[k]? = _
          rw [Array.getElem?_setIfInBounds_ne (Ne.symm hk)]
        have hw1s : w1.heap.size = w'.heap.size := by show (w'.heap.setIfInBounds b.1 _).size = _; simp
        have hex : Ex w w1 := ⟨hos, htape, hout2, by rw [hw1s]; exact hsz, fun k hk => by
          by_cases hkb : k = b.1
          · subst hkb
            show (w'.heap.setIfInBounds b.1 _)[b.1]? = _
            rw [hcc, Array.getElem?_setIfInBounds_self_of_lt (by omega)]
          · rw [hw1 k hkb]; exact hkeep k hk hkb⟩
        have hrb : ∀ k, (May W0 A m st w k ∨ (w.heap.size ≤ k ∧ k < w'.heap.size)) → k ≠ b.1 := fun k hk => by
          rcases hk with hk | hk
          · exact (hbm k hk).2
          · omega
        have hall : (us' ++ c'.toList).length = E.kinds.length := by simp [h1, h2]; omega
        have how1 : Owns w w1 E.kinds qs (us' ++ c'.toList) ow := ⟨fun i bb hi => by
          obtain ⟨el, sz, may, q, u, g1, g2, g3, ⟨g4, g5, n2, cap, cs2, c2, fz2, g6, g7, g8, g9⟩, g10⟩ := how.at' i bb hi
          exact ⟨el, sz, may, q, u, g1, g2, g3, ⟨g4, by rw [hw1s]; exact g5, n2, cap, cs2, c2, fz2, g6, g7, (hw1 bb (by omega)).trans g8, g9⟩, g10⟩, how.no, how.inj⟩
        obtain ⟨m', S, F', hden⟩ := results hR hF hex (g := .fn E.k es) (us := us' ++ c'.toList) hall (by omega) (fun i q hq => by simp [Base.ev, SX.ev, hps, hqs, hq]) how1
          (fun i q u hq hu w2 hw2 => h5 i q u hq hu w2 (fun k hk hj => (hw2 k (by rw [hw1s]; exact hk) hj).trans (hw1 k (hrb k hk)))) hout (fun f hf => hA.2 f (by simp [hf])) hsm (fun r hr => hA.1 r (bit_or_r (bit_or_r hr)))
        have t1 := denL_take (shLen E.outs) hden
        have t2 := denL_drop (shLen E.outs) hden
        rw [← h1, List.take_left' rfl, h1] at t1
        rw [← h1, List.drop_left' rfl, h1] at t2
        -- the cells are put
        obtain ⟨hpt, hnext⟩ := put_ok hput
        have hg1 : (resSt st (.fn E.k es) E.kinds p' os).heap.get r0 = some o := by
          rw [resSt_gk (lg := ⟨0, resMask st E.kinds os, []⟩) hsm (fun _ h => h) r0 (fun h => by have := (maskFrom_bit _ _ _).1 h; omega)]
          exact ho
        have hb1 : m' r0 v = some b := S.ext.1 _ _ _ hb
        have hcsl : (cs.drop (shLen E.outs)).length = n := by
          have := denL_length t2
          rw [← this, Array.length_toList, h2]
          omega
        have hrel1 := S.rel
        have hstep2 : Step W0 A (fun k => k = r0) m' (resSt st (.fn E.k es) E.kinds p' os).heap.get w1 m' s1.heap.get w' := by
          rw [hpt]
          refine Step.put hrel1 har (Map.Le.refl m') (fun _ _ _ => rfl) rfl rfl (fun o2 _ _ _ ho2 _ _ => by rw [hg1] at ho2; cases ho2; exact hro) rfl (fun _ _ _ _ he _ _ => by simp at he) (fun o2 _ _ _ ho2 _ _ => by rw [hg1] at ho2; cases ho2; rfl) (fun _ v1 n1 b1 hv1 hb1' => by
            simp only [List.mem_singleton, Prod.mk.injEq] at hv1
            obtain ⟨rfl, rfl⟩ := hv1
            rw [hb1] at hb1'
            cases hb1'
            exact Nat.lt_of_lt_of_le hblt hex.size) rfl rfl rfl (by rw [hw1s]; exact Nat.le_refl _) ?_ ?_ ?_ ?_
          · intro k hk hno
            exact (hw1 k (fun e => hno o v n b hg1 (by rw [hvers]; simp) hb1 e.symm)).symm
          · intro v1 n1 hv1
            simp only [List.mem_singleton, Prod.mk.injEq] at hv1
            obtain ⟨rfl, rfl⟩ := hv1
            refine ⟨b, hb1, c', fz', h4, hfz', by simp only; omega, by omega, fun i x hi hx => ?_, by simp only [hop, cond_false]; omega⟩
            obtain ⟨u, hu1, hu2⟩ := denL_get t2 hx
            exact ⟨u, hu1, by simpa using hu2⟩
          · intro v1 n1 rest1 he v2 hlt
            simp only [List.cons.injEq, Prod.mk.injEq] at he
            obtain ⟨⟨rfl, rfl⟩, _⟩ := he
            exact hrel1.top r0 o v n rest' har hg1 hvers v2 hlt
          · intro v1 n1 b1 hv1 hb1' _
            simp only [List.mem_singleton, Prod.mk.injEq] at hv1
            obtain ⟨rfl, rfl⟩ := hv1
            exact ⟨o, v1, n1, b1, hg1, by rw [hvers]; simp, hb1', rfl⟩
        refine ⟨m', ⟨(S.trans hstep2).more (fun k hk => ?_), by rw [hnext]; exact F'⟩, _, answerA_ok t1 h1, rfl⟩
        rcases hk with hk | hk
        · exact bit_or_r hk
        · exact bit_or_l ((bit_one _ _).2 hk)
    · cases hr
  · cases hr
theorem callP_gk {f : FuncId} {E : PtrE} {args : List AV} {st st' : St} {r : ARet} {lg : Log} (hr : callP f E args st = some (r, st', lg)) : Gk st st' lg := by
  unfold callP at hr
  split at hr
  · rename_i r0 v idx sz sub rest
    simp only [Option.bind_eq_some_iff] at hr
    obtain ⟨o, ho, hr⟩ := hr
    split at hr
    · rename_i v' n rest' hvers
      simp only [Option.bind_eq_some_iff] at hr
      obtain ⟨ls, hls, ⟨es, ok, lA⟩, hes, ⟨cs, fs, p', os⟩, hout, hr⟩ := hr
      cases hc : (Nat.beq v v' && Nat.beq (idx * sz + sub) 0 && ok && !o.ro && !o.opn && Nat.beq n o.cells.length && Nat.beq n E.cells && Nat.beq o.elem E.elem && Nat.blt (st.next + (rowsAt E.kinds 0).length + os.length) 16777215 && Nat.beq E.kinds.length (shLen E.outs + E.cells) && (cs.drop (shLen E.outs)).all AV.one) with
      | false => simp [hc] at hr
      | true =>
        simp only [hc, cond_true, Option.map_eq_some_iff, Prod.mk.injEq] at hr
        obtain ⟨s1, hput, rfl, rfl, rfl⟩ := hr
        simp only [Bool.and_eq_true, Nat.blt_eq, Nat.beq_eq] at hc
        have hsm := hc.1.1.2
        have g1 : Gk st (resSt st (.fn E.k es) E.kinds p' os) ⟨0, resMask st E.kinds os, []⟩ := resSt_gk hsm (fun _ h => h)
        have g2 := put_gk hput
        intro r hr
        rw [g2 r (fun h => hr (bit_or_l h)), g1 r (fun h => hr (bit_or_r h))]
    · cases hr
  · cases hr
theorem orcP_ok (tab : FuncId → Option PtrE) : OrcOk Try.prog (orcP tab) := by
  refine ⟨?_, ?_⟩
  · intro f args st r st' lg hr W0 A m w vs hA hR hF hvs
    simp only [orcP, Option.bind_eq_some_iff] at hr
    obtain ⟨E, hE, hr⟩ := hr
    exact callP_ok hr W0 A m w vs hA hR hF hvs
  · intro f args st r st' lg hr
    simp only [orcP, Option.bind_eq_some_iff] at hr
    obtain ⟨E, hE, hr⟩ := hr
    exact callP_gk hr
end Go.Proofs.Ytfcdbknmajfkaaa.eng
