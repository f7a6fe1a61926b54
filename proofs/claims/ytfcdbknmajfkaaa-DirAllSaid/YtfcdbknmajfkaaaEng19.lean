/- The engine: a contract out of a run. -/
import Derived.Test.YtfcdbknmajfkaaaEng18
namespace Go.Proofs.Ytfcdbknmajfkaaa.eng
open Go Go.RowKit
variable {W0 : Base}
set_option linter.unusedVariables false
set_option linter.unusedSimpArgs false

theorem leavesA_len : ∀ (s : Sh) (xs : List AV) {ls : List AV}, leavesA s xs = some ls → s.length = xs.length
  | [], [], ls, h => rfl
  | [], _ :: _, ls, h => by simp [leavesA] at h
  | none :: s, [], ls, h => by simp [leavesA] at h
  | some n :: s, [], ls, h => by simp [leavesA] at h
  | none :: s, x :: xs, ls, h => by
    simp only [leavesA, Option.map_eq_some_iff] at h
    obtain ⟨l, hl, rfl⟩ := h
    simp [leavesA_len s xs hl]
  | some n :: s, x :: xs, ls, h => by
    simp only [leavesA, Option.bind_eq_some_iff] at h
    obtain ⟨cs, hcs, h⟩ := h
    cases hn : Nat.beq cs.length n with
    | false => simp [hn] at h
    | true =>
      simp only [hn, cond_true, Option.map_eq_some_iff] at h
      obtain ⟨l, hl, rfl⟩ := h
      simp [leavesA_len s xs hl]
/-- The parts of an answer. -/
def partsOf (s : Sh) (y : AV) : Option (List AV) := match s, y with
  | [_], y => some [y]
  | _, .tuple cs => some cs
  | _, .val (.tuple vs) => some (vs.toList.map .val)
  | _, _ => none
theorem parts_ok {m : Map} {s : Sh} {y : AV} {ys ls : List AV} {v : Value} (h : partsOf s y = some ys) (hv : y.den m = some v) (hl : leavesA s ys = some ls) : ∃ us, denL m ls = some us ∧ us.length = shLen s ∧ v = answer s us := by
  have hlen := leavesA_len s ys hl
  have key : ∀ vs : List Value, denL m ys = some vs → (vs.length ≠ 1 → v = .tuple vs.toArray) → (∀ u, vs = [u] → v = u) → ∃ us, denL m ls = some us ∧ us.length = shLen s ∧ v = answer s us := by
    intro vs hvs h1 h2
    obtain ⟨us, g1, g2, g3⟩ := leavesA_ok s ys hl hvs
    refine ⟨us, g1, g2, ?_⟩
    unfold answer
    rw [← g3]
    match vs, h1, h2 with
    | [], h1, _ => exact h1 (by simp)
    | [u], _, h2 => exact h2 u rfl
    | a :: b :: c, h1, _ => exact h1 (by simp)
  unfold partsOf at h
  split at h
  · simp only [Option.some.injEq] at h
    subst h
    exact key [v] (by simp [denL, hv]) (fun h => absurd rfl h) (fun u hu => by simpa using hu)
  · rename_i s1 cs hne
    simp only [Option.some.injEq] at h
    subst h
    simp only [AV.den, Option.map_eq_some_iff] at hv
    obtain ⟨vs, hvs, rfl⟩ := hv
    refine key vs hvs (fun _ => rfl) (fun u hu => ?_)
    exfalso
    have := denL_length hvs
    rw [hu] at this
    match s, hlen, hne with
    | [], hlen, _ => simp at hlen this; omega
    | [x], _, hne => exact hne x rfl
    | _ :: _ :: _, hlen, _ => simp at hlen this; omega
  · rename_i s1 vs hne
    simp only [Option.some.injEq] at h
    subst h
    simp only [AV.den, Option.some.injEq] at hv
    subst hv
    refine key vs.toList (denL_vals m _) (fun _ => by simp) (fun u hu => ?_)
    exfalso
    simp only [List.length_map] at hlen
    rw [hu] at hlen
    match s, hlen, hne with
    | [], hlen, _ => simp at hlen
    | [x], _, hne => exact hne x rfl
    | _ :: _ :: _, hlen, _ => simp at hlen
  · cases h

/-- What lives on in what is answered. -/
def resSX (st : St) : AV → Option (SX × Log)
  | .slice r v lo sz len cap opn => (look st r v).bind fun (o, n) => cond (!o.lent && Nat.ble (lo * sz + len * sz) n && (cond opn (o.opn && Nat.beq o.esz sz && Nat.blt 0 sz && Nat.ble cap lo) (Nat.ble len cap && Nat.ble cap 9223372036854775807)))
      ((cellsSX st (cellsAt o (lo * sz) (len * sz))).bind fun (es, ok, lg) => cond ok (some (.lit len es, (Log.sees r).or lg)) none) none
  | .sliceS r v lo len sz => (lookS st r v).bind fun (e, el, esz) => cond (isC0 lo && Nat.beq sz esz) (some (e, (Log.sees r).or (wantW e len))) none
  | x => (cellSX st x).bind fun (e, ok, lg) => cond ok (some (e, lg)) none
def Mine (W0 : Base) (w : World) (k : Nat) : Prop := k < w.heap.size ∧ (W0.fp k ∨ W0.heap.size ≤ k)
/-- Which row of the call's own it is. -/
def rootOf : AV → Option Nat | .slice r .. => some r | .sliceS r .. => some r | _ => none
/-- No other row of the call's own lies there. -/
def NoRoot (A : Nat → Prop) (m : Map) (st : St) (x : AV) (k : Nat) : Prop := ∀ r' o v n (b : Nat × Nat), A r' → st.heap.get r' = some o → (v, n) ∈ o.vers → m r' v = some b → b.1 = k → rootOf x = some r'
theorem may_noRoot {A : Nat → Prop} {m : Map} {st : St} {w : World} (hR : Rel W0 A m st.heap.get w) {k : Nat} (h : May W0 A m st w k) (x : AV) : NoRoot A m st x k := fun r' o v n b ha ho hv hb he => by
  obtain ⟨r3, o3, e3, v3, fp3, a3, h3, d3, m3, k3⟩ := h.2.2
  exact absurd (he ▸ k3) (hR.disj r3 o3 e3 v3 fp3 r' o v n b a3 ha h3 d3 m3 ho hv hb)
theorem resSX_ok {A : Nat → Prop} {m : Map} {st : St} {w : World} (hR : Rel W0 A m st.heap.get w) {x : AV} {e : SX} {lg : Log} {u : Value} (h : resSX st x = some (e, lg)) (hA : lg.Fits W0 A) (hx : x.den m = some u) :
    ∃ p, e.ev W0.s W0.F = some p ∧ ∀ w2 : World, (∀ k, Mine W0 w k → NoRoot A m st x k → w2.heap[k]? = w.heap[k]?) → Reads w2 p u := by
  unfold resSX at h
  split at h
  · rename_i r v lo sz len cap opn
    simp only [Option.bind_eq_some_iff] at h
    obtain ⟨⟨o, n⟩, hlk, h⟩ := h
    obtain ⟨ho, hv⟩ := look_ok hlk
    cases hc : (!o.lent && Nat.ble (lo * sz + len * sz) n && (cond opn (o.opn && Nat.beq o.esz sz && Nat.blt 0 sz && Nat.ble cap lo) (Nat.ble len cap && Nat.ble cap 9223372036854775807))) with
    | false => simp [hc] at h
    | true =>
      simp only [hc, cond_true, Option.bind_eq_some_iff] at h
      obtain ⟨⟨es, ok, l1⟩, hes, h⟩ := h
      cases ok with
      | false => simp at h
      | true =>
        simp only [cond_true, Option.some.injEq, Prod.mk.injEq] at h
        obtain ⟨rfl, rfl⟩ := h
        have ha : A r := (or_A hA).1.1 r (by simp [Log.sees, bit_one])
        simp only [AV.den, Option.map_eq_some_iff] at hx
        obtain ⟨b, hb, rfl⟩ := hx
        obtain ⟨b', hb', hB⟩ := hR.blk r o ha ho v n hv
        rw [hb] at hb'; cases hb'
        simp only [Bool.and_eq_true, Nat.ble_eq, Bool.not_eq_true'] at hc
        obtain ⟨⟨hlt0, hc1⟩, hc2⟩ := hc
        have hc : lo * sz + len * sz ≤ n ∧ _ := ⟨hc1, hc2⟩
        have hB' := hB
        obtain ⟨c, fz, hcc, _, hnl, hnc, _, hsize⟩ := hB'
        obtain ⟨l, hd, hll, _, hcell⟩ := hB.cells (P := (default : Program)) hc.1
        have hcap : len ≤ (cond opn (b.2 - cap) cap) ∧ (cond opn (b.2 - cap) cap) ≤ maxLen := by
          cases opn with
          | false => simp only [cond_false] at hc ⊢; simp only [Bool.and_eq_true, Nat.ble_eq] at hc; exact ⟨hc.2.1, hc.2.2⟩
          | true =>
            simp only [cond_true, Bool.and_eq_true, Nat.beq_eq, Nat.blt_eq, Nat.ble_eq] at hc ⊢
            obtain ⟨hc1, ⟨⟨hop, hez⟩, hpos⟩, hcl⟩ := hc
            simp only [hop, cond_true, hez] at hsize
            have : (lo + len) * sz ≤ b.2 * sz := by rw [Nat.add_mul]; omega
            have := Nat.le_of_mul_le_mul_right this hpos
            unfold maxLen
            omega
        obtain ⟨ps, h1, h2, h3⟩ := cellsSX_ok hR hes (or_A hA).2 hd
        refine ⟨.row len ps, by simp [SX.ev, h1], fun w2 hw2 => ?_⟩
        have hbm : w2.heap[b.1]? = w.heap[b.1]? := hw2 b.1 ⟨hR.lt ha ho hv hb, .inr ((hR.abv r o v n b ha ho hv hb).1 hlt0)⟩ (fun r' o' v' n' b' ha' ho' hv' hb' he => by rw [hR.inj r' r o' o v' n' v n b' b ha' ha ho' ho hv' hv hb' hb he]; rfl)
        simp only [Reads]
        refine ⟨some ⟨b.1, lo * sz, none⟩, _, rfl, hcap.1, hcap.2, .inr ⟨b.1, lo * sz, rfl, ReadsL.of fun i p hp => ?_⟩⟩
        have hi : i < l.length := by rw [← h2]; exact (List.getElem?_eq_some_iff.1 hp).1
        refine ⟨l[i], ?_, (h3 i p _ hp (List.getElem?_eq_getElem hi)).2 rfl w2 (fun k hk => hw2 k ⟨hk.1, hk.2.1⟩ (may_noRoot hR hk _))⟩
        rw [← hcell i _ (List.getElem?_eq_getElem hi)]
        simp only [World.cell?, hbm]
  · rename_i r v lo len sz
    simp only [Option.bind_eq_some_iff] at h
    obtain ⟨⟨e', el, esz⟩, hl, h⟩ := h
    simp only [cond_eq_ite, Bool.and_eq_true, Nat.beq_eq] at h
    split at h
    · rename_i hc
      have hz := hc.2
      subst hz
      cases h
      have ha : A r := (or_A hA).1.1 r (by simp [Log.sees, bit_one])
      obtain ⟨b, n, cs, h1, h2, h3, h5, h6, h4⟩ := ownReads hR hl hc.1 ha (wantW_ok hR hl ha hx (or_A hA).2) hx
      obtain ⟨o, ho, _, hvs, _⟩ := lookS_ok hl
      exact ⟨_, h2, fun w2 hw2 => h4 w2 (hw2 b.1 ⟨h6, .inr h5⟩ (fun r' o' v' n' b' ha' ho' hv' hb' he => by rw [hR.inj r' r o' o v' n' v 0 b' b ha' ha ho' ho hv' (by rw [hvs]; exact List.mem_singleton.2 rfl) hb' h1 he]; rfl))⟩
    · cases h
  · simp only [Option.bind_eq_some_iff] at h
    obtain ⟨⟨e', ok, l1⟩, he, h⟩ := h
    cases ok with
    | false => simp at h
    | true =>
      simp only [cond_true, Option.some.injEq, Prod.mk.injEq] at h
      obtain ⟨rfl, rfl⟩ := h
      obtain ⟨p, h1, _, h2⟩ := cellSX_ok hR he hA hx
      exact ⟨p, h1, fun w2 hw2 => h2 rfl w2 (fun k hk => hw2 k ⟨hk.1, hk.2.1⟩ (may_noRoot hR hk _))⟩
def resAll (st : St) : List AV → Option (List SX × Log)
  | [] => some ([], Log.no)
  | x :: xs => (resSX st x).bind fun (e, l1) => (resAll st xs).map fun (es, l2) => (e :: es, l1.or l2)
theorem resAll_ok {A : Nat → Prop} {m : Map} {st : St} {w : World} (hR : Rel W0 A m st.heap.get w) : ∀ {xs : List AV} {es : List SX} {lg : Log} {us : List Value}, resAll st xs = some (es, lg) → lg.Fits W0 A → denL m xs = some us →
    ∃ ps, evs W0.s W0.F es = some ps ∧ ps.length = us.length ∧ ∀ (i : Nat) (p : PV) (u : Value) (x : AV), ps[i]? = some p → us[i]? = some u → xs[i]? = some x → ∀ w2 : World, (∀ k, Mine W0 w k → NoRoot A m st x k → w2.heap[k]? = w.heap[k]?) → Reads w2 p u
  | [], es, lg, us, h, hA, hu => by
    simp only [resAll, Option.some.injEq, Prod.mk.injEq] at h
    obtain ⟨rfl, rfl⟩ := h
    simp only [denL, Option.some.injEq] at hu
    subst hu
    exact ⟨[], rfl, rfl, fun i p u x hp => by simp at hp⟩
  | x :: xs, es, lg, us, h, hA, hu => by
    simp only [resAll, Option.bind_eq_some_iff, Option.map_eq_some_iff] at h
    obtain ⟨⟨e, l1⟩, he, ⟨es', l2⟩, hes, h⟩ := h
    cases h
    simp only [denL, Option.bind_eq_some_iff, Option.map_eq_some_iff] at hu
    obtain ⟨v, hv, us', hus, rfl⟩ := hu
    obtain ⟨p, h1, h2⟩ := resSX_ok hR he (or_A hA).1 hv
    obtain ⟨ps, h3, h4, h5⟩ := resAll_ok hR hes (or_A hA).2 hus
    refine ⟨p :: ps, by simp [evs, h1, h3], by simp [h4], fun i q u y hq hu hy => ?_⟩
    cases i with
    | zero => simp at hq hu hy; subst hq; subst hu; subst hy; exact h2
    | succ i => exact h5 i q u y (by simpa using hq) (by simpa using hu) (by simpa using hy)

mutual
theorem Reads.keep {w w2 : World} (h : ∀ k, k < w.heap.size → w2.heap[k]? = w.heap[k]?) : ∀ (p : PV) {u : Value}, Reads w p u → Reads w2 p u
  | .v x, u, hr => by simp only [Reads] at hr ⊢; exact hr
  | .row n cs, u, hr => by
    simp only [Reads] at hr ⊢
    obtain ⟨a, cap, h1, h2, h3, h4⟩ := hr
    refine ⟨a, cap, h1, h2, h3, ?_⟩
    rcases h4 with h4 | ⟨b, off, h4, h5⟩
    · exact .inl h4
    · exact .inr ⟨b, off, h4, ReadsL.keep h b cs off h5⟩
theorem ReadsL.keep {w w2 : World} (h : ∀ k, k < w.heap.size → w2.heap[k]? = w.heap[k]?) (b : Nat) : ∀ (cs : List PV) (off : Nat), ReadsL w b cs off → ReadsL w2 b cs off
  | [], off, _ => by simp [ReadsL]
  | c :: cs, off, hr => by
    simp only [ReadsL] at hr ⊢
    obtain ⟨⟨u, hu, hc⟩, hs⟩ := hr
    refine ⟨⟨u, ?_, Reads.keep h c hc⟩, ReadsL.keep h b cs (off + 1) hs⟩
    have hb : b < w.heap.size := World.block_lt_of_cell? w ⟨b, off, none⟩ hu
    rw [← hu]
    simp only [World.cell?, h b hb]
end

/-- Where a run begins. -/
def startD (E : FnE) (inK : List CK) (path : List Nat) : Option (List AV × St × List Fact) := (outD .var inK 0 0 0 path).bind fun (cs, fs, p', os) =>
  cond (Nat.beq inK.length (shLen E.ins) && Nat.blt inK.length 16777215 && inK.all CK.plain) (some (assembleA E.ins cs, ⟨newDats ((rowsAt inK 0).map fun j => (.var j, E.leaks.getD j false)) 0 .nil, (rowsAt inK 0).length, p'⟩, fs)) none
/-- A run of a call from what came in to what is answered. -/
def runTo (P : Program) (O : Orc) (n : Nat) (f : FuncId) (E : FnE) (inK : List CK) (path : List Nat) (H : FuncId → Oper → Option Hint := fun _ _ => none) : Option (List Fact × List SX) :=
  (startD E inK path).bind fun (args, st, fs) => ((theEng P O n H).call f args st).bind fun (r, st', lg) => match r with
    | .pan _ => none
    | .ret y => (partsOf E.outs y).bind fun ys => (leavesA E.outs ys).bind fun ls => (resAll st' ls).bind fun (es, l2) => some (fs ++ (lg.V ++ l2.V), es)

theorem start_rel {E : FnE} {inK : List CK} {path : List Nat} {args : List AV} {st : St} {fs : List Fact} (h : startD E inK path = some (args, st, fs)) {w : World} {FP : Nat → Prop} {us : List Value} {ps : List PV} {F : Fns} {X : Nat → Prop} (hul : us.length = ps.length) (hpl : ps.length = shLen E.ins) (hFP : ∀ k, FP k → k < w.heap.size)
    (hrd : ∀ (i : Nat) (p : PV) (u : Value), ps[i]? = some p → us[i]? = some u → Reads w p u ∧ (E.leaks.getD i false = true → ∀ w2 : World, (∀ k, FP k → w2.heap[k]? = w.heap[k]?) → Reads w2 p u)) (hf : ∀ x ∈ fs, x.holds ⟨w, fun i => ps[i]?, F, FP, X⟩) :
    ∃ m, Rel ⟨w, fun i => ps[i]?, F, FP, X⟩ (fun _ => True) m st.heap.get w ∧ Fresh (fun _ => True) m st.next ∧ denL m args = some (assemble E.ins us) ∧ (∀ r o, st.heap.get r = some o → o.vers = []) ∧ (∀ r v fp, m.d r = some (v, fp) → ∀ k, fp k → FP k ∨ ∃ x, x < us.length ∧ E.leaks.getD x false = false) := by
  simp only [startD, Option.bind_eq_some_iff] at h
  obtain ⟨⟨cs, fs', p', os⟩, hout, h⟩ := h
  cases hc : (Nat.beq inK.length (shLen E.ins) && Nat.blt inK.length 16777215 && inK.all CK.plain) with
  | false => simp [hc] at h
  | true =>
    simp only [hc, cond_true, Option.some.injEq, Prod.mk.injEq] at h
    obtain ⟨rfl, rfl, rfl⟩ := h
    simp only [Bool.and_eq_true, Nat.beq_eq, Nat.blt_eq] at hc
    obtain ⟨hc, hplain⟩ := hc
    have hnoOwn : ∀ (i : Nat) (el : TypeId) (sz : Nat) (may : Bool), inK[i]? ≠ some (.own el sz may) := fun i el sz may hi => by
      have := List.all_eq_true.1 hplain _ (List.mem_of_getElem? hi)
      simp [CK.plain] at this
    obtain ⟨_, hos, _⟩ := outD_os inK 0 _ _ _ hout
    let B : Base := ⟨w, fun i => ps[i]?, F, FP, X⟩
    let m : Map := ⟨fun _ _ => none, fun r => ((rowsAt inK 0)[r]?).bind fun x => (us[x]?).map fun u => (u, fun k => (E.leaks.getD x false = true ∧ FP k) ∨ (E.leaks.getD x false = false ∧ k < w.heap.size)), B.sv⟩
    have hrl := rowsAt_len inK 0
    have hget : ∀ r o, (newDats ((rowsAt inK 0).map fun j => ((.var j : SX), E.leaks.getD j false)) 0 .nil).get r = some o → ∃ x p u, (rowsAt inK 0)[r]? = some x ∧ ps[x]? = some p ∧ us[x]? = some u ∧ o = datRoot (.var x, E.leaks.getD x false) := by
      intro r o ho
      rw [newDats_get _ _ _ _ (by simp; omega)] at ho
      split at ho
      · rename_i hr
        rw [List.getElem?_map] at ho
        simp only [Option.map_map, Option.map_eq_some_iff] at ho
        obtain ⟨x, hx, rfl⟩ := ho
        rw [Nat.sub_zero] at hx
        have hxl := (rowsAt_lt inK 0 x (List.mem_of_getElem? hx)).2
        have h1 : x < ps.length := by omega
        have h2 : x < us.length := by omega
        exact ⟨x, ps[x], us[x], hx, List.getElem?_eq_getElem h1, List.getElem?_eq_getElem h2, rfl⟩
      · simp [T.get] at ho
    have hv : ∀ r o, (newDats ((rowsAt inK 0).map fun j => ((.var j : SX), E.leaks.getD j false)) 0 .nil).get r = some o → o.vers = [] := fun r o ho => by
      obtain ⟨x, p, u, _, _, _, rfl⟩ := hget r o ho
      rfl
    have hmd : ∀ r x u, (rowsAt inK 0)[r]? = some x → us[x]? = some u → m.d r = some (u, fun k => (E.leaks.getD x false = true ∧ FP k) ∨ (E.leaks.getD x false = false ∧ k < w.heap.size)) := fun r x u hx hu => by simp [m, hx, hu]
    have hrel : Rel B (fun _ => True) m (newDats ((rowsAt inK 0).map fun j => ((.var j : SX), E.leaks.getD j false)) 0 .nil).get w := by
      refine ⟨?_, ?_, ?_, Nat.le_refl _, fun _ _ _ => rfl, ?_, ?_, ?_, fun e => rfl, ⟨rfl, rfl, rfl⟩, ?_, fun r o e v n b _ ho _ hvn => by rw [hv r o ho] at hvn; cases hvn⟩
      · intro r o _ ho v n hvn; rw [hv r o ho] at hvn; cases hvn
      · intro r r' o o' v n v' n' b b' _ _ ho _ hvn; rw [hv r o ho] at hvn; cases hvn
      · intro r o v n rest _ ho hvn; rw [hv r o ho] at hvn; cases hvn
      · intro r o v n b _ ho hvn; rw [hv r o ho] at hvn; cases hvn
      · intro r o e _ ho hd
        obtain ⟨x, p, u, h1, h2, h3, rfl⟩ := hget r o ho
        simp only [datRoot, Option.some.injEq] at hd
        subst hd
        obtain ⟨g1, g2⟩ := hrd x p u h2 h3
        refine ⟨u, _, hmd r x u h1 h3, g1.one, ?_, fun w2 hw2 => ⟨p, by simpa [Base.ev, SX.ev] using h2, ?_⟩⟩
        · rintro k (⟨_, hk⟩ | ⟨_, hk⟩)
          · exact hFP k hk
          · exact hk
        · cases hl : E.leaks.getD x false with
          | true => exact g2 hl w2 (fun k hk => hw2 k (.inl ⟨hl, hk⟩))
          | false => exact Reads.keep (fun k hk => hw2 k (.inr ⟨hl, hk⟩)) p g1
      · intro r o R v fp r' o' u n b _ _ _ _ _ ho' hvn; rw [hv r' o' ho'] at hvn; cases hvn
      · intro r o e v fp _ ho hd hm hro k hk
        obtain ⟨x, p, u, h1, h2, h3, rfl⟩ := hget r o ho
        rw [hmd r x u h1 h3] at hm
        cases hm
        simp only [datRoot] at hro
        rcases hk with ⟨_, hk⟩ | ⟨hl, _⟩
        · exact .inl hk
        · rw [hro] at hl; cases hl
    refine ⟨m, hrel, ?_, ?_, hv, ?_⟩
    · intro r _ hr
      refine ⟨fun v => rfl, ?_⟩
      have : (rowsAt inK 0)[r]? = none := List.getElem?_eq_none hr
      simp [m, this]
    · have hden := outD_ok (W0 := B) (w := w) (m := m) (val := fun i => us.getD i undef) (fun e => rfl) inK 0 0 0 path hout hf (fun i _ hi => by
        have h1 : i < ps.length := by omega
        have h2 : i < us.length := by omega
        refine ⟨ps[i], by simp [Base.ev, SX.ev, B, h1], ?_⟩
        have := (hrd i ps[i] us[i] (List.getElem?_eq_getElem h1) (List.getElem?_eq_getElem h2)).1
        simpa [List.getD, h2] using this) (fun q x hq => by
        have hxl := (rowsAt_lt inK 0 x (List.mem_of_getElem? hq)).2
        have h2 : x < us.length := by omega
        rw [Nat.zero_add]
        exact ⟨_, by rw [hmd q x us[x] hq (List.getElem?_eq_getElem h2)]; simp [List.getD, h2]; rfl⟩)
        (fun t x el sz ht => by obtain ⟨_, may, h, _⟩ := hos t x el sz ht; exact absurd h (hnoOwn _ _ _ _)) (fun i el sz _ hi _ => absurd hi (hnoOwn _ _ _ _))
      have hus' : (List.range' 0 inK.length).map (fun i => us.getD i undef) = us := by
        apply List.ext_getElem?
        intro i
        by_cases hi : i < us.length
        · rw [List.getElem?_map, List.getElem?_range' (by omega)]
          simp [List.getD, hi]
        · rw [List.getElem?_eq_none (by simp; omega), List.getElem?_eq_none (by omega)]
      rw [hus'] at hden
      exact assembleA_ok E.ins cs hden (by omega)
    · intro r v fp hm k hk
      simp only [m, Option.bind_eq_some_iff, Option.map_eq_some_iff, Prod.mk.injEq] at hm
      obtain ⟨x, hx, u, hu, rfl, rfl⟩ := hm
      rcases hk with ⟨_, h⟩ | ⟨h, _⟩
      · exact .inl h
      · exact .inr ⟨x, (List.getElem?_eq_some_iff.1 hu).1, h⟩

theorem told_of (hM : Try.prog.follows .mixedOrders = true) (hN : GoodP Try.prog) {f : FuncId} {E : FnE} {spec : List PV → Option (List PV)} (F : Fns) (inK : List CK)
    (h : ∀ ps qs, spec ps = some qs → ps.length = shLen E.ins → ∃ O n path H fs es, OrcOk Try.prog O ∧ runTo Try.prog O n f E inK path H = some (fs, es) ∧ (∀ w FP, ∀ x ∈ fs, x.holds ⟨w, fun i => ps[i]?, F, FP, fun _ => False⟩) ∧ evs (fun i => ps[i]?) F es = some qs) (hpl0 : E.kinds.all CK.plain = true := by rfl) : ToldF f E spec := by
  intro w FP us ps qs hsp hul hpl hFP hrd
  obtain ⟨O, n, path, H, fs, es, hO, hrun, hfacts, hqs⟩ := h ps qs hsp hpl
  simp only [runTo, Option.bind_eq_some_iff] at hrun
  obtain ⟨⟨args, st, fs0⟩, hst, ⟨r, st', lg⟩, hcall, hrun⟩ := hrun
  cases r with
  | pan v => simp at hrun
  | ret y =>
    simp only [Option.bind_eq_some_iff] at hrun
    obtain ⟨ys, hys, ls, hls, ⟨es', l2⟩, hes, hrun⟩ := hrun
    simp only [Option.some.injEq, Prod.mk.injEq] at hrun
    obtain ⟨rfl, rfl⟩ := hrun
    have hf := hfacts w FP
    obtain ⟨m, hR, hF, hargs, hv0, _⟩ := start_rel hst hul hpl hFP hrd (fun x hx => hf x (by simp [hx]))
    refine ((theEng_ok hN hM hO n).call f args st _ _ _ hcall ⟨w, fun i => ps[i]?, F, FP, fun _ => False⟩ (fun _ => True) m w _ ⟨fun _ _ => trivial, fun x hx => hf x (by simp [hx])⟩ hR hF hargs).mono ?_
    rintro e w' ⟨m', hok, v, hv, rfl⟩
    obtain ⟨us', h1, h2, rfl⟩ := parts_ok hys hv hls
    obtain ⟨qs', h3, h4, h5⟩ := resAll_ok hok.rel hes ⟨fun _ _ => trivial, fun x hx => hf x (by simp [hx])⟩ h1
    rw [hqs] at h3
    cases h3
    have hll := denL_length h1
    refine ⟨us', fun _ => none, h4.symm, by omega, owns_none hpl0, fun i q u hq hu w2 hw2 => h5 i q u _ hq hu (List.getElem?_eq_getElem (show i < ls.length by have := (List.getElem?_eq_some_iff.1 hu).1; omega)) w2 (fun k hk _ => hw2 k ?_ (fun _ _ h => by cases h)), rfl, ?_⟩
    · rcases hk.2 with h | h
      · exact .inl h
      · exact .inr ⟨h, hk.1⟩
    · exact ⟨hok.rel.same.1, hok.rel.same.2.1, hok.rel.same.2.2, hok.rel.size0, fun k hk => hok.rel.amb k hk (fun h => h)⟩
end Go.Proofs.Ytfcdbknmajfkaaa.eng
