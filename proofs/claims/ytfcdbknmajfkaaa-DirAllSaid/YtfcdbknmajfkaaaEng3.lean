/- The engine's operations on memory: loads, stores, new rows. -/
import Derived.Test.YtfcdbknmajfkaaaEng2
import Derived.Laws.IdiomStrings
import Derived.Laws.CopyRow
namespace Go.Proofs.Ytfcdbknmajfkaaa.eng
open Go
variable {W0 : Base}
set_option linter.unusedVariables false
set_option linter.unusedSimpArgs false

def verLen : List (Nat × Nat) → Nat → Option Nat
  | [], _ => none
  | (a, n) :: l, v => cond (Nat.beq a v) (some n) (verLen l v)
theorem verLen_mem : ∀ {l : List (Nat × Nat)} {v n : Nat}, verLen l v = some n → (v, n) ∈ l
  | (a, k) :: l, v, n, h => by
    simp only [verLen, cond_eq_ite, Nat.beq_eq] at h
    split at h
    · rename_i e; subst e; simp at h; subst h; simp
    · exact List.mem_cons_of_mem _ (verLen_mem h)

def look (st : St) (r v : Nat) : Option (ARoot × Nat) := (st.heap.get r).bind fun o => (verLen o.vers v).map fun n => (o, n)
theorem look_ok {st : St} {r v n : Nat} {o : ARoot} (h : look st r v = some (o, n)) : st.heap.get r = some o ∧ (v, n) ∈ o.vers := by
  simp only [look, Option.bind_eq_some_iff, Option.map_eq_some_iff] at h
  obtain ⟨o', ho, n', hn, he⟩ := h
  cases he
  exact ⟨ho, verLen_mem hn⟩

def cellsAt (o : ARoot) (off k : Nat) : List AV := (o.cells.drop off).take k

/-- A block that is a version of a root: its cells, read. -/
theorem Blk.cells {P : Program} {m : Map} {w : World} {o : ARoot} {b : Nat × Nat} {n : Nat} (h : Blk m w o b n) {off k : Nat} (hk : off + k ≤ n) :
    ∃ l : List Value, denL m (cellsAt o off k) = some l ∧ l.length = k ∧ (loadCells ⟨b.1, off, none⟩ k).run P w = .ok l.toArray w ∧ (∀ j v, l[j]? = some v → w.cell? ⟨b.1, off + j, none⟩ = some v) := by
  obtain ⟨c, fz, hc, _, hn, hs, hm, _⟩ := h
  have hlen : ((c.toList.drop off).take k).length = k := by simp; omega
  have hcell : ∀ j v, ((c.toList.drop off).take k)[j]? = some v → w.cell? ⟨b.1, off + j, none⟩ = some v := by
    intro j v hj
    have hj' : j < k := by
      have := (List.getElem?_eq_some_iff.1 hj).1
      omega
    rw [List.getElem?_take, if_pos hj', List.getElem?_drop] at hj
    simpa [World.cell?, hc] using hj
  refine ⟨(c.toList.drop off).take k, ?_, hlen, ?_, hcell⟩
  · refine denL_of_get (by simp [cellsAt]; omega) ?_
    intro i x hx
    have hi : i < k := by
      have := (List.getElem?_eq_some_iff.1 hx).1
      simp [cellsAt] at this
      omega
    rw [cellsAt, List.getElem?_take, if_pos hi, List.getElem?_drop] at hx
    obtain ⟨v, hv, hg⟩ := hm (off + i) x (by omega) hx
    exact ⟨v, hv, by rw [List.getElem?_take, if_pos hi, List.getElem?_drop]; simpa using hg⟩
  · have := run_loadCells_list (P := P) w ⟨b.1, off, none⟩ ((c.toList.drop off).take k) (fun j v hj => by rw [addr_add]; exact hcell j v hj)
    rwa [hlen] at this
theorem Blk.cell {m : Map} {w : World} {o : ARoot} {b : Nat × Nat} {n : Nat} (h : Blk m w o b n) {off : Nat} {y : AV} (hk : off + 1 ≤ n) (hy : o.cells[off]? = some y) :
    ∃ v, y.den m = some v ∧ w.cell? ⟨b.1, off, none⟩ = some v := by
  obtain ⟨c, fz, hc, _, hn, hs, hm, _⟩ := h
  obtain ⟨v, hv, hg⟩ := hm off y (by omega) hy
  exact ⟨v, hv, by simp [World.cell?, hc, hg]⟩

def aLoad (P : Program) (st : St) (t : TypeId) : AV → Option (AV × Log)
  | .ptr r v idx sz sub => (look st r v).bind fun (o, n) => (tyAgg P t).bind fun ag =>
    cond ag ((tySize P t).bind fun k => cond (Nat.ble (idx * sz + sub + k) n) (some (.agg (cellsAt o (idx * sz + sub) k), Log.sees r)) none)
      (cond (Nat.ble (idx * sz + sub + 1) n) ((o.cells[idx * sz + sub]?).map fun y => (y, Log.sees r)) none)
  | _ => none
theorem aLoad_ok {P : Program} {st : St} {t : TypeId} {x y : AV} {lg : Log} {A : Nat → Prop} {m : Map} {w : World} {u : Value} (h : aLoad P st t x = some (y, lg)) (hA : lg.Fits W0 A)
    (hR : Rel W0 A m st.heap.get w) (hx : x.den m = some u) : ∃ v, y.den m = some v ∧ (Instr.loadAt t u).run P w = .ok v w := by
  unfold aLoad at h
  split at h
  · rename_i r v idx sz sub
    simp only [Option.bind_eq_some_iff] at h
    obtain ⟨⟨o, n⟩, hl, ag, hag, h⟩ := h
    obtain ⟨ho, hv⟩ := look_ok hl
    simp only [AV.den, Option.map_eq_some_iff] at hx
    obtain ⟨b, hb, rfl⟩ := hx
    have hblk : A r → Blk m w o b n := fun ha => by
      obtain ⟨b', hb', hB⟩ := hR.blk r o ha ho v n hv
      rw [hb] at hb'; cases hb'; exact hB
    have hload : (Instr.loadAt t (.pointer (some ⟨b.1, idx * sz + sub, none⟩))).run P w = (loadVar t ⟨b.1, idx * sz + sub, none⟩).run P w := by simp [Instr.loadAt, Instr.sureAddr]
    rw [hload]
    unfold loadVar
    simp only [Sem.run_bind, run_isAgg_eng hag, Result.andThen_ok]
    cases ag with
    | true =>
      simp only [cond_true, Option.bind_eq_some_iff] at h
      obtain ⟨k, hk, h⟩ := h
      cases hle : Nat.ble (idx * sz + sub + k) n with
      | false => simp [hle] at h
      | true =>
        simp only [hle, cond_true, Option.some.injEq, Prod.mk.injEq] at h
        obtain ⟨rfl, rfl⟩ := h
        have ha : A r := hA.1 r (by simp [Log.sees, bit_one])
        obtain ⟨l, hd, _, hrun, _⟩ := (hblk ha).cells (P := P) (off := idx * sz + sub) (k := k) (Nat.le_of_ble_eq_true hle)
        exact ⟨.agg l.toArray, by simp [AV.den, hd], by simp [run_sizeOf_eng hk, hrun]⟩
    | false =>
      simp only [cond_false] at h
      cases hle : Nat.ble (idx * sz + sub + 1) n with
      | false => simp [hle] at h
      | true =>
        simp only [hle, cond_true, Option.map_eq_some_iff, Prod.mk.injEq] at h
        obtain ⟨z, hz, rfl, rfl⟩ := h
        have ha : A r := hA.1 r (by simp [Log.sees, bit_one])
        obtain ⟨q, hq, hc⟩ := (hblk ha).cell (Nat.le_of_ble_eq_true hle) hz
        exact ⟨q, hq, by simp [hc]⟩
  · cases h

/-! Stores. -/
theorem run_storeCells_eng (P : Program) (g o : Nat) (t : TypeId) (fz : Nat × Nat) : ∀ (vs : List Value) (i : Nat) (cur : Array Value) (w : World), w.heap[g]? = some (.cells cur t fz) → (∀ j, j < cur.size → ¬ (fz.1 ≤ j ∧ j < fz.2)) → o + i + vs.length ≤ cur.size → (∀ v ∈ vs, v.oneCell' = true) →
    (storeCells ⟨g, o, none⟩ vs i).run P w = .ok () (w.setRow g (cur.toList.take (o + i) ++ vs ++ cur.toList.drop (o + i + vs.length)).toArray)
  | [], i, cur, w, hg, _, _, _ => by
    simp only [storeCells, List.append_nil, List.length_nil, Nat.add_zero, List.take_append_drop, Array.toArray_toList]
    rw [setRow_self w g cur t fz hg]
    rfl
  | v :: rest, i, cur, w, hg, hfz, hl, h1 => by
    have hi : o + i < cur.size := by simp at hl; omega
    have hadd : (⟨g, o, none⟩ : Addr).add i = ⟨g, o + i, none⟩ := addr_add _ _ _
    have hcell : w.cell? ⟨g, o + i, none⟩ = some cur[o + i] := by simp [World.cell?, hg, hi]
    have hfro : w.frozen? ⟨g, o + i, none⟩ = false := by
      obtain ⟨lo, hi'⟩ := fz
      have := hfz (o + i) hi
      simp only [World.frozen?, hg, Bool.and_eq_false_iff, decide_eq_false_iff_not]
      simp only at this
      omega
    have hst : (store ((⟨g, o, none⟩ : Addr).add i) v).run P w = .ok () (w.setRow g (cur.setIfInBounds (o + i) v)) := by
      rw [hadd, run_store P w _ v _ (h1 v (by simp)), hcell]
      simp [hfro, setCell_eq_setRow w g (o + i) cur t fz v hg]
    have ih := run_storeCells_eng P g o t fz rest (i + 1) (cur.setIfInBounds (o + i) v) (w.setRow g (cur.setIfInBounds (o + i) v)) (setRow_heap w g cur _ t _ hg) (by simpa using hfz) (by simp at hl ⊢; omega) (fun x hx => h1 x (by simp [hx]))
    simp only [storeCells, Sem.run_bind, hst, Result.andThen_ok, ih, setRow_setRow]
    congr 3
    have e := list_seg_step cur.toList (o + i) v rest (by simp at hl ⊢; omega)
    simpa [Array.toList_setIfInBounds, Nat.add_assoc] using e

def AV.one : AV → Bool
  | .val (.agg _) | .val (.tuple _) | .agg _ | .tuple _ => false
  | _ => true
theorem one_ok {m : Map} {x : AV} {v : Value} (h : x.one = true) (hx : x.den m = some v) : v.oneCell' = true := by
  cases x with
  | val u => simp only [AV.den, Option.some.injEq] at hx; subst hx; cases u <;> simp_all [AV.one, Value.oneCell']
  | agg cs => simp [AV.one] at h
  | tuple cs => simp [AV.one] at h
  | ptr r v idx sz sub => simp only [AV.den, Option.map_eq_some_iff] at hx; obtain ⟨b, hb, rfl⟩ := hx; rfl
  | slice r v lo sz len cap opn => simp only [AV.den, Option.map_eq_some_iff] at hx; obtain ⟨b, hb, rfl⟩ := hx; rfl
  | dat r =>
    simp only [AV.den, Option.bind_eq_some_iff] at hx
    obtain ⟨b, hb, he⟩ := hx
    cases hone : b.1.oneCell' with
    | false => simp [hone] at he
    | true => simp only [hone, cond_true, Option.some.injEq] at he; subst he; exact hone
  | ptrD r e sz sub =>
    simp only [AV.den, Option.bind_eq_some_iff] at hx
    obtain ⟨b, hb, i, hi, n, hn, he⟩ := hx
    unfold elemAt at he
    split at he
    · cases he; rfl
    · cases he
  | sliceS r v lo len sz =>
    simp only [AV.den, Option.bind_eq_some_iff, Option.map_eq_some_iff] at hx
    obtain ⟨b, hb, l, hl, n, hn, l', hl', n', hn', rfl⟩ := hx
    rfl
  | ptrS r v e sz sub =>
    simp only [AV.den, Option.bind_eq_some_iff, Option.map_eq_some_iff] at hx
    obtain ⟨b, hb, i, hi, n, hn, rfl⟩ := hx
    rfl
  | sym e =>
    simp only [AV.den, Option.bind_eq_some_iff] at hx
    obtain ⟨b, hb, he⟩ := hx
    cases hone : b.oneCell' with
    | false => simp [hone] at he
    | true => simp only [hone, cond_true, Option.some.injEq] at he; subst he; exact hone
  | func fn f c => simp only [AV.den, Option.bind_eq_some_iff, Option.map_eq_some_iff] at hx; obtain ⟨a, ha, b, hb, rfl⟩ := hx; rfl
  | iface t y => simp only [AV.den, Option.map_eq_some_iff] at hx; obtain ⟨b, hb, rfl⟩ := hx; rfl

def St.put (st : St) (r : Nat) (o : ARoot) : Option St := cond (Nat.blt (r + 1) 16777216) (some { st with heap := st.heap.set 24 r (some o) }) none
theorem put_ok {st st' : St} {r : Nat} {o : ARoot} (h : st.put r o = some st') : st'.heap.get = Heap.upd st.heap.get r o ∧ st'.next = st.next := by
  simp only [St.put, cond_eq_ite] at h
  split at h
  · rename_i hb
    cases h
    refine ⟨funext fun k => ?_, rfl⟩
    rw [T.get_set _ _ _ _ _ (by have h1 : r + 1 < 16777216 := by simpa using hb
                                exact h1)]
    rfl
  · cases h

/-- Cells into a root, at its newest version. -/
def aPutCells (st : St) (r v off : Nat) (ys : List AV) : Option (St × Log) :=
  (st.heap.get r).bind fun o => match o.vers with
    | (v', n) :: _ => cond (Nat.beq v v' && !o.ro && Nat.ble (off + ys.length) n && ys.all AV.one)
        ((st.put r { o with cells := o.cells.take off ++ ys ++ o.cells.drop (off + ys.length), vers := [(v, n)], dat := none, sym := none }).map fun st' => (st', Log.turns r)) none
    | [] => none
theorem aPutCells_ok {P : Program} {st st' : St} {r v off : Nat} {ys : List AV} {lg : Log} {A : Nat → Prop} {m : Map} {w : World} {b : Nat × Nat} {vs : List Value} (h : aPutCells st r v off ys = some (st', lg)) (hA : lg.Fits W0 A)
    (hR : Rel W0 A m st.heap.get w) (hF : Fresh A m st.next) (hb : m r v = some b) (hy : denL m ys = some vs) :
    ∃ w', (storeCells ⟨b.1, off, none⟩ vs).run P w = .ok () w' ∧ Ok W0 A m st w m st' lg w' := by
  simp only [aPutCells, Option.bind_eq_some_iff] at h
  obtain ⟨o, ho, h⟩ := h
  split at h
  · rename_i v' n rest hvers
    simp only [cond_eq_ite, Bool.and_eq_true, Nat.beq_eq, Nat.ble_eq, List.all_eq_true] at h
    split at h
    · rename_i hc
      obtain ⟨⟨⟨rfl, hro⟩, hle⟩, hone⟩ := hc
      simp only [Option.map_eq_some_iff] at h
      obtain ⟨s1, hp, he⟩ := h
      cases he
      have ha : A r := hA.1 r (by simp [Log.turns, bit_one])
      obtain ⟨hput, hnext⟩ := put_ok hp
      obtain ⟨b', hb', hB⟩ := hR.blk r o ha ho v n (by rw [hvers]; simp)
      rw [hb] at hb'; cases hb'
      have hB' := hB
      obtain ⟨c, fz, hc, hfz, hn, hs, hm, hsz⟩ := hB
      have hvl : vs.length = ys.length := denL_length hy
      have hrun := run_storeCells_eng P b.1 off o.elem fz vs 0 c w hc hfz (by omega) (fun x hx => by
        obtain ⟨i, hi, rfl⟩ := List.getElem_of_mem hx
        have hi' : i < ys.length := by omega
        obtain ⟨v, hv, hg⟩ := denL_get hy (List.getElem?_eq_getElem hi')
        have : vs[i] = v := by rw [List.getElem?_eq_getElem hi] at hg; exact Option.some.inj hg
        rw [this]
        exact one_ok (hone _ (List.getElem_mem hi')) hv)
      simp only [Nat.add_zero] at hrun
      refine ⟨_, hrun, ⟨?_, ?_⟩⟩
      · rw [hput]
        have hlen : (List.take off c.toList ++ vs ++ List.drop (off + vs.length) c.toList).length = c.size := by simp; omega
        refine Step.more (T1 := fun k => k = r) (Step.put hR ha (Map.Le.refl m) (fun _ _ _ => rfl) rfl rfl (fun o2 _ _ _ ho2 _ _ => by rw [ho] at ho2; cases ho2; simpa using hro) rfl (fun _ _ _ _ he _ _ => by simp at he) (fun o2 _ _ _ ho2 _ _ => by rw [ho] at ho2; cases ho2; rfl) (fun _ v1 n1 b1 hv1 hb1 => by
          simp only [List.mem_singleton, Prod.mk.injEq] at hv1
          obtain ⟨rfl, rfl⟩ := hv1
          exact hR.lt ha ho (show (v1, n1) ∈ o.vers by rw [hvers]; simp) hb1) rfl rfl rfl (by simp) ?_ ?_ ?_ ?_) (fun k hk => by simp only [Log.turns]; rw [bit_one]; exact hk)
        · intro k _ hno
          exact setRow_other w b.1 k _ (fun e => hno o v n b ho (by rw [hvers]; simp) hb e.symm)
        · intro v1 n1 hv1
          simp only [List.mem_singleton, Prod.mk.injEq] at hv1
          obtain ⟨rfl, rfl⟩ := hv1
          refine ⟨b, hb, _, fz, setRow_heap w b.1 c _ o.elem fz hc, ?_, ?_, ?_, ?_, ?_⟩
          · intro i hi
            exact hfz i (by simp at hi; omega)
          · simp; omega
          · simp; omega
          · intro i x hi hx
            simp only [List.getElem?_append, List.getElem?_take, List.getElem?_drop, List.length_append, List.length_take] at hx
            simp only [List.getElem?_toArray, List.getElem?_append, List.getElem?_take, List.getElem?_drop, List.length_append, List.length_take, Array.length_toList]
            rw [show min off o.cells.length = off by omega] at hx
            rw [show min off c.size = off by omega, hvl]
            by_cases h1 : i < off
            · rw [if_pos (by omega), if_pos h1, if_pos h1] at hx
              rw [if_pos (by omega), if_pos h1, if_pos h1]
              simpa using hm i x hi hx
            · by_cases h2 : i < off + ys.length
              · rw [if_pos h2, if_neg h1] at hx
                rw [if_pos h2, if_neg h1]
                exact denL_get hy hx
              · rw [if_neg h2] at hx
                rw [if_neg h2]
                rw [show off + ys.length + (i - (off + ys.length)) = i by omega] at hx ⊢
                simpa using hm i x hi hx
          · cases hop : o.opn with
            | true => simp [hop] at hsz ⊢; omega
            | false => simp [hop] at hsz ⊢; omega
        · intro v1 n1 rest1 he v2 hlt
          simp only [List.cons.injEq, Prod.mk.injEq] at he
          obtain ⟨⟨rfl, rfl⟩, _⟩ := he
          exact hR.top r o v n rest ha ho hvers v2 hlt
        · intro v1 n1 b1 hv1 hb1 _
          simp only [List.mem_singleton, Prod.mk.injEq] at hv1
          obtain ⟨rfl, rfl⟩ := hv1
          rw [hb] at hb1; cases hb1
          exact ⟨o, v1, n1, b, ho, by rw [hvers]; simp, hb, rfl⟩
      · rw [hnext]; exact hF
    · cases h
  · cases h

def aStore (P : Program) (st : St) (t : TypeId) (x y : AV) : Option (St × Log) := match x with
  | .ptr r v idx sz sub => cond (tySize P t == some y.cellsOf.length) (aPutCells st r v (idx * sz + sub) y.cellsOf) none
  | _ => none
theorem aStore_ok {P : Program} {st st' : St} {t : TypeId} {x y : AV} {lg : Log} {A : Nat → Prop} {m : Map} {w : World} {u q : Value} (h : aStore P st t x y = some (st', lg)) (hA : lg.Fits W0 A)
    (hR : Rel W0 A m st.heap.get w) (hF : Fresh A m st.next) (hx : x.den m = some u) (hy : y.den m = some q) : ∃ w', (Instr.storeAt t u q).run P w = .ok () w' ∧ Ok W0 A m st w m st' lg w' := by
  unfold aStore at h
  split at h
  · rename_i r v idx sz sub
    simp only [cond_eq_ite, beq_iff_eq] at h
    split at h
    · rename_i hs
      simp only [AV.den, Option.map_eq_some_iff] at hx
      obtain ⟨b, hb, rfl⟩ := hx
      have hc := cellsOf_ok hy
      obtain ⟨w', hrun, hok⟩ := aPutCells_ok (P := P) h hA hR hF hb hc
      refine ⟨w', ?_, hok⟩
      have hl : q.cells.size = y.cellsOf.length := by simpa using denL_length hc
      simp [Instr.storeAt, Instr.sureAddr, storeVar, run_sizeOf_eng hs, hl, hrun]
    · cases h
  · cases h

/-! New rows. -/
def Map.new (m : Map) (r : Nat) (b : Nat × Nat) : Map := ⟨fun k v => if k = r ∧ v = 0 then some b else m k v, m.d, m.s⟩
def St.alloc (st : St) (cells : List AV) (elem : TypeId) (esz : Nat) (opn : Bool) : Option (St × Log) :=
  (St.put { st with next := st.next + 1 } st.next { cells, elem, esz, ro := false, opn, vers := [(0, cells.length)] }).map fun st' => (st', Log.turns st.next)
theorem alloc_ok {st st' : St} {cells : List AV} {elem : TypeId} {esz : Nat} {opn : Bool} {lg : Log} {A : Nat → Prop} {m : Map} {w w' : World} {tot : Nat} {c : Array Value} {fz : Nat × Nat} (h : st.alloc cells elem esz opn = some (st', lg)) (hA : lg.Fits W0 A)
    (hR : Rel W0 A m st.heap.get w) (hF : Fresh A m st.next) (hos : w'.os = w.os) (htape : w'.tape = w.tape) (hout : w'.output = w.output) (hsize : w.heap.size ≤ w'.heap.size) (hkeep : ∀ k, k < w.heap.size → w'.heap[k]? = w.heap[k]?)
    (hnew : w'.heap[w.heap.size]? = some (.cells c elem fz)) (hfz : ∀ i, i < c.size → ¬ (fz.1 ≤ i ∧ i < fz.2)) (hcs : ∀ (i : Nat) (x : AV), cells[i]? = some x → ∃ v, x.den m = some v ∧ c[i]? = some v) (hsz : cond opn (c.size = tot * esz ∧ tot ≤ 9223372036854775807) (c.size = cells.length)) :
    Ok W0 A m st w (m.new st.next (w.heap.size, tot)) st' lg w' := by
  simp only [St.alloc, Option.map_eq_some_iff] at h
  obtain ⟨s1, hp, he⟩ := h
  cases he
  obtain ⟨hput, hnext⟩ := put_ok hp
  have ha : A st.next := hA.1 _ (by simp [Log.turns, bit_one])
  have hle : m.Le (m.new st.next (w.heap.size, tot)) := ⟨fun r v b hb => by
    show (if r = st.next ∧ v = 0 then some (w.heap.size, tot) else m r v) = some b
    split
    · rename_i e
      rw [e.1, (hF st.next ha (Nat.le_refl _)).1 v] at hb
      cases hb
    · exact hb, fun _ _ h => h, fun _ _ h => h⟩
  have hcn : cells.length ≤ c.size := by
    rcases Nat.lt_or_ge c.size cells.length with hlt | hge
    · obtain ⟨v, _, hv⟩ := hcs c.size _ (List.getElem?_eq_getElem hlt)
      simp at hv
    · exact hge
  refine ⟨?_, ?_⟩
  · rw [hput]
    refine Step.more (T1 := fun k => k = st.next) (Step.put (r := st.next) hR ha hle (fun k hk v => by simp [Map.new, hk]) rfl rfl (fun _ v _ _ _ _ hb => by rw [(hF st.next ha (Nat.le_refl _)).1 v] at hb; cases hb) rfl (fun _ _ _ _ he _ _ => by simp at he) (fun _ v _ _ _ _ hb => by rw [(hF st.next ha (Nat.le_refl _)).1 v] at hb; cases hb) (fun hl => by cases hl) hos htape hout hsize (fun k hk _ => hkeep k hk) ?_ ?_ ?_) (fun k hk => by simp only [Log.turns]; rw [bit_one]; exact hk)
    · intro v n hv
      simp only [List.mem_singleton, Prod.mk.injEq] at hv
      obtain ⟨rfl, rfl⟩ := hv
      refine ⟨(w.heap.size, tot), by simp [Map.new], c, fz, hnew, hfz, Nat.le_refl _, hcn, fun i x _ hx => ?_, hsz⟩
      obtain ⟨v, hv, hg⟩ := hcs i x hx
      exact ⟨v, AV.den_mono hle x hv, hg⟩
    · intro v n rest he v' hlt
      simp only [List.cons.injEq, Prod.mk.injEq] at he
      obtain ⟨⟨rfl, _⟩, _⟩ := he
      have : ¬ v' = 0 := by omega
      simp [Map.new, this, (hF st.next ha (Nat.le_refl _)).1]
    · intro v n b hv hb hlt
      simp only [List.mem_singleton, Prod.mk.injEq] at hv
      obtain ⟨rfl, rfl⟩ := hv
      simp [Map.new] at hb
      subst hb
      simp at hlt
  · intro r hra hr
    rw [hnext] at hr
    have : ¬ r = st.next := by simp at hr; omega
    have h := hF r hra (by simp at hr; omega)
    refine ⟨fun v => ?_, h.2⟩
    simp only [Map.new, this, false_and, if_false]
    exact h.1 v

/-- A new variable of such a value. -/
def aNew (st : St) (elem : TypeId) (y : AV) : Option (AV × St × Log) :=
  (st.alloc y.cellsOf elem 0 false).map fun (st', lg) => (.ptr st.next 0 0 0 0, st', lg)
theorem run_newVar (P : Program) (t : TypeId) (v : Value) (w : World) : (newVar t v).run P w = .ok ⟨w.heap.size, 0, none⟩ { w with heap := w.heap.push (.cells v.cells t) } := rfl
theorem aNew_ok {P : Program} {st st' : St} {elem : TypeId} {y z : AV} {lg : Log} {A : Nat → Prop} {m : Map} {w : World} {q : Value} (h : aNew st elem y = some (z, st', lg)) (hA : lg.Fits W0 A)
    (hR : Rel W0 A m st.heap.get w) (hF : Fresh A m st.next) (hy : y.den m = some q) : ∃ m' w' v, z.den m' = some (.pointer (some v)) ∧ (newVar elem q).run P w = .ok v w' ∧ Ok W0 A m st w m' st' lg w' := by
  simp only [aNew, Option.map_eq_some_iff] at h
  obtain ⟨⟨s1, l1⟩, hal, he⟩ := h
  cases he
  have hc := cellsOf_ok hy
  refine ⟨m.new st.next (w.heap.size, 0), { w with heap := w.heap.push (.cells q.cells elem) }, ⟨w.heap.size, 0, none⟩, by simp [AV.den, Map.new], run_newVar P elem q w,
    alloc_ok (c := q.cells) (fz := (0, 0)) hal hA hR hF rfl rfl rfl (by simp) (fun k hk => by simp [Array.getElem?_push, Nat.ne_of_lt hk]) (by simp) (fun i _ => by omega) (fun i x hx => ?_) ?_⟩
  · obtain ⟨v, hv, hg⟩ := denL_get hc hx
    exact ⟨v, hv, by simpa using hg⟩
  · simpa using denL_length hc

end Go.Proofs.Ytfcdbknmajfkaaa.eng
