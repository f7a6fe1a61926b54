/- The engine: rows of the call's own of unknown length. -/
import Derived.Test.YtfcdbknmajfkaaaEng8b
import Derived.Laws.MakeOwn
namespace Go.Proofs.Ytfcdbknmajfkaaa.eng
open Go Go.RowKit
variable {W0 : Base}
set_option linter.unusedVariables false
set_option linter.unusedSimpArgs false

def symRoot (e : SX) (elem : TypeId) (esz v : Nat) : ARoot := { cells := [], elem := elem, esz := esz, ro := false, opn := true, vers := [(v, 0)], dat := none, sym := some e }
def lookS (st : St) (r v : Nat) : Option (SX × TypeId × Nat) := (st.heap.get r).bind fun o => o.sym.bind fun e => match o.vers with
  | [(v', 0)] => cond (Nat.beq v v' && !o.ro && !o.lent) (some (e, o.elem, o.esz)) none
  | _ => none
theorem lookS_ok {st : St} {r v : Nat} {e : SX} {el : TypeId} {sz : Nat} (h : lookS st r v = some (e, el, sz)) : ∃ o, st.heap.get r = some o ∧ o.sym = some e ∧ o.vers = [(v, 0)] ∧ o.ro = false ∧ o.elem = el ∧ o.esz = sz ∧ o.lent = false := by
  simp only [lookS, Option.bind_eq_some_iff] at h
  obtain ⟨o, ho, e', he, h⟩ := h
  split at h
  · rename_i v' hv
    simp only [cond_eq_ite, Bool.and_eq_true, Nat.beq_eq, Bool.not_eq_true'] at h
    split at h
    · rename_i hc
      obtain ⟨⟨rfl, hro⟩, hlt⟩ := hc
      cases h
      exact ⟨o, ho, he, hv, hro, rfl, rfl, hlt⟩
    · cases h
  · cases h
theorem lookS_row {st : St} {r v : Nat} {e : SX} {el : TypeId} {sz : Nat} {A : Nat → Prop} {m : Map} {w : World} {b : Nat × Nat} (h : lookS st r v = some (e, el, sz)) (hR : Rel W0 A m st.heap.get w) (ha : A r) (hb : m r v = some b) :
    ∃ (n : Nat) (cs : List PV) (c : Array Value) (fz : Nat × Nat), W0.ev e = some (.row n cs) ∧ w.heap[b.1]? = some (.cells c el fz) ∧ (∀ i, i < c.size → ¬ (fz.1 ≤ i ∧ i < fz.2)) ∧ 0 < sz ∧ cs.length = n * sz ∧ n ≤ b.2 ∧ c.size = b.2 * sz ∧ b.2 ≤ maxLen ∧
      ∀ (i : Nat) (p : PV), cs[i]? = some p → ∃ v : Value, p = PV.v v ∧ v.oneCell' = true ∧ c[i]? = some v := by
  obtain ⟨o, ho, hs, hv, hro, rfl, rfl, _⟩ := lookS_ok h
  exact hR.row r o e v 0 b ha ho hs (by rw [hv]; simp) hb
theorem maxLen_le {n : Nat} (h : n ≤ maxLen) : n ≤ 9223372036854775807 := by
  have : maxLen = 9223372036854775807 := by unfold maxLen; simp [IntKind.max]
  omega
theorem RowAt.blk {w : World} {e : SX} {el : TypeId} {sz v : Nat} {b : Nat × Nat} {m : Map} (h : RowAt W0 w (symRoot e el sz v) b e) : Blk m w (symRoot e el sz v) b 0 := by
  obtain ⟨n, cs, c, fz, h1, h2, h3, h4, h5, h6, h7, h8, h9⟩ := h
  exact ⟨c, fz, h2, h3, Nat.zero_le _, Nat.zero_le _, fun i x hi => by omega, h7, maxLen_le h8⟩
/-- Such a row is put anew. -/
theorem ownPut {A : Nat → Prop} {m : Map} {st st' : St} {w w' : World} {r v v' : Nat} {b b' : Nat × Nat} {e e' : SX} {el : TypeId} {sz : Nat} (hR : Rel W0 A m st.heap.get w) (hF : Fresh A m st.next) (hl : lookS st r v = some (e, el, sz)) (ha : A r) (hb : m r v = some b)
    (hp : st.put r (symRoot e' el sz v') = some st') (hv : (v' = v ∧ b' = b) ∨ v' = v + 1) (hos : w'.os = w.os) (htape : w'.tape = w.tape) (hout : w'.output = w.output) (hsize : w.heap.size ≤ w'.heap.size) (hkeep : ∀ k, k < w.heap.size → k ≠ b.1 → w'.heap[k]? = w.heap[k]?)
    (hb' : b'.1 = b.1 ∨ b'.1 = w.heap.size) (hrow : RowAt W0 w' (symRoot e' el sz v') b' e') : (m.new2 r v' b') r v' = some b' ∧ Ok W0 A m st w (m.new2 r v' b') st' (Log.turns r) w' := by
  obtain ⟨o, ho, hs, hvs, hro, rfl, rfl, hlt0⟩ := lookS_ok hl
  obtain ⟨hput, hnext⟩ := put_ok hp
  have htop : ∀ k, v < k → m r k = none := fun k hk => hR.top r o v 0 [] ha ho hvs k hk
  have hle : m.Le (m.new2 r v' b') := ⟨fun k v1 x hx => by
    show (if k = r ∧ v1 = v' then some b' else m k v1) = some x
    split
    · rename_i hc
      rw [hc.1, hc.2] at hx
      rcases hv with ⟨h1, h2⟩ | h1
      · rw [h1, hb] at hx; rw [h2]; exact hx
      · rw [h1, htop _ (Nat.lt_succ_self v)] at hx; cases hx
    · exact hx, fun _ _ h => h, fun _ _ h => h⟩
  refine ⟨by simp [Map.new2], ⟨?_, ?_⟩⟩
  · rw [hput]
    refine Step.more (T1 := fun k => k = r) (Step.put hR ha hle (fun k hk v1 => by simp [Map.new2, hk]) rfl rfl (fun o2 _ _ _ ho2 _ _ => by rw [ho] at ho2; cases ho2; exact hro) rfl ?_ (fun o2 _ _ _ ho2 _ _ => by rw [ho] at ho2; cases ho2; exact hlt0.symm) (fun hl => by cases hl) hos htape hout hsize ?_ ?_ ?_ ?_) (fun k hk => by simp only [Log.turns]; rw [bit_one]; exact hk)
    · intro e1 v1 n1 b1 he hv1 hb1
      simp only [symRoot, Option.some.injEq] at he
      subst he
      simp only [symRoot, List.mem_singleton, Prod.mk.injEq] at hv1
      obtain ⟨rfl, rfl⟩ := hv1
      simp only [Map.new2, and_self, if_true, Option.some.injEq] at hb1
      subst hb1
      exact hrow
    · intro k hk hno
      exact hkeep k hk (fun e => hno o v 0 b ho (by rw [hvs]; simp) hb e.symm)
    · intro v1 n1 hv1
      simp only [symRoot, List.mem_singleton, Prod.mk.injEq] at hv1
      obtain ⟨rfl, rfl⟩ := hv1
      exact ⟨b', by simp [Map.new2], hrow.blk⟩
    · intro v1 n1 rest he v2 hlt
      simp only [symRoot, List.cons.injEq, Prod.mk.injEq] at he
      obtain ⟨⟨rfl, _⟩, _⟩ := he
      have : ¬ v2 = v' := by omega
      simp only [Map.new2, this, and_false, if_false]
      exact htop v2 (by rcases hv with ⟨h1, _⟩ | h1 <;> omega)
    · intro v1 n1 b1 hv1 hb1 hlt
      simp only [symRoot, List.mem_singleton, Prod.mk.injEq] at hv1
      obtain ⟨rfl, rfl⟩ := hv1
      simp only [Map.new2, and_self, if_true, Option.some.injEq] at hb1
      subst hb1
      rcases hb' with h | h
      · exact ⟨o, v, 0, b, ho, by rw [hvs]; simp, hb, h.symm⟩
      · omega
  · intro r' hra hr'
    rw [hnext] at hr'
    have hne : r' ≠ r := by
      intro e
      subst e
      rw [(hF r' hra hr').1 v] at hb
      cases hb
    exact ⟨fun v1 => by simp [Map.new2, hne, (hF r' hra hr').1 v1], (hF r' hra hr').2⟩

def c0 : SX := .con (.int .i64 0)
def isC0 : SX → Bool | .con (.int .i64 (.ofNat n)) => Nat.beq n 0 | _ => false
theorem isC0_ok {e : SX} (h : isC0 e = true) : W0.ev e = some (.v (.int .i64 0)) := by
  unfold isC0 at h
  split at h
  · simp only [Nat.beq_eq] at h; subst h; rfl
  · cases h
theorem sv_int {e : SX} {n : Nat} (h : W0.ev e = some (.v (.int .i64 (n : Int)))) : W0.sv e = some (.int .i64 (n : Int)) := ev_sv h
theorem ev_len {e : SX} {n : Nat} {cs : List PV} (h : W0.ev e = some (.row n cs)) : W0.ev (.len e) = some (.v (.int .i64 (n : Int))) := by
  have h' : e.ev W0.s W0.F = some (.row n cs) := h
  simp [Base.ev, SX.ev, h', lenPV]
theorem wholeS {m : Map} (hs : ∀ e, m.s e = W0.sv e) {r v : Nat} {b : Nat × Nat} {lo len : SX} {l n sz : Nat} (hb : m r v = some b) (hl : W0.ev lo = some (.v (.int .i64 (l : Int)))) (hn : W0.ev len = some (.v (.int .i64 (n : Int)))) :
    (AV.sliceS r v lo len sz).den m = some (.slice (some ⟨b.1, l * sz, none⟩) n (b.2 - l)) := by
  simp only [AV.den, hb, hs, sv_int hl, sv_int hn, Option.bind_some, natI, Option.map_some]
theorem sliceS_inv {m : Map} (hs : ∀ e, m.s e = W0.sv e) {r v sz : Nat} {lo len : SX} {u : Value} (h : (AV.sliceS r v lo len sz).den m = some u) :
    ∃ b l n, m r v = some b ∧ W0.ev lo = some (.v (.int .i64 ((l : Nat) : Int))) ∧ W0.ev len = some (.v (.int .i64 ((n : Nat) : Int))) ∧ u = .slice (some ⟨b.1, l * sz, none⟩) n (b.2 - l) := by
  simp only [AV.den, Option.bind_eq_some_iff, Option.map_eq_some_iff] at h
  obtain ⟨b, hb, l, hl, n, hn, l', hl', n', hn', rfl⟩ := h
  rw [hs] at hl hn
  rw [natI_ok hl'] at hl
  rw [natI_ok hn'] at hn
  exact ⟨b, l', n', hb, sv_ev hl, sv_ev hn, rfl⟩

/-- A new one. -/
def St.allocS (st : St) (e : SX) (elem : TypeId) (esz : Nat) : Option (AV × St × Log) := (St.put { st with next := st.next + 1 } st.next (symRoot e elem esz 0)).map fun st' => (.sliceS st.next 0 c0 (.len e) esz, st', Log.turns st.next)
theorem allocS_ok {A : Nat → Prop} {m : Map} {st st' : St} {w w' : World} {e : SX} {el : TypeId} {sz tot n : Nat} {cs : List PV} {y : AV} {lg : Log} (h : st.allocS e el sz = some (y, st', lg)) (hA : lg.Fits W0 A) (hR : Rel W0 A m st.heap.get w) (hF : Fresh A m st.next)
    (hos : w'.os = w.os) (htape : w'.tape = w.tape) (hout : w'.output = w.output) (hsize : w.heap.size ≤ w'.heap.size) (hkeep : ∀ k, k < w.heap.size → w'.heap[k]? = w.heap[k]?) (hev : W0.ev e = some (.row n cs)) (hrow : RowAt W0 w' (symRoot e el sz 0) (w.heap.size, tot) e) :
    y.den (m.new st.next (w.heap.size, tot)) = some (.slice (some ⟨w.heap.size, 0, none⟩) n tot) ∧ Ok W0 A m st w (m.new st.next (w.heap.size, tot)) st' lg w' := by
  simp only [St.allocS, Option.map_eq_some_iff] at h
  obtain ⟨s1, hp, he⟩ := h
  cases he
  obtain ⟨hput, hnext⟩ := put_ok hp
  have ha : A st.next := hA.1 _ (by simp [Log.turns, bit_one])
  have hle : m.Le (m.new st.next (w.heap.size, tot)) := ⟨fun r v b hb => by
    show (if r = st.next ∧ v = 0 then some (w.heap.size, tot) else m r v) = some b
    split
    · rename_i e
      rw [e.1, (hF st.next ha (Nat.le_refl _)).1 v] at hb
      cases hb
    · exact hb, fun _ _ h => h, fun _ _ h => h⟩
  refine ⟨?_, ?_, ?_⟩
  · have := wholeS (W0 := W0) (m := m.new st.next (w.heap.size, tot)) (r := st.next) (v := 0) (b := (w.heap.size, tot)) (lo := c0) (len := .len e) (l := 0) (sz := sz) hR.sv (by simp [Map.new]) rfl (ev_len hev)
    simpa using this
  · rw [hput]
    refine Step.more (T1 := fun k => k = st.next) (Step.put (r := st.next) hR ha hle (fun k hk v => by simp [Map.new, hk]) rfl rfl (fun _ v _ _ _ _ hb => by rw [(hF st.next ha (Nat.le_refl _)).1 v] at hb; cases hb) rfl ?_ (fun _ v _ _ _ _ hb => by rw [(hF st.next ha (Nat.le_refl _)).1 v] at hb; cases hb) (fun hl => by cases hl) hos htape hout hsize (fun k hk _ => hkeep k hk) ?_ ?_ ?_) (fun k hk => by simp only [Log.turns]; rw [bit_one]; exact hk)
    · intro e1 v1 n1 b1 he hv1 hb1
      simp only [symRoot, Option.some.injEq] at he
      subst he
      simp only [symRoot, List.mem_singleton, Prod.mk.injEq] at hv1
      obtain ⟨rfl, rfl⟩ := hv1
      simp only [Map.new, and_self, if_true, Option.some.injEq] at hb1
      subst hb1
      exact hrow
    · intro v1 n1 hv1
      simp only [symRoot, List.mem_singleton, Prod.mk.injEq] at hv1
      obtain ⟨rfl, rfl⟩ := hv1
      exact ⟨_, by simp [Map.new], hrow.blk⟩
    · intro v1 n1 rest he v2 hlt
      simp only [symRoot, List.cons.injEq, Prod.mk.injEq] at he
      obtain ⟨⟨rfl, _⟩, _⟩ := he
      have : ¬ v2 = 0 := by omega
      simp [Map.new, this, (hF st.next ha (Nat.le_refl _)).1]
    · intro v1 n1 b1 hv1 hb1 hlt
      simp only [symRoot, List.mem_singleton, Prod.mk.injEq] at hv1
      obtain ⟨rfl, rfl⟩ := hv1
      simp [Map.new] at hb1
      subst hb1
      simp at hlt
  · intro r hra hr
    rw [hnext] at hr
    have : ¬ r = st.next := by simp at hr; omega
    have h := hF r hra (by simp at hr; omega)
    refine ⟨fun v => ?_, h.2⟩
    simp only [Map.new, this, false_and, if_false]
    exact h.1 v

/-! Loads. -/
def symCells (e i : SX) (sz : Nat) : Nat → Nat → List AV
  | _, 0 => []
  | q, k + 1 => .sym (.cell e i sz q) :: symCells e i sz (q + 1) k
def aLoadS (P : Program) (st : St) (t : TypeId) : AV → Option (AV × Log)
  | .ptrS r v i sz q => (lookS st r v).bind fun (e, el, esz) => (tyAgg P t).bind fun ag => (tySize P t).bind fun k => cond (Nat.beq esz sz && (ag || Nat.beq k 1))
      (some (cond ag (.agg (symCells e i sz q k)) (.sym (.cell e i sz q)), (Log.sees r).or (Log.says (.idx e i sz (q + k))))) none
  | _ => none
theorem symCells_den {m : Map} (hs : ∀ e, m.s e = W0.sv e) {e i : SX} {sz : Nat} : ∀ (k q : Nat) {vs : List Value}, vs.length = k → (∀ j v, vs[j]? = some v → W0.ev (.cell e i sz (q + j)) = some (.v v) ∧ v.oneCell' = true) → denL m (symCells e i sz q k) = some vs
  | 0, q, vs, hl, _ => by
    obtain rfl : vs = [] := List.eq_nil_of_length_eq_zero hl
    rfl
  | k + 1, q, v :: vs, hl, h => by
    obtain ⟨h1, h2⟩ := h 0 v rfl
    rw [Nat.add_zero] at h1
    have ih := symCells_den hs k (q + 1) (vs := vs) (by simpa using hl) (fun j u hj => by
      have := h (j + 1) u (by simpa using hj)
      rwa [show q + (j + 1) = q + 1 + j by omega] at this)
    simp [symCells, denL, ih, ev_sym hs h1 h2]
  | k + 1, q, [], hl, h => by simp at hl
theorem ev_cell {e i : SX} {sz n q : Nat} {cs : List PV} {k : IntKind} {z : Int} {p : PV} (he : W0.ev e = some (.row n cs)) (hi : W0.ev i = some (.v (.int k z))) (h0 : 0 ≤ z) (h1 : z < (n : Int)) (hc : cs[z.toNat * sz + q]? = some p) : W0.ev (.cell e i sz q) = some p := by
  have he' : e.ev W0.s W0.F = some (.row n cs) := he
  have hi' : i.ev W0.s W0.F = some (.v (.int k z)) := hi
  simp [Base.ev, SX.ev, he', hi', cellPV, h0, h1, hc]
theorem aLoadS_ok {P : Program} {st : St} {t : TypeId} {x y : AV} {lg : Log} {A : Nat → Prop} {m : Map} {w : World} {u : Value} (h : aLoadS P st t x = some (y, lg)) (hA : lg.Fits W0 A)
    (hR : Rel W0 A m st.heap.get w) (hx : x.den m = some u) : ∃ v, y.den m = some v ∧ (Instr.loadAt t u).run P w = .ok v w := by
  unfold aLoadS at h
  split at h
  · rename_i r v i sz q
    simp only [Option.bind_eq_some_iff] at h
    obtain ⟨⟨e, el, esz⟩, hl, ag, hag, k, hk, h⟩ := h
    simp only [cond_eq_ite, Bool.and_eq_true, Nat.beq_eq, Bool.or_eq_true] at h
    split at h
    · rename_i hc
      obtain ⟨rfl, hk1⟩ := hc
      cases h
      have ha : A r := (or_A hA).1.1 r (by simp [Log.sees, bit_one])
      obtain ⟨n, cs, kd, z, f1, f2, f3, f4, f5⟩ := (or_A hA).2.2 _ (List.mem_singleton.2 rfl)
      simp only [AV.den, Option.bind_eq_some_iff, Option.map_eq_some_iff] at hx
      obtain ⟨b, hb, i', hi', n', hn', rfl⟩ := hx
      rw [hR.sv, ev_sv f2] at hi'
      cases hi'
      simp only [natOf, Option.some.injEq] at hn'
      subst hn'
      obtain ⟨n2, cs2, c, fz, g1, g2, g3, g4, g5, g6, g7, g8, g9⟩ := lookS_row hl hR ha hb
      rw [f1] at g1
      cases g1
      have hcell : ∀ j, j < k → ∃ v, cs[z.toNat * esz + (q + j)]? = some (.v v) ∧ v.oneCell' = true ∧ w.cell? ⟨b.1, z.toNat * esz + q + j, none⟩ = some v := fun j hj => by
        have hlt : z.toNat * esz + (q + j) < cs.length := by omega
        obtain ⟨v, hv, ho, hcv⟩ := g9 _ _ (List.getElem?_eq_getElem hlt)
        refine ⟨v, by rw [List.getElem?_eq_getElem hlt, hv], ho, ?_⟩
        simp only [World.cell?, g2]
        rw [Nat.add_assoc]
        exact hcv
      have hload : (Instr.loadAt t (.pointer (some ⟨b.1, z.toNat * esz + q, none⟩))).run P w = (loadVar t ⟨b.1, z.toNat * esz + q, none⟩).run P w := by simp [Instr.loadAt, Instr.sureAddr]
      rw [hload]
      unfold loadVar
      simp only [Sem.run_bind, run_isAgg_eng hag, Result.andThen_ok]
      cases ag with
      | true =>
        let val : Nat → Value := fun j => (w.cell? ⟨b.1, z.toNat * esz + q + j, none⟩).getD .nilFunc
        have hval : ∀ j v, ((List.range k).map val)[j]? = some v → j < k ∧ w.cell? ⟨b.1, z.toNat * esz + q + j, none⟩ = some v ∧ cs[z.toNat * esz + (q + j)]? = some (.v v) ∧ v.oneCell' = true := fun j v hj => by
          rw [List.getElem?_map, Option.map_eq_some_iff] at hj
          obtain ⟨j', hj', rfl⟩ := hj
          have hjk : j < k := by
            have := (List.getElem?_eq_some_iff.1 hj').1
            simpa using this
          rw [List.getElem?_range hjk] at hj'
          cases hj'
          obtain ⟨v, h1, h2, h3⟩ := hcell j hjk
          have : val j = v := by simp [val, h3]
          rw [this]
          exact ⟨hjk, h3, h1, h2⟩
        refine ⟨.agg ((List.range k).map val).toArray, ?_, ?_⟩
        · simp only [if_true, AV.den]
          rw [symCells_den hR.sv k q (vs := (List.range k).map val) (by simp) (fun j v hj => by
            obtain ⟨_, _, h3, h4⟩ := hval j v hj
            exact ⟨ev_cell f1 f2 f3 f4 h3, h4⟩)]
          rfl
        · have := run_loadCells_list (P := P) w ⟨b.1, z.toNat * esz + q, none⟩ ((List.range k).map val) (fun j v hj => by rw [addr_add]; exact (hval j v hj).2.1)
          simp only [List.length_map, List.length_range] at this
          simp [run_sizeOf_eng hk, this]
      | false =>
        have hk1 : k = 1 := by simpa using hk1
        subst hk1
        obtain ⟨v, h1, h2, h3⟩ := hcell 0 (by omega)
        refine ⟨v, ?_, ?_⟩
        · simp only [Bool.false_eq_true, if_false]
          exact ev_sym hR.sv (ev_cell f1 f2 f3 f4 (by simpa using h1)) h2
        · rw [Nat.add_zero] at h3
          simp [h3]
    · cases h
  · cases h

/-! Stores. -/
theorem putPV_length {cs ps : List PV} {off : Nat} (h : off + ps.length ≤ cs.length) : (putPV cs off ps).length = cs.length := by simp [putPV]; omega
theorem putPV_get {cs ps : List PV} {off i : Nat} (h : off + ps.length ≤ cs.length) : (putPV cs off ps)[i]? = if i < off then cs[i]? else if i < off + ps.length then ps[i - off]? else cs[i]? := by
  simp only [putPV, List.getElem?_append, List.getElem?_take, List.getElem?_drop, List.length_append, List.length_take]
  rw [show min off cs.length = off by omega]
  by_cases h1 : i < off
  · rw [if_pos (by omega), if_pos h1, if_pos h1, if_pos h1]
  · by_cases h2 : i < off + ps.length
    · rw [if_pos h2, if_neg h1, if_neg h1, if_pos h2]
    · rw [if_neg h2, if_neg h1, if_neg h2]
      congr 1
      omega
theorem putL_get {cs ps : List Value} {off i : Nat} (h : off + ps.length ≤ cs.length) : (cs.take off ++ ps ++ cs.drop (off + ps.length))[i]? = if i < off then cs[i]? else if i < off + ps.length then ps[i - off]? else cs[i]? := by
  simp only [List.getElem?_append, List.getElem?_take, List.getElem?_drop, List.length_append, List.length_take]
  rw [show min off cs.length = off by omega]
  by_cases h1 : i < off
  · rw [if_pos (by omega), if_pos h1, if_pos h1, if_pos h1]
  · by_cases h2 : i < off + ps.length
    · rw [if_pos h2, if_neg h1, if_neg h1, if_pos h2]
    · rw [if_neg h2, if_neg h1, if_neg h2]
      congr 1
      omega
theorem plainL_len : ∀ {ps : List PV} {vs : List Value}, plainL ps = some vs → ps = vs.map PV.v
  | [], vs, h => by simp [plainL] at h; subst h; rfl
  | p :: ps, vs, h => by
    simp only [plainL, Option.bind_eq_some_iff, Option.map_eq_some_iff] at h
    obtain ⟨v, hv, vs', hvs, rfl⟩ := h
    rw [plain_eq hv, plainL_len hvs]
    rfl
/-- Cells into such a row, at its newest version. -/
theorem storeS {P : Program} {st st' : St} {r v off : Nat} {e e' : SX} {el : TypeId} {sz n : Nat} {cs : List PV} {vs : List Value} {A : Nat → Prop} {m : Map} {w : World} {b : Nat × Nat} (hl : lookS st r v = some (e, el, sz)) (hR : Rel W0 A m st.heap.get w) (hF : Fresh A m st.next) (ha : A r) (hb : m r v = some b)
    (hp : st.put r (symRoot e' el sz v) = some st') (he : W0.ev e = some (.row n cs)) (he' : W0.ev e' = some (.row n (putPV cs off (vs.map PV.v)))) (hoff : off + vs.length ≤ n * sz) (h1 : ∀ x ∈ vs, x.oneCell' = true) :
    ∃ w' m', (storeCells ⟨b.1, off, none⟩ vs).run P w = .ok () w' ∧ m.Le m' ∧ m' r v = some b ∧ Ok W0 A m st w m' st' (Log.turns r) w' := by
  obtain ⟨n2, cs2, c, fz, g1, g2, g3, g4, g5, g6, g7, g8, g9⟩ := lookS_row hl hR ha hb
  rw [he] at g1
  cases g1
  have hcap : n * sz ≤ c.size := by rw [g7]; exact Nat.mul_le_mul_right _ g6
  have hrun := run_storeCells_eng P b.1 off el fz vs 0 c w g2 g3 (by omega) h1
  simp only [Nat.add_zero] at hrun
  have hlen : (List.take off c.toList ++ vs ++ List.drop (off + vs.length) c.toList).length = c.size := by simp; omega
  obtain ⟨q1, q2⟩ := ownPut (b' := b) hR hF hl ha hb hp (.inl ⟨rfl, rfl⟩) (w' := w.setRow b.1 (List.take off c.toList ++ vs ++ List.drop (off + vs.length) c.toList).toArray) rfl rfl rfl (by simp) (fun k _ hk => setRow_other w b.1 k _ hk) (.inl rfl) (by
    refine ⟨n, _, _, fz, he', setRow_heap w b.1 c _ el fz g2, fun i hi => g3 i (by simp at hi; omega), g4, ?_, g6, ?_, g8, ?_⟩
    · rw [putPV_length (by simp; omega)]; exact g5
    · simp only [List.size_toArray, hlen]; exact g7
    · intro i p hi
      rw [putPV_get (by simp; omega)] at hi
      simp only [List.length_map] at hi
      rw [List.getElem?_toArray, putL_get (by simp; omega)]
      split at hi
      · rename_i h
        rw [if_pos h]
        simpa using g9 i p hi
      · rename_i h
        rw [if_neg h]
        split at hi
        · rename_i h2
          rw [if_pos h2]
          rw [List.getElem?_map, Option.map_eq_some_iff] at hi
          obtain ⟨x, hx, rfl⟩ := hi
          exact ⟨x, rfl, h1 x (List.mem_of_getElem? hx), hx⟩
        · rename_i h2
          rw [if_neg h2]
          simpa using g9 i p hi)
  exact ⟨_, _, hrun, q2.step.ext, q1, q2⟩
def aStoreS (P : Program) (st : St) (t : TypeId) (x y : AV) : Option (St × Log) := match x with
  | .ptrS r v i sz q => (lookS st r v).bind fun (e, el, esz) => (sxL y.cellsOf).bind fun es => cond (tySize P t == some es.length && Nat.beq esz sz && Nat.ble (q + es.length) sz && y.cellsOf.all AV.one)
      ((st.put r (symRoot (.rop (.upd sz q) (e :: i :: es)) el sz v)).map fun st' => (st', (Log.turns r).or (Log.says (.idx e i sz (q + es.length))))) none
  | _ => none
theorem sxL_len : ∀ {l : List AV} {es : List SX}, sxL l = some es → es.length = l.length
  | [], es, h => by simp [sxL] at h; subst h; rfl
  | x :: l, es, h => by
    simp only [sxL, Option.bind_eq_some_iff, Option.map_eq_some_iff] at h
    obtain ⟨e, _, es', h', rfl⟩ := h
    simp [sxL_len h']
theorem one_all {m : Map} : ∀ {l : List AV} {vs : List Value}, (∀ x ∈ l, AV.one x = true) → denL m l = some vs → ∀ v ∈ vs, v.oneCell' = true
  | [], vs, _, h => by simp [denL] at h; subst h; simp
  | x :: l, vs, h1, h => by
    simp only [denL, Option.bind_eq_some_iff, Option.map_eq_some_iff] at h
    obtain ⟨v, hv, vs', hvs, rfl⟩ := h
    intro u hu
    rcases List.mem_cons.1 hu with rfl | hu
    · exact one_ok (h1 x (by simp)) hv
    · exact one_all (fun y hy => h1 y (by simp [hy])) hvs u hu
theorem aStoreS_ok {P : Program} {st st' : St} {t : TypeId} {x y : AV} {lg : Log} {A : Nat → Prop} {m : Map} {w : World} {u q : Value} (h : aStoreS P st t x y = some (st', lg)) (hA : lg.Fits W0 A)
    (hR : Rel W0 A m st.heap.get w) (hF : Fresh A m st.next) (hx : x.den m = some u) (hy : y.den m = some q) : ∃ m' w', (Instr.storeAt t u q).run P w = .ok () w' ∧ Ok W0 A m st w m' st' lg w' := by
  unfold aStoreS at h
  split at h
  · rename_i r v i sz o
    simp only [Option.bind_eq_some_iff] at h
    obtain ⟨⟨e, el, esz⟩, hl, es, hes, h⟩ := h
    simp only [cond_eq_ite, Bool.and_eq_true, Nat.beq_eq, Nat.ble_eq, beq_iff_eq, List.all_eq_true] at h
    split at h
    · rename_i hc
      obtain ⟨⟨⟨hs, rfl⟩, hle⟩, hone⟩ := hc
      simp only [Option.map_eq_some_iff] at h
      obtain ⟨s1, hp, he⟩ := h
      cases he
      have ha : A r := (or_A hA).1.1 r (by simp [Log.turns, bit_one])
      obtain ⟨n, cs, kd, z, f1, f2, f3, f4, f5⟩ := (or_A hA).2.2 _ (List.mem_singleton.2 rfl)
      simp only [AV.den, Option.bind_eq_some_iff, Option.map_eq_some_iff] at hx
      obtain ⟨b, hb, i', hi', n', hn', rfl⟩ := hx
      rw [hR.sv, ev_sv f2] at hi'
      cases hi'
      simp only [natOf, Option.some.injEq] at hn'
      subst hn'
      have hc := cellsOf_ok hy
      obtain ⟨ps, p1, p2⟩ := sxL_ok hR.sv _ hes hc
      have hpl := plainL_len p2
      have hvl : q.cells.toList.length = es.length := by rw [denL_length hc, sxL_len hes]
      obtain ⟨n2, cs2, c, fz, g1, g2, g3, g4, g5, g6, g7, g8, g9⟩ := lookS_row hl hR ha hb
      rw [f1] at g1
      cases g1
      have hoff : z.toNat * esz + o + q.cells.toList.length ≤ n * esz := by rw [hvl]; omega
      have he' : W0.ev (.rop (.upd esz o) (e :: i :: es)) = some (.row n (putPV cs (z.toNat * esz + o) (q.cells.toList.map PV.v))) := by
        have f1' : e.ev W0.s W0.F = some (.row n cs) := f1
        have f2' : i.ev W0.s W0.F = some (.v (.int kd z)) := f2
        have hlen : ps.length = es.length := by rw [hpl, List.length_map, hvl]
        simp only [Base.ev, SX.ev, evs, f1', f2', p1, Option.bind_some, Option.map_some, ropPV, hpl, List.length_map, hvl, f3, f4, hle, decide_true, Bool.and_self, cond_true]
      obtain ⟨w', m', hrun, _, _, hok⟩ := storeS (P := P) hl hR hF ha hb hp f1 he' hoff (one_all hone hc)
      refine ⟨m', w', ?_, hok.more (fun r hr => bit_or_l hr)⟩
      have : q.cells.size = es.length := by simpa using hvl
      simp [Instr.storeAt, Instr.sureAddr, storeVar, run_sizeOf_eng hs, this, hrun]
    · cases h
  · cases h

/-! Places, lengths. -/
def aIdxS (P : Program) (t : TypeId) (x ix : AV) : Option (AV × Log) := match x with
  | .sliceS r v lo len sz => match P.underlying t with
    | some (.slice e) => ix.sx.bind fun ie => cond (isC0 lo && (tySize P e == some sz)) (some (.ptrS r v ie sz 0, Log.says (.rng ie len))) none
    | _ => none
  | _ => none
theorem aIdxS_ok {P : Program} {t : TypeId} {x ix y : AV} {lg : Log} {A : Nat → Prop} {m : Map} {g : Heap} {u iu : Value} {w : World} (h : aIdxS P t x ix = some (y, lg)) (hA : lg.Fits W0 A) (hR : Rel W0 A m g w) (hx : x.den m = some u) (hi : ix.den m = some iu) :
    ∃ v, y.den m = some v ∧ (Instr.indexAt t u iu).run P w = .ok v w := by
  unfold aIdxS at h
  split at h
  · rename_i r v lo len sz
    split at h
    · rename_i e hu
      simp only [Option.bind_eq_some_iff] at h
      obtain ⟨ie, hie, h⟩ := h
      simp only [cond_eq_ite, Bool.and_eq_true, beq_iff_eq] at h
      split at h
      · rename_i hc
        cases h
        obtain ⟨k, z, n, f1, f2, f3, f4⟩ := hA.2 _ (List.mem_singleton.2 rfl)
        obtain ⟨b, l, n', hb, h1, h2, rfl⟩ := sliceS_inv hR.sv hx
        rw [isC0_ok hc.1] at h1
        rw [f2] at h2
        simp only [Option.some.injEq, PV.v.injEq, Value.int.injEq, true_and] at h1 h2
        have hl0 : l = 0 := by omega
        subst hl0
        subst h2
        have hiv := sx_ok hR.sv ix hie hi
        rw [f1] at hiv
        simp only [Option.some.injEq, PV.v.injEq] at hiv
        subst hiv
        refine ⟨.pointer (some ⟨b.1, z.toNat * sz + 0, none⟩), by simp [AV.den, hb, hR.sv, ev_sv f1, natOf], ?_⟩
        simp [Instr.indexAt, asIntOf, run_underlying hu, f3, f4, run_sizeOf_eng hc.2, addr_add]
      · cases h
    · cases h
  · cases h
end Go.Proofs.Ytfcdbknmajfkaaa.eng
