/- The engine: calls of functions that are told of by a contract. -/
import Derived.Test.YtlfdkccmfbfgiaaEng17
namespace Go.Proofs.Ytlfdkccmfbfgiaa.eng
open Go Go.RowKit
variable {W0 : Base}
set_option linter.unusedVariables false
set_option linter.unusedSimpArgs false

/-! The cells of what is given. -/
def leavesA : Sh → List AV → Option (List AV)
  | [], [] => some []
  | none :: s, x :: xs => (leavesA s xs).map (x :: ·)
  | some n :: s, x :: xs => x.aggs.bind fun cs => cond (Nat.beq cs.length n) ((leavesA s xs).map (cs ++ ·)) none
  | _, _ => none
theorem leavesA_ok {m : Map} : ∀ (s : Sh) (xs : List AV) {ls : List AV} {vs : List Value}, leavesA s xs = some ls → denL m xs = some vs → ∃ us, denL m ls = some us ∧ us.length = shLen s ∧ vs = assemble s us
  | [], [], ls, vs, h, hv => by
    simp only [leavesA, Option.some.injEq] at h
    simp only [denL, Option.some.injEq] at hv
    subst h; subst hv
    exact ⟨[], rfl, rfl, rfl⟩
  | [], _ :: _, ls, vs, h, hv => by simp [leavesA] at h
  | none :: s, [], ls, vs, h, hv => by simp [leavesA] at h
  | some n :: s, [], ls, vs, h, hv => by simp [leavesA] at h
  | none :: s, x :: xs, ls, vs, h, hv => by
    simp only [leavesA, Option.map_eq_some_iff] at h
    obtain ⟨l, hl, rfl⟩ := h
    simp only [denL, Option.bind_eq_some_iff, Option.map_eq_some_iff] at hv
    obtain ⟨v, hv, vs', hvs, rfl⟩ := hv
    obtain ⟨us, h1, h2, rfl⟩ := leavesA_ok s xs hl hvs
    exact ⟨v :: us, by simp [denL, hv, h1], by simp [shLen, h2], rfl⟩
  | some n :: s, x :: xs, ls, vs, h, hv => by
    simp only [leavesA, Option.bind_eq_some_iff] at h
    obtain ⟨cs, hcs, h⟩ := h
    cases hn : Nat.beq cs.length n with
    | false => simp [hn] at h
    | true =>
      simp only [hn, cond_true, Option.map_eq_some_iff] at h
      obtain ⟨l, hl, rfl⟩ := h
      have hn' := Nat.eq_of_beq_eq_true hn
      simp only [denL, Option.bind_eq_some_iff, Option.map_eq_some_iff] at hv
      obtain ⟨v, hv, vs', hvs, rfl⟩ := hv
      obtain ⟨lv, rfl, hlv⟩ := aggs_ok hcs hv
      obtain ⟨us, h1, h2, rfl⟩ := leavesA_ok s xs hl hvs
      have hll := denL_length hlv
      refine ⟨lv ++ us, denL_append hlv h1, by simp [shLen, h2]; omega, ?_⟩
      have : lv.length = n := by omega
      simp [assemble, ← this]

/-- A cell, written down; whether it may live on. -/
def cellSX (st : St) : AV → Option (SX × Bool × Log)
  | .val (.slice none 0 0) => some (.lit 0 [], true, Log.no)
  | .val v => cond v.oneCell' (some (.con v, true, Log.no)) none
  | .sym e => some (e, true, Log.no)
  | .dat r => (st.heap.get r).bind fun o => o.dat.map fun e => (e, o.ro, Log.sees r)
  | _ => none
/-- What reads so for as long as the old things' memory stays. -/
def May (W0 : Base) (A : Nat → Prop) (m : Map) (st : St) (w : World) (k : Nat) : Prop := k < w.heap.size ∧ (W0.fp k ∨ W0.heap.size ≤ k) ∧ Hangs A m st k
theorem cellSX_ok {A : Nat → Prop} {m : Map} {st : St} {w : World} (hR : Rel W0 A m st.heap.get w) {x : AV} {e : SX} {ok : Bool} {lg : Log} {u : Value} (h : cellSX st x = some (e, ok, lg)) (hA : lg.Fits W0 A) (hx : x.den m = some u) :
    ∃ p, e.ev W0.s W0.F = some p ∧ Reads w p u ∧ (ok = true → ∀ w2 : World, (∀ k, May W0 A m st w k → w2.heap[k]? = w.heap[k]?) → Reads w2 p u) := by
  have both : ∀ {p : PV}, (∀ w2 : World, Reads w2 p u) → Reads w p u ∧ (ok = true → ∀ w2 : World, (∀ k, May W0 A m st w k → w2.heap[k]? = w.heap[k]?) → Reads w2 p u) := fun h => ⟨h w, fun _ w2 _ => h w2⟩
  unfold cellSX at h
  split at h
  · simp only [Option.some.injEq, Prod.mk.injEq] at h
    obtain ⟨rfl, rfl, rfl⟩ := h
    simp only [AV.den, Option.some.injEq] at hx
    subst hx
    exact ⟨.row 0 [], by simp [SX.ev, evs], both fun w2 => by simp only [Reads]; exact ⟨none, 0, rfl, Nat.le_refl _, Nat.zero_le _, .inl trivial⟩⟩
  · rename_i v _
    simp only [AV.den, Option.some.injEq] at hx
    subst hx
    cases ho : v.oneCell' with
    | false => simp [ho] at h
    | true =>
      simp only [ho, cond_true, Option.some.injEq, Prod.mk.injEq] at h
      obtain ⟨rfl, rfl, rfl⟩ := h
      exact ⟨.v v, by simp [SX.ev], both fun w2 => by simp [Reads, ho]⟩
  · simp only [Option.some.injEq, Prod.mk.injEq] at h
    obtain ⟨rfl, rfl, rfl⟩ := h
    obtain ⟨h1, h2⟩ := sym_ev hR.sv hx
    exact ⟨.v u, h1, both fun w2 => by simp [Reads, h2]⟩
  · rename_i r
    simp only [Option.bind_eq_some_iff, Option.map_eq_some_iff, Prod.mk.injEq] at h
    obtain ⟨o', ho', e', hr, rfl, rfl, rfl⟩ := h
    have ha : A r := hA.1 r (by simp [Log.sees, bit_one])
    obtain ⟨o, v, fp, p, ho, hd, hm, hone, hlt, hfb, hp, hrd⟩ := thing hR (Option.bind_eq_some_iff.2 ⟨o', ho', hr⟩) ha
    rw [ho'] at ho
    cases ho
    simp only [AV.den, hm, Option.bind_some, hone, cond_true, Option.some.injEq] at hx
    subst hx
    exact ⟨p, hp, hrd w (fun _ _ => rfl), fun hok w2 hw2 => hrd w2 (fun k hk => hw2 k ⟨hlt k hk, hfb hok k hk, r, o', e', v, fp, ha, ho', hd, hm, hk⟩)⟩
  · cases h
def cellsSX (st : St) : List AV → Option (List SX × Bool × Log)
  | [] => some ([], true, Log.no)
  | x :: xs => (cellSX st x).bind fun (e, o1, l1) => (cellsSX st xs).map fun (es, o2, l2) => (e :: es, o1 && o2, l1.or l2)
theorem cellsSX_ok {A : Nat → Prop} {m : Map} {st : St} {w : World} (hR : Rel W0 A m st.heap.get w) : ∀ {xs : List AV} {es : List SX} {ok : Bool} {lg : Log} {us : List Value}, cellsSX st xs = some (es, ok, lg) → lg.Fits W0 A → denL m xs = some us →
    ∃ ps, evs W0.s W0.F es = some ps ∧ ps.length = us.length ∧ ∀ (i : Nat) (p : PV) (u : Value), ps[i]? = some p → us[i]? = some u → Reads w p u ∧ (ok = true → ∀ w2 : World, (∀ k, May W0 A m st w k → w2.heap[k]? = w.heap[k]?) → Reads w2 p u)
  | [], es, ok, lg, us, h, hA, hu => by
    simp only [cellsSX, Option.some.injEq, Prod.mk.injEq] at h
    obtain ⟨rfl, rfl, rfl⟩ := h
    simp only [denL, Option.some.injEq] at hu
    subst hu
    exact ⟨[], rfl, rfl, fun i p u hp => by simp at hp⟩
  | x :: xs, es, ok, lg, us, h, hA, hu => by
    simp only [cellsSX, Option.bind_eq_some_iff, Option.map_eq_some_iff] at h
    obtain ⟨⟨e, o1, l1⟩, he, ⟨es', o2, l2⟩, hes, h⟩ := h
    cases h
    simp only [denL, Option.bind_eq_some_iff, Option.map_eq_some_iff] at hu
    obtain ⟨v, hv, us', hus, rfl⟩ := hu
    obtain ⟨p, h1, h2, h2'⟩ := cellSX_ok hR he (or_A hA).1 hv
    obtain ⟨ps, h3, h4, h5⟩ := cellsSX_ok hR hes (or_A hA).2 hus
    refine ⟨p :: ps, by simp [evs, h1, h3], by simp [h4], fun i q u hq hu => ?_⟩
    cases i with
    | zero => simp at hq hu; subst hq; subst hu; exact ⟨h2, fun h => h2' (by simp at h; exact h.1)⟩
    | succ i =>
      obtain ⟨h6, h7⟩ := h5 i q u (by simpa using hq) (by simpa using hu)
      exact ⟨h6, fun h => h7 (by simp at h; exact h.2)⟩

/-- That it is whole; where that can be seen nothing is owed. -/
def wantW (e len : SX) : Log := match e, len with
  | .var i, .len (.var j) => cond (Nat.beq i j) Log.no (wantLen (.var i) (.len (.var j)))
  | e, len => wantLen e len
theorem wantW_ok {A : Nat → Prop} {m : Map} {st : St} {w : World} (hR : Rel W0 A m st.heap.get w) {r v sz : Nat} {lo len e : SX} {el : TypeId} {u : Value} (hl : lookS st r v = some (e, el, sz)) (ha : A r) (hx : (AV.sliceS r v lo len sz).den m = some u) (hf : (wantW e len).Fits W0 A) : (Fact.same len (.len e)).holds W0 := by
  unfold wantW at hf
  split at hf
  · rename_i i j
    cases hij : Nat.beq i j with
    | false => rw [hij] at hf; exact hf.2 _ (List.mem_singleton.2 rfl)
    | true =>
      have := Nat.eq_of_beq_eq_true hij
      subst this
      obtain ⟨b, l, n, hb, h1, h2, _⟩ := sliceS_inv hR.sv hx
      obtain ⟨k, cs, c, fz, g1, _⟩ := lookS_row hl hR ha hb
      exact ⟨k, ev_len g1, ev_len g1⟩
  · exact hf.2 _ (List.mem_singleton.2 rfl)
/-- Such a row reads as what is in it. -/
theorem ownReads {A : Nat → Prop} {m : Map} {st : St} {w : World} (hR : Rel W0 A m st.heap.get w) {r v sz : Nat} {lo len e : SX} {el : TypeId} {u : Value} (hl : lookS st r v = some (e, el, sz)) (hc : isC0 lo = true) (ha : A r) (hf : (Fact.same len (.len e)).holds W0) (hx : (AV.sliceS r v lo len sz).den m = some u) :
    ∃ (b : Nat × Nat) (n : Nat) (cs : List PV), m r v = some b ∧ W0.ev e = some (.row n cs) ∧ u = .slice (some ⟨b.1, 0, none⟩) n b.2 ∧ W0.heap.size ≤ b.1 ∧ b.1 < w.heap.size ∧ ∀ w2 : World, w2.heap[b.1]? = w.heap[b.1]? → Reads w2 (.row n cs) u := by
  obtain ⟨n, f1, f2⟩ := hf
  obtain ⟨b, l, n', hb, h1, h2, rfl⟩ := sliceS_inv hR.sv hx
  rw [isC0_ok hc] at h1
  rw [f1] at h2
  simp only [Option.some.injEq, PV.v.injEq, Value.int.injEq, true_and, Int.ofNat_inj] at h1 h2
  have hl0 : l = 0 := by omega
  subst hl0
  subst h2
  obtain ⟨o, ho, hs, hv, _, _, _, hlt0⟩ := lookS_ok hl
  obtain ⟨k, cs, c, fz, g1, g2, g3, g4, g5, g6, g7, g8, g9⟩ := lookS_row hl hR ha hb
  rw [ev_len g1] at f2
  simp only [Option.some.injEq, PV.v.injEq, Value.int.injEq, true_and, Int.ofNat_inj] at f2
  subst f2
  have hvm : (v, 0) ∈ o.vers := by rw [hv]; simp
  refine ⟨b, k, cs, hb, g1, by rw [Nat.zero_mul, Nat.sub_zero], (hR.abv r o v 0 b ha ho hvm hb).1 hlt0, hR.lt ha ho hvm hb, fun w2 hw2 => ?_⟩
  simp only [Reads]
  refine ⟨some ⟨b.1, 0 * sz, none⟩, b.2 - 0, rfl, by omega, by omega, .inr ⟨b.1, 0 * sz, rfl, ReadsL.of fun i p hp => ?_⟩⟩
  obtain ⟨x, rfl, hx1, hx2⟩ := g9 i p hp
  refine ⟨x, ?_, by simp only [Reads]; exact ⟨trivial, hx1⟩⟩
  simp only [World.cell?, hw2, g2, Nat.zero_mul, Nat.zero_add]
  exact hx2
/-- What is given, written down; whether it may live on. -/
def leafSX (st : St) : AV → Option (SX × Bool × Log)
  | .slice r v lo sz len cap opn => (look st r v).bind fun (o, n) => cond (Nat.ble (lo * sz + len * sz) n && (cond opn (o.opn && Nat.beq o.esz sz && Nat.blt 0 sz && Nat.ble cap lo) (Nat.ble len cap && Nat.ble cap 9223372036854775807)))
      ((cellsSX st (cellsAt o (lo * sz) (len * sz))).map fun (es, _, lg) => (.lit len es, false, (Log.sees r).or lg)) none
  | .sliceS r v lo len sz => (lookS st r v).bind fun (e, el, esz) => cond (isC0 lo && Nat.beq sz esz) (some (e, false, (Log.sees r).or (wantW e len))) none
  | x => cellSX st x
theorem leafSX_ok {A : Nat → Prop} {m : Map} {st : St} {w : World} (hR : Rel W0 A m st.heap.get w) {x : AV} {e : SX} {ok : Bool} {lg : Log} {u : Value} (h : leafSX st x = some (e, ok, lg)) (hA : lg.Fits W0 A) (hx : x.den m = some u) :
    ∃ p, e.ev W0.s W0.F = some p ∧ Reads w p u ∧ (ok = true → ∀ w2 : World, (∀ k, May W0 A m st w k → w2.heap[k]? = w.heap[k]?) → Reads w2 p u) := by
  unfold leafSX at h
  split at h
  · rename_i r v lo sz len cap opn
    simp only [Option.bind_eq_some_iff] at h
    obtain ⟨⟨o, n⟩, hlk, h⟩ := h
    obtain ⟨ho, hv⟩ := look_ok hlk
    cases hc : (Nat.ble (lo * sz + len * sz) n && (cond opn (o.opn && Nat.beq o.esz sz && Nat.blt 0 sz && Nat.ble cap lo) (Nat.ble len cap && Nat.ble cap 9223372036854775807))) with
    | false => simp [hc] at h
    | true =>
      simp only [hc, cond_true, Option.map_eq_some_iff] at h
      obtain ⟨⟨es, ok', l1⟩, hes, h⟩ := h
      cases h
      have ha : A r := (or_A hA).1.1 r (by simp [Log.sees, bit_one])
      simp only [AV.den, Option.map_eq_some_iff] at hx
      obtain ⟨b, hb, rfl⟩ := hx
      obtain ⟨b', hb', hB⟩ := hR.blk r o ha ho v n hv
      rw [hb] at hb'; cases hb'
      simp only [Bool.and_eq_true, Nat.ble_eq] at hc
      have hB' := hB
      obtain ⟨c, fz, hcc, _, hnl, hnc, _, hsize⟩ := hB'
      obtain ⟨l, hd, hll, _, hcell⟩ := hB.cells (P := (default : Program)) hc.1
      have hcap : len ≤ (cond opn (b.2 - cap) cap) ∧ (cond opn (b.2 - cap) cap) ≤ maxLen := by
        cases opn with
        | false => simp only [cond_false] at hc ⊢; simp only [Bool.and_eq_true, Nat.ble_eq] at hc; exact ⟨hc.2.1, hc.2.2⟩
        | true =>
          simp only [cond_true, Bool.and_eq_true, Nat.beq_eq, Nat.blt_eq, Nat.ble_eq] at hc ⊢
          obtain ⟨hc1, ⟨⟨hop, hez⟩, hpos⟩, hcl⟩ := hc
          simp only [hop, cond_true, hez] at hsize
          have : (lo + len) * sz ≤ b.2 * sz := by rw [Nat.add_mul]; omega
          have := Nat.le_of_mul_le_mul_right this hpos
          unfold maxLen
          omega
      obtain ⟨ps, h1, h2, h3⟩ := cellsSX_ok hR hes (or_A hA).2 hd
      refine ⟨.row len ps, by simp [SX.ev, h1], ?_, fun h => by cases h⟩
      simp only [Reads]
      refine ⟨some ⟨b.1, lo * sz, none⟩, _, rfl, hcap.1, hcap.2, .inr ⟨b.1, lo * sz, rfl, ReadsL.of fun i p hp => ?_⟩⟩
      have hi : i < l.length := by rw [← h2]; exact (List.getElem?_eq_some_iff.1 hp).1
      exact ⟨l[i], hcell i _ (List.getElem?_eq_getElem hi), (h3 i p _ hp (List.getElem?_eq_getElem hi)).1⟩
  · rename_i r v lo len sz
    simp only [Option.bind_eq_some_iff] at h
    obtain ⟨⟨e', el, esz⟩, hl, h⟩ := h
    simp only [cond_eq_ite, Bool.and_eq_true, Nat.beq_eq] at h
    split at h
    · rename_i hc
      have hz := hc.2
      subst hz
      cases h
      have ha : A r := (or_A hA).1.1 r (by simp [Log.sees, bit_one])
      obtain ⟨b, n, cs, h1, h2, h3, _, _, h4⟩ := ownReads hR hl hc.1 ha (wantW_ok hR hl ha hx (or_A hA).2) hx
      exact ⟨_, h2, h4 w rfl, fun h => by cases h⟩
    · cases h
  · exact cellSX_ok hR h hA hx
def leafAll (st : St) : List AV → List Bool → Option (List SX × Log)
  | [], _ => some ([], Log.no)
  | x :: xs, lk => (leafSX st x).bind fun (e, ok, l1) => cond (ok || !(lk.headD false)) ((leafAll st xs lk.tail).map fun (es, l2) => (e :: es, l1.or l2)) none
theorem leafAll_ok {A : Nat → Prop} {m : Map} {st : St} {w : World} (hR : Rel W0 A m st.heap.get w) : ∀ {xs : List AV} {lk : List Bool} {es : List SX} {lg : Log} {us : List Value}, leafAll st xs lk = some (es, lg) → lg.Fits W0 A → denL m xs = some us →
    ∃ ps, evs W0.s W0.F es = some ps ∧ ps.length = us.length ∧ ∀ (i : Nat) (p : PV) (u : Value), ps[i]? = some p → us[i]? = some u → Reads w p u ∧ (lk.getD i false = true → ∀ w2 : World, (∀ k, May W0 A m st w k → w2.heap[k]? = w.heap[k]?) → Reads w2 p u)
  | [], lk, es, lg, us, h, hA, hu => by
    simp only [leafAll, Option.some.injEq, Prod.mk.injEq] at h
    obtain ⟨rfl, rfl⟩ := h
    simp only [denL, Option.some.injEq] at hu
    subst hu
    exact ⟨[], rfl, rfl, fun i p u hp => by simp at hp⟩
  | x :: xs, lk, es, lg, us, h, hA, hu => by
    simp only [leafAll, Option.bind_eq_some_iff] at h
    obtain ⟨⟨e, ok, l1⟩, he, h⟩ := h
    cases hc : (ok || !(lk.headD false)) with
    | false => simp only [hc, cond_false] at h; cases h
    | true =>
      simp only [hc, cond_true, Option.map_eq_some_iff] at h
      obtain ⟨⟨es', l2⟩, hes, h⟩ := h
      cases h
      simp only [denL, Option.bind_eq_some_iff, Option.map_eq_some_iff] at hu
      obtain ⟨v, hv, us', hus, rfl⟩ := hu
      obtain ⟨p, h1, h2, h2'⟩ := leafSX_ok hR he (or_A hA).1 hv
      obtain ⟨ps, h3, h4, h5⟩ := leafAll_ok hR hes (or_A hA).2 hus
      refine ⟨p :: ps, by simp [evs, h1, h3], by simp [h4], fun i q u hq hu => ?_⟩
      cases i with
      | zero =>
        simp at hq hu
        subst hq; subst hu
        refine ⟨h2, fun hl => h2' ?_⟩
        cases lk with
        | nil => simp at hl
        | cons a lk => simp at hl hc; subst hl; simpa using hc
      | succ i =>
        obtain ⟨h6, h7⟩ := h5 i q u (by simpa using hq) (by simpa using hu)
        refine ⟨h6, fun hl => h7 ?_⟩
        cases lk with
        | nil => simp at hl
        | cons a lk => simpa using hl

/-! What is answered. -/
def rowsAt : List CK → Nat → List Nat
  | [], _ => []
  | .row :: ks, j => j :: rowsAt ks (j + 1)
  | _ :: ks, j => rowsAt ks (j + 1)
def outD (g : Nat → SX) : List CK → Nat → Nat → List Nat → Option (List AV × List Fact × List Nat)
  | [], _, _, p => some ([], [], p)
  | .row :: ks, j, nx, p => (outD g ks (j + 1) (nx + 1) p).map fun (cs, fs, p') => (.dat nx :: cs, fs, p')
  | .num :: ks, j, nx, p => (outD g ks (j + 1) nx p).map fun (cs, fs, p') => (.sym (g j) :: cs, .ok (g j) :: fs, p')
  | .truth :: ks, j, nx, p => match p with
    | b :: p => (outD g ks (j + 1) nx p).map fun (cs, fs, p') => (.val (.bool (Nat.beq b 1)) :: cs, .is (g j) (.bool (Nat.beq b 1)) :: fs, p')
    | [] => none
theorem rowsAt_lt : ∀ (ks : List CK) (j x : Nat), x ∈ rowsAt ks j → j ≤ x ∧ x < j + ks.length
  | [], j, x, h => by simp [rowsAt] at h
  | .row :: ks, j, x, h => by
    rcases List.mem_cons.1 h with rfl | h
    · simp
    · have := rowsAt_lt ks (j + 1) x h; simp; omega
  | .num :: ks, j, x, h => by have := rowsAt_lt ks (j + 1) x h; simp; omega
  | .truth :: ks, j, x, h => by have := rowsAt_lt ks (j + 1) x h; simp; omega
theorem outD_ok {m : Map} (hs : ∀ e, m.s e = W0.sv e) {g : Nat → SX} {val : Nat → Value} {w : World} : ∀ (ks : List CK) (j nx : Nat) (p : List Nat) {cs : List AV} {fs : List Fact} {p' : List Nat}, outD g ks j nx p = some (cs, fs, p') → (∀ f ∈ fs, f.holds W0) →
    (∀ i, j ≤ i → i < j + ks.length → ∃ q, W0.ev (g i) = some q ∧ Reads w q (val i)) → (∀ q x, (rowsAt ks j)[q]? = some x → ∃ fp, m.d (nx + q) = some (val x, fp)) → denL m cs = some ((List.range' j ks.length).map val)
  | [], j, nx, p, cs, fs, p', h, _, _, _ => by
    simp only [outD, Option.some.injEq, Prod.mk.injEq] at h
    obtain ⟨rfl, _⟩ := h
    rfl
  | .row :: ks, j, nx, p, cs, fs, p', h, hf, hv, hd => by
    simp only [outD, Option.map_eq_some_iff] at h
    obtain ⟨⟨cs', fs', p1⟩, h1, he⟩ := h
    cases he
    have ih := outD_ok hs ks (j + 1) (nx + 1) p h1 hf (fun i h1 h2 => hv i (by omega) (by simp; omega)) (fun q x hq => by
      have := hd (q + 1) x (by simpa [rowsAt] using hq)
      rwa [show nx + (q + 1) = nx + 1 + q by omega] at this)
    obtain ⟨fp, hfp⟩ := hd 0 j (by simp [rowsAt])
    obtain ⟨q, _, hq⟩ := hv j (Nat.le_refl _) (by simp)
    rw [Nat.add_zero] at hfp
    simp [denL, AV.den, hfp, hq.one, ih, List.range'_succ]
  | .num :: ks, j, nx, p, cs, fs, p', h, hf, hv, hd => by
    simp only [outD, Option.map_eq_some_iff] at h
    obtain ⟨⟨cs', fs', p1⟩, h1, he⟩ := h
    cases he
    have ih := outD_ok hs ks (j + 1) nx p h1 (fun f h => hf f (by simp [h])) (fun i h1 h2 => hv i (by omega) (by simp; omega)) (fun q x hq => hd q x (by simpa [rowsAt] using hq))
    obtain ⟨x, hx, ho⟩ := hf (.ok (g j)) (by simp)
    obtain ⟨q, hq1, hq⟩ := hv j (Nat.le_refl _) (by simp)
    rw [hx] at hq1
    cases hq1
    simp only [Reads] at hq
    rw [denL, ev_sym hs hx ho]
    simp [ih, List.range'_succ, hq.1]
  | .truth :: ks, j, nx, [], cs, fs, p', h, hf, hv, hd => by simp [outD] at h
  | .truth :: ks, j, nx, b :: p, cs, fs, p', h, hf, hv, hd => by
    simp only [outD, Option.map_eq_some_iff] at h
    obtain ⟨⟨cs', fs', p1⟩, h1, he⟩ := h
    cases he
    have ih := outD_ok hs ks (j + 1) nx p h1 (fun f h => hf f (by simp [h])) (fun i h1 h2 => hv i (by omega) (by simp; omega)) (fun q x hq => hd q x (by simpa [rowsAt] using hq))
    have hx : W0.ev (g j) = some (.v (.bool (Nat.beq b 1))) := hf (.is (g j) (.bool (Nat.beq b 1))) (by simp)
    obtain ⟨q, hq1, hq⟩ := hv j (Nat.le_refl _) (by simp)
    rw [hx] at hq1
    cases hq1
    simp only [Reads] at hq
    simp [denL, AV.den, ih, List.range'_succ, hq.1]
def assembleA : Sh → List AV → List AV
  | none :: s, u :: us => u :: assembleA s us
  | some n :: s, us => .agg (us.take n) :: assembleA s (us.drop n)
  | _, _ => []
theorem assembleA_ok {m : Map} : ∀ (s : Sh) (xs : List AV) {us : List Value}, denL m xs = some us → us.length = shLen s → denL m (assembleA s xs) = some (assemble s us)
  | [], xs, us, h, hl => by
    have : us = [] := List.eq_nil_of_length_eq_zero (by simpa [shLen] using hl)
    subst this
    have := denL_length h
    have : xs = [] := List.eq_nil_of_length_eq_zero (by simpa using this.symm)
    subst this
    rfl
  | none :: s, [], us, h, hl => by
    simp only [denL, Option.some.injEq] at h
    subst h
    simp [shLen] at hl
  | none :: s, x :: xs, us, h, hl => by
    simp only [denL, Option.bind_eq_some_iff, Option.map_eq_some_iff] at h
    obtain ⟨v, hv, us', hus, rfl⟩ := h
    simp [assembleA, assemble, denL, hv, assembleA_ok s xs hus (by simpa [shLen] using hl)]
  | some n :: s, xs, us, h, hl => by
    have ih := assembleA_ok s (xs.drop n) (denL_drop n h) (by simp [shLen] at hl ⊢; omega)
    simp [assembleA, assemble, denL, AV.den, denL_take n h, ih]
def answerA (s : Sh) (xs : List AV) : AV := match assembleA s xs with | [x] => x | xs => .tuple xs
theorem answerA_ok {m : Map} {s : Sh} {xs : List AV} {us : List Value} (h : denL m xs = some us) (hl : us.length = shLen s) : (answerA s xs).den m = some (answer s us) := by
  have h1 := assembleA_ok s xs h hl
  unfold answerA answer
  generalize assembleA s xs = ys at *
  generalize assemble s us = vs at *
  have hlen := denL_length h1
  match ys, vs, hlen with
  | [], [], _ => rfl
  | [y], [v], _ =>
    simp only [denL, Option.bind_eq_some_iff, Option.map_eq_some_iff] at h1
    obtain ⟨v', hv, b, hb, he⟩ := h1
    cases he
    exact hv
  | y1 :: y2 :: ys, v1 :: v2 :: vs, _ => simp only [AV.den, h1, Option.map_some]

/-- A call by its contract. -/
def callFn (f : FuncId) (E : FnE) (args : List AV) (st : St) : Option (ARet × St × Log) := (leavesA E.ins args).bind fun ls => (leafAll st ls E.leaks).bind fun (es, lA) => (outD (.fn E.k es) E.kinds 0 st.next st.path).bind fun (cs, fs, p') =>
  cond (Nat.blt (st.next + E.kinds.length) 16777215 && Nat.beq E.kinds.length (shLen E.outs))
    (some (.ret (answerA E.outs cs), St.dats { st with path := p' } ((rowsAt E.kinds 0).map fun j => (.fn E.k es j, true)), ⟨lA.A ||| maskFrom st.next (rowsAt E.kinds 0).length, maskFrom st.next (rowsAt E.kinds 0).length, .fn f E es :: (lA.V ++ fs)⟩)) none
def orcFn (tab : FuncId → Option FnE) : Orc := fun f args st => (tab f).bind fun E => callFn f E args st
theorem rowsAt_len : ∀ (ks : List CK) (j : Nat), (rowsAt ks j).length ≤ ks.length
  | [], j => Nat.le_refl _
  | .row :: ks, j => by simp [rowsAt, rowsAt_len ks]
  | .num :: ks, j => by have := rowsAt_len ks (j + 1); simp [rowsAt]; omega
  | .truth :: ks, j => by have := rowsAt_len ks (j + 1); simp [rowsAt]; omega
theorem callFn_ok {f : FuncId} {E : FnE} {args : List AV} {st st' : St} {r : ARet} {lg : Log} (hr : callFn f E args st = some (r, st', lg)) (W0 : Base) (A : Nat → Prop) (m : Map) (w : World) (vs : List Value) (hA : lg.Fits W0 A) (hR : Rel W0 A m st.heap.get w) (hF : Fresh A m st.next) (hvs : denL m args = some vs) :
    Calls Try.prog f vs.toArray w (CPost W0 A m st w r st' lg) := by
  simp only [callFn, Option.bind_eq_some_iff] at hr
  obtain ⟨ls, hls, ⟨es, lA⟩, hes, ⟨cs, fs, p'⟩, hout, hr⟩ := hr
  cases hc : (Nat.blt (st.next + E.kinds.length) 16777215 && Nat.beq E.kinds.length (shLen E.outs)) with
  | false => simp [hc] at hr
  | true =>
    simp only [hc, cond_true, Option.some.injEq, Prod.mk.injEq] at hr
    obtain ⟨rfl, rfl, rfl⟩ := hr
    simp only [Bool.and_eq_true, Nat.blt_eq, Nat.beq_eq] at hc
    have hlA : lA.Fits W0 A := ⟨fun r hr => hA.1 r (bit_or_l hr), fun f hf => hA.2 f (by simp [hf])⟩
    obtain ⟨us, hus, hul, rfl⟩ := leavesA_ok E.ins args hls hvs
    obtain ⟨ps, hps, hpl, hrd⟩ := leafAll_ok hR hes hlA hus
    obtain ⟨htold, ps', qs, hps', hqs⟩ := hA.2 (.fn f E es) (by simp)
    rw [hps] at hps'
    cases hps'
    refine (htold w (May W0 A m st w) us ps qs hqs hpl.symm (by omega) (fun k hk => hk.1) hrd).mono ?_
    rintro e w' ⟨us', h1, h2, h3, rfl, hex⟩
    have hrl := rowsAt_len E.kinds 0
    have hev : ∀ i, i < E.kinds.length → ∃ q u, W0.ev (.fn E.k es i) = some q ∧ us'[i]? = some u ∧ us'.getD i undef = u ∧ qs[i]? = some q := fun i hi => by
      have hq : i < qs.length := by omega
      have hu : i < us'.length := by omega
      refine ⟨qs[i], us'[i], ?_, List.getElem?_eq_getElem hu, by simp [List.getD, hu], List.getElem?_eq_getElem hq⟩
      simp [Base.ev, SX.ev, hps, hqs, List.getElem?_eq_getElem hq]
    obtain ⟨m', hok, hd', _⟩ := addDats (st := { st with path := p' }) (lg := ⟨lA.A ||| maskFrom st.next (rowsAt E.kinds 0).length, maskFrom st.next (rowsAt E.kinds 0).length, .fn f E es :: (lA.V ++ fs)⟩) hR hF hex ((rowsAt E.kinds 0).map fun j => (.fn E.k es j, true)) ((rowsAt E.kinds 0).map fun i => us'.getD i undef)
      (fun _ k => May W0 A m st w k ∨ (w.heap.size ≤ k ∧ k < w'.heap.size)) (by simp) (by simp) (by simp; omega) (fun k k1 k2 => hA.1 k (bit_or_r ((maskFrom_bit _ _ _).2 ⟨k1, by simpa using k2⟩))) (by
        intro i e u he hu
        rw [List.getElem?_map, Option.map_eq_some_iff] at he hu
        obtain ⟨x, hx, rfl⟩ := he
        obtain ⟨y, hy, rfl⟩ := hu
        rw [hx] at hy
        cases hy
        have hxl := (rowsAt_lt E.kinds 0 x (List.mem_of_getElem? hx)).2
        obtain ⟨q, u, g1, g2, g3, g4⟩ := hev x (by omega)
        have hq := h3 x q u g4 g2
        rw [g3]
        refine ⟨(hq w' (fun _ _ => rfl)).one, ?_, fun w2 hw2 => ⟨q, g1, hq w2 hw2⟩⟩
        rintro k (hk | hk)
        · exact ⟨Nat.lt_of_lt_of_le hk.1 hex.size, fun _ => hk.2.1, fun _ => hk.2.2⟩
        · exact ⟨hk.2, fun _ => .inr (Nat.le_trans hR.size0 hk.1), fun hlt => absurd hk.1 (by omega)⟩)
    have hden := outD_ok (w := w') (val := fun i => us'.getD i undef) hok.rel.sv E.kinds 0 st.next st.path hout (fun f hf => hA.2 f (by simp [hf])) (fun i _ hi => by
      obtain ⟨q, u, g1, g2, g3, g4⟩ := hev i (by omega)
      exact ⟨q, g1, by simp only [g3]; exact h3 i q u g4 g2 w' (fun _ _ => rfl)⟩) (fun q x hq => ⟨_, hd' q _ (by rw [List.getElem?_map, hq]; rfl)⟩)
    have hus' : (List.range' 0 E.kinds.length).map (fun i => us'.getD i undef) = us' := by
      apply List.ext_getElem?
      intro i
      by_cases hi : i < us'.length
      · rw [List.getElem?_map, List.getElem?_range' (by omega)]
        simp [List.getD, hi]
      · rw [List.getElem?_eq_none (by simp; omega), List.getElem?_eq_none (by omega)]
    rw [hus'] at hden
    exact ⟨m', ⟨hok.step, hok.fresh⟩, _, answerA_ok hden (by omega), rfl⟩
theorem callFn_gk {f : FuncId} {E : FnE} {args : List AV} {st st' : St} {r : ARet} {lg : Log} (hr : callFn f E args st = some (r, st', lg)) : Gk st st' lg := by
  simp only [callFn, Option.bind_eq_some_iff] at hr
  obtain ⟨ls, hls, ⟨es, lA⟩, hes, ⟨cs, fs, p'⟩, hout, hr⟩ := hr
  cases hc : (Nat.blt (st.next + E.kinds.length) 16777215 && Nat.beq E.kinds.length (shLen E.outs)) with
  | false => simp [hc] at hr
  | true =>
    simp only [hc, cond_true, Option.some.injEq, Prod.mk.injEq] at hr
    obtain ⟨rfl, rfl, rfl⟩ := hr
    simp only [Bool.and_eq_true, Nat.blt_eq, Nat.beq_eq] at hc
    have hrl := rowsAt_len E.kinds 0
    exact dats_gk (st := { st with path := p' }) (by simp; omega) (fun r hr => by simpa using hr)
theorem orcFn_ok (tab : FuncId → Option FnE) : OrcOk Try.prog (orcFn tab) := by
  refine ⟨?_, ?_⟩
  · intro f args st r st' lg hr W0 A m w vs hA hR hF hvs
    simp only [orcFn, Option.bind_eq_some_iff] at hr
    obtain ⟨E, hE, hr⟩ := hr
    exact callFn_ok hr W0 A m w vs hA hR hF hvs
  · intro f args st r st' lg hr
    simp only [orcFn, Option.bind_eq_some_iff] at hr
    obtain ⟨E, hE, hr⟩ := hr
    exact callFn_gk hr
end Go.Proofs.Ytlfdkccmfbfgiaa.eng
