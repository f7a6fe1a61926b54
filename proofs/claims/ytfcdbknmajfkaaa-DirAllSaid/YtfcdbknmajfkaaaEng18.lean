/- The engine: calls of functions that are told of by a contract. -/
import Derived.Test.YtfcdbknmajfkaaaEng17
namespace Go.Proofs.Ytfcdbknmajfkaaa.eng
open Go Go.RowKit
variable {W0 : Base}
set_option linter.unusedVariables false
set_option linter.unusedSimpArgs false

/-! The cells of what is given. -/
def leavesA : Sh → List AV → Option (List AV)
  | [], [] => some []
  | none :: s, x :: xs => (leavesA s xs).map (x :: ·)
  | some n :: s, x :: xs => x.aggs.bind fun cs => cond (Nat.beq cs.length n) ((leavesA s xs).map (cs ++ ·)) none
  | _, _ => none
theorem leavesA_ok {m : Map} : ∀ (s : Sh) (xs : List AV) {ls : List AV} {vs : List Value}, leavesA s xs = some ls → denL m xs = some vs → ∃ us, denL m ls = some us ∧ us.length = shLen s ∧ vs = assemble s us
  | [], [], ls, vs, h, hv => by
    simp only [leavesA, Option.some.injEq] at h
    simp only [denL, Option.some.injEq] at hv
    subst h; subst hv
    exact ⟨[], rfl, rfl, rfl⟩
  | [], _ :: _, ls, vs, h, hv => by simp [leavesA] at h
  | none :: s, [], ls, vs, h, hv => by simp [leavesA] at h
  | some n :: s, [], ls, vs, h, hv => by simp [leavesA] at h
  | none :: s, x :: xs, ls, vs, h, hv => by
    simp only [leavesA, Option.map_eq_some_iff] at h
    obtain ⟨l, hl, rfl⟩ := h
    simp only [denL, Option.bind_eq_some_iff, Option.map_eq_some_iff] at hv
    obtain ⟨v, hv, vs', hvs, rfl⟩ := hv
    obtain ⟨us, h1, h2, rfl⟩ := leavesA_ok s xs hl hvs
    exact ⟨v :: us, by simp [denL, hv, h1], by simp [shLen, h2], rfl⟩
  | some n :: s, x :: xs, ls, vs, h, hv => by
    simp only [leavesA, Option.bind_eq_some_iff] at h
    obtain ⟨cs, hcs, h⟩ := h
    cases hn : Nat.beq cs.length n with
    | false => simp [hn] at h
    | true =>
      simp only [hn, cond_true, Option.map_eq_some_iff] at h
      obtain ⟨l, hl, rfl⟩ := h
      have hn' := Nat.eq_of_beq_eq_true hn
      simp only [denL, Option.bind_eq_some_iff, Option.map_eq_some_iff] at hv
      obtain ⟨v, hv, vs', hvs, rfl⟩ := hv
      obtain ⟨lv, rfl, hlv⟩ := aggs_ok hcs hv
      obtain ⟨us, h1, h2, rfl⟩ := leavesA_ok s xs hl hvs
      have hll := denL_length hlv
      refine ⟨lv ++ us, denL_append hlv h1, by simp [shLen, h2]; omega, ?_⟩
      have : lv.length = n := by omega
      simp [assemble, ← this]

/-- A cell, written down; whether it may live on. -/
def cellSX (st : St) : AV → Option (SX × Bool × Log)
  | .val (.slice none 0 0) => some (.lit 0 [], true, Log.no)
  | .val v => cond v.oneCell' (some (.con v, true, Log.no)) none
  | .sym e => some (e, true, Log.no)
  | .dat r => (st.heap.get r).bind fun o => o.dat.map fun e => (e, o.ro, Log.sees r)
  | _ => none
/-- What reads so for as long as the old things' memory stays. -/
def May (W0 : Base) (A : Nat → Prop) (m : Map) (st : St) (w : World) (k : Nat) : Prop := k < w.heap.size ∧ (W0.fp k ∨ W0.heap.size ≤ k) ∧ Hangs A m st k
theorem cellSX_ok {A : Nat → Prop} {m : Map} {st : St} {w : World} (hR : Rel W0 A m st.heap.get w) {x : AV} {e : SX} {ok : Bool} {lg : Log} {u : Value} (h : cellSX st x = some (e, ok, lg)) (hA : lg.Fits W0 A) (hx : x.den m = some u) :
    ∃ p, e.ev W0.s W0.F = some p ∧ Reads w p u ∧ (ok = true → ∀ w2 : World, (∀ k, May W0 A m st w k → w2.heap[k]? = w.heap[k]?) → Reads w2 p u) := by
  have both : ∀ {p : PV}, (∀ w2 : World, Reads w2 p u) → Reads w p u ∧ (ok = true → ∀ w2 : World, (∀ k, May W0 A m st w k → w2.heap[k]? = w.heap[k]?) → Reads w2 p u) := fun h => ⟨h w, fun _ w2 _ => h w2⟩
  unfold cellSX at h
  split at h
  · simp only [Option.some.injEq, Prod.mk.injEq] at h
    obtain ⟨rfl, rfl, rfl⟩ := h
    simp only [AV.den, Option.some.injEq] at hx
    subst hx
    exact ⟨.row 0 [], by simp [SX.ev, evs], both fun w2 => by simp only [Reads]; exact ⟨none, 0, rfl, Nat.le_refl _, Nat.zero_le _, .inl trivial⟩⟩
  · rename_i v _
    simp only [AV.den, Option.some.injEq] at hx
    subst hx
    cases ho : v.oneCell' with
    | false => simp [ho] at h
    | true =>
      simp only [ho, cond_true, Option.some.injEq, Prod.mk.injEq] at h
      obtain ⟨rfl, rfl, rfl⟩ := h
      exact ⟨.v v, by simp [SX.ev], both fun w2 => by simp [Reads, ho]⟩
  · simp only [Option.some.injEq, Prod.mk.injEq] at h
    obtain ⟨rfl, rfl, rfl⟩ := h
    obtain ⟨h1, h2⟩ := sym_ev hR.sv hx
    exact ⟨.v u, h1, both fun w2 => by simp [Reads, h2]⟩
  · rename_i r
    simp only [Option.bind_eq_some_iff, Option.map_eq_some_iff, Prod.mk.injEq] at h
    obtain ⟨o', ho', e', hr, rfl, rfl, rfl⟩ := h
    have ha : A r := hA.1 r (by simp [Log.sees, bit_one])
    obtain ⟨o, v, fp, p, ho, hd, hm, hone, hlt, hfb, hp, hrd⟩ := thing hR (Option.bind_eq_some_iff.2 ⟨o', ho', hr⟩) ha
    rw [ho'] at ho
    cases ho
    simp only [AV.den, hm, Option.bind_some, hone, cond_true, Option.some.injEq] at hx
    subst hx
    exact ⟨p, hp, hrd w (fun _ _ => rfl), fun hok w2 hw2 => hrd w2 (fun k hk => hw2 k ⟨hlt k hk, hfb hok k hk, r, o', e', v, fp, ha, ho', hd, hm, hk⟩)⟩
  · cases h
def cellsSX (st : St) : List AV → Option (List SX × Bool × Log)
  | [] => some ([], true, Log.no)
  | x :: xs => (cellSX st x).bind fun (e, o1, l1) => (cellsSX st xs).map fun (es, o2, l2) => (e :: es, o1 && o2, l1.or l2)
theorem cellsSX_ok {A : Nat → Prop} {m : Map} {st : St} {w : World} (hR : Rel W0 A m st.heap.get w) : ∀ {xs : List AV} {es : List SX} {ok : Bool} {lg : Log} {us : List Value}, cellsSX st xs = some (es, ok, lg) → lg.Fits W0 A → denL m xs = some us →
    ∃ ps, evs W0.s W0.F es = some ps ∧ ps.length = us.length ∧ ∀ (i : Nat) (p : PV) (u : Value), ps[i]? = some p → us[i]? = some u → Reads w p u ∧ (ok = true → ∀ w2 : World, (∀ k, May W0 A m st w k → w2.heap[k]? = w.heap[k]?) → Reads w2 p u)
  | [], es, ok, lg, us, h, hA, hu => by
    simp only [cellsSX, Option.some.injEq, Prod.mk.injEq] at h
    obtain ⟨rfl, rfl, rfl⟩ := h
    simp only [denL, Option.some.injEq] at hu
    subst hu
    exact ⟨[], rfl, rfl, fun i p u hp => by simp at hp⟩
  | x :: xs, es, ok, lg, us, h, hA, hu => by
    simp only [cellsSX, Option.bind_eq_some_iff, Option.map_eq_some_iff] at h
    obtain ⟨⟨e, o1, l1⟩, he, ⟨es', o2, l2⟩, hes, h⟩ := h
    cases h
    simp only [denL, Option.bind_eq_some_iff, Option.map_eq_some_iff] at hu
    obtain ⟨v, hv, us', hus, rfl⟩ := hu
    obtain ⟨p, h1, h2, h2'⟩ := cellSX_ok hR he (or_A hA).1 hv
    obtain ⟨ps, h3, h4, h5⟩ := cellsSX_ok hR hes (or_A hA).2 hus
    refine ⟨p :: ps, by simp [evs, h1, h3], by simp [h4], fun i q u hq hu => ?_⟩
    cases i with
    | zero => simp at hq hu; subst hq; subst hu; exact ⟨h2, fun h => h2' (by simp at h; exact h.1)⟩
    | succ i =>
      obtain ⟨h6, h7⟩ := h5 i q u (by simpa using hq) (by simpa using hu)
      exact ⟨h6, fun h => h7 (by simp at h; exact h.2)⟩

/-- That it is whole; where that can be seen nothing is owed. -/
def wantW (e len : SX) : Log := match e, len with
  | .var i, .len (.var j) => cond (Nat.beq i j) Log.no (wantLen (.var i) (.len (.var j)))
  | e, len => wantLen e len
theorem wantW_ok {A : Nat → Prop} {m : Map} {st : St} {w : World} (hR : Rel W0 A m st.heap.get w) {r v sz : Nat} {lo len e : SX} {el : TypeId} {u : Value} (hl : lookS st r v = some (e, el, sz)) (ha : A r) (hx : (AV.sliceS r v lo len sz).den m = some u) (hf : (wantW e len).Fits W0 A) : (Fact.same len (.len e)).holds W0 := by
  unfold wantW at hf
  split at hf
  · rename_i i j
    cases hij : Nat.beq i j with
    | false => rw [hij] at hf; exact hf.2 _ (List.mem_singleton.2 rfl)
    | true =>
      have := Nat.eq_of_beq_eq_true hij
      subst this
      obtain ⟨b, l, n, hb, h1, h2, _⟩ := sliceS_inv hR.sv hx
      obtain ⟨k, cs, c, fz, g1, _⟩ := lookS_row hl hR ha hb
      exact ⟨k, ev_len g1, ev_len g1⟩
  · exact hf.2 _ (List.mem_singleton.2 rfl)
/-- Such a row reads as what is in it. -/
theorem ownReads {A : Nat → Prop} {m : Map} {st : St} {w : World} (hR : Rel W0 A m st.heap.get w) {r v sz : Nat} {lo len e : SX} {el : TypeId} {u : Value} (hl : lookS st r v = some (e, el, sz)) (hc : isC0 lo = true) (ha : A r) (hf : (Fact.same len (.len e)).holds W0) (hx : (AV.sliceS r v lo len sz).den m = some u) :
    ∃ (b : Nat × Nat) (n : Nat) (cs : List PV), m r v = some b ∧ W0.ev e = some (.row n cs) ∧ u = .slice (some ⟨b.1, 0, none⟩) n b.2 ∧ W0.heap.size ≤ b.1 ∧ b.1 < w.heap.size ∧ ∀ w2 : World, w2.heap[b.1]? = w.heap[b.1]? → Reads w2 (.row n cs) u := by
  obtain ⟨n, f1, f2⟩ := hf
  obtain ⟨b, l, n', hb, h1, h2, rfl⟩ := sliceS_inv hR.sv hx
  rw [isC0_ok hc] at h1
  rw [f1] at h2
  simp only [Option.some.injEq, PV.v.injEq, Value.int.injEq, true_and, Int.ofNat_inj] at h1 h2
  have hl0 : l = 0 := by omega
  subst hl0
  subst h2
  obtain ⟨o, ho, hs, hv, _, _, _, hlt0⟩ := lookS_ok hl
  obtain ⟨k, cs, c, fz, g1, g2, g3, g4, g5, g6, g7, g8, g9⟩ := lookS_row hl hR ha hb
  rw [ev_len g1] at f2
  simp only [Option.some.injEq, PV.v.injEq, Value.int.injEq, true_and, Int.ofNat_inj] at f2
  subst f2
  have hvm : (v, 0) ∈ o.vers := by rw [hv]; simp
  refine ⟨b, k, cs, hb, g1, by rw [Nat.zero_mul, Nat.sub_zero], (hR.abv r o v 0 b ha ho hvm hb).1 hlt0, hR.lt ha ho hvm hb, fun w2 hw2 => ?_⟩
  simp only [Reads]
  refine ⟨some ⟨b.1, 0 * sz, none⟩, b.2 - 0, rfl, by omega, by omega, .inr ⟨b.1, 0 * sz, rfl, ReadsL.of fun i p hp => ?_⟩⟩
  obtain ⟨x, rfl, hx1, hx2⟩ := g9 i p hp
  refine ⟨x, ?_, by simp only [Reads]; exact ⟨trivial, hx1⟩⟩
  simp only [World.cell?, hw2, g2, Nat.zero_mul, Nat.zero_add]
  exact hx2
/-- What is given, written down; whether it may live on. -/
def leafSX (st : St) : AV → Option (SX × Bool × Log)
  | .slice r v lo sz len cap opn => (look st r v).bind fun (o, n) => cond (Nat.ble (lo * sz + len * sz) n && (cond opn (o.opn && Nat.beq o.esz sz && Nat.blt 0 sz && Nat.ble cap lo) (Nat.ble len cap && Nat.ble cap 9223372036854775807)))
      ((cellsSX st (cellsAt o (lo * sz) (len * sz))).map fun (es, _, lg) => (.lit len es, false, (Log.sees r).or lg)) none
  | .sliceS r v lo len sz => (lookS st r v).bind fun (e, el, esz) => cond (isC0 lo && Nat.beq sz esz) (some (e, false, (Log.sees r).or (wantW e len))) none
  | x => cellSX st x
theorem leafSX_ok {A : Nat → Prop} {m : Map} {st : St} {w : World} (hR : Rel W0 A m st.heap.get w) {x : AV} {e : SX} {ok : Bool} {lg : Log} {u : Value} (h : leafSX st x = some (e, ok, lg)) (hA : lg.Fits W0 A) (hx : x.den m = some u) :
    ∃ p, e.ev W0.s W0.F = some p ∧ Reads w p u ∧ (ok = true → ∀ w2 : World, (∀ k, May W0 A m st w k → w2.heap[k]? = w.heap[k]?) → Reads w2 p u) := by
  unfold leafSX at h
  split at h
  · rename_i r v lo sz len cap opn
    simp only [Option.bind_eq_some_iff] at h
    obtain ⟨⟨o, n⟩, hlk, h⟩ := h
    obtain ⟨ho, hv⟩ := look_ok hlk
    cases hc : (Nat.ble (lo * sz + len * sz) n && (cond opn (o.opn && Nat.beq o.esz sz && Nat.blt 0 sz && Nat.ble cap lo) (Nat.ble len cap && Nat.ble cap 9223372036854775807))) with
    | false => simp [hc] at h
    | true =>
      simp only [hc, cond_true, Option.map_eq_some_iff] at h
      obtain ⟨⟨es, ok', l1⟩, hes, h⟩ := h
      cases h
      have ha : A r := (or_A hA).1.1 r (by simp [Log.sees, bit_one])
      simp only [AV.den, Option.map_eq_some_iff] at hx
      obtain ⟨b, hb, rfl⟩ := hx
      obtain ⟨b', hb', hB⟩ := hR.blk r o ha ho v n hv
      rw [hb] at hb'; cases hb'
      simp only [Bool.and_eq_true, Nat.ble_eq] at hc
      have hB' := hB
      obtain ⟨c, fz, hcc, _, hnl, hnc, _, hsize⟩ := hB'
      obtain ⟨l, hd, hll, _, hcell⟩ := hB.cells (P := (default : Program)) hc.1
      have hcap : len ≤ (cond opn (b.2 - cap) cap) ∧ (cond opn (b.2 - cap) cap) ≤ maxLen := by
        cases opn with
        | false => simp only [cond_false] at hc ⊢; simp only [Bool.and_eq_true, Nat.ble_eq] at hc; exact ⟨hc.2.1, hc.2.2⟩
        | true =>
          simp only [cond_true, Bool.and_eq_true, Nat.beq_eq, Nat.blt_eq, Nat.ble_eq] at hc ⊢
          obtain ⟨hc1, ⟨⟨hop, hez⟩, hpos⟩, hcl⟩ := hc
          simp only [hop, cond_true, hez] at hsize
          have : (lo + len) * sz ≤ b.2 * sz := by rw [Nat.add_mul]; omega
          have := Nat.le_of_mul_le_mul_right this hpos
          unfold maxLen
          omega
      obtain ⟨ps, h1, h2, h3⟩ := cellsSX_ok hR hes (or_A hA).2 hd
      refine ⟨.row len ps, by simp [SX.ev, h1], ?_, fun h => by cases h⟩
      simp only [Reads]
      refine ⟨some ⟨b.1, lo * sz, none⟩, _, rfl, hcap.1, hcap.2, .inr ⟨b.1, lo * sz, rfl, ReadsL.of fun i p hp => ?_⟩⟩
      have hi : i < l.length := by rw [← h2]; exact (List.getElem?_eq_some_iff.1 hp).1
      exact ⟨l[i], hcell i _ (List.getElem?_eq_getElem hi), (h3 i p _ hp (List.getElem?_eq_getElem hi)).1⟩
  · rename_i r v lo len sz
    simp only [Option.bind_eq_some_iff] at h
    obtain ⟨⟨e', el, esz⟩, hl, h⟩ := h
    simp only [cond_eq_ite, Bool.and_eq_true, Nat.beq_eq] at h
    split at h
    · rename_i hc
      have hz := hc.2
      subst hz
      cases h
      have ha : A r := (or_A hA).1.1 r (by simp [Log.sees, bit_one])
      obtain ⟨b, n, cs, h1, h2, h3, _, _, h4⟩ := ownReads hR hl hc.1 ha (wantW_ok hR hl ha hx (or_A hA).2) hx
      exact ⟨_, h2, h4 w rfl, fun h => by cases h⟩
    · cases h
  · exact cellSX_ok hR h hA hx
def leafAll (st : St) : List AV → List Bool → Option (List SX × Log)
  | [], _ => some ([], Log.no)
  | x :: xs, lk => (leafSX st x).bind fun (e, ok, l1) => cond (ok || !(lk.headD false)) ((leafAll st xs lk.tail).map fun (es, l2) => (e :: es, l1.or l2)) none
theorem leafAll_ok {A : Nat → Prop} {m : Map} {st : St} {w : World} (hR : Rel W0 A m st.heap.get w) : ∀ {xs : List AV} {lk : List Bool} {es : List SX} {lg : Log} {us : List Value}, leafAll st xs lk = some (es, lg) → lg.Fits W0 A → denL m xs = some us →
    ∃ ps, evs W0.s W0.F es = some ps ∧ ps.length = us.length ∧ ∀ (i : Nat) (p : PV) (u : Value), ps[i]? = some p → us[i]? = some u → Reads w p u ∧ (lk.getD i false = true → ∀ w2 : World, (∀ k, May W0 A m st w k → w2.heap[k]? = w.heap[k]?) → Reads w2 p u)
  | [], lk, es, lg, us, h, hA, hu => by
    simp only [leafAll, Option.some.injEq, Prod.mk.injEq] at h
    obtain ⟨rfl, rfl⟩ := h
    simp only [denL, Option.some.injEq] at hu
    subst hu
    exact ⟨[], rfl, rfl, fun i p u hp => by simp at hp⟩
  | x :: xs, lk, es, lg, us, h, hA, hu => by
    simp only [leafAll, Option.bind_eq_some_iff] at h
    obtain ⟨⟨e, ok, l1⟩, he, h⟩ := h
    cases hc : (ok || !(lk.headD false)) with
    | false => simp only [hc, cond_false] at h; cases h
    | true =>
      simp only [hc, cond_true, Option.map_eq_some_iff] at h
      obtain ⟨⟨es', l2⟩, hes, h⟩ := h
      cases h
      simp only [denL, Option.bind_eq_some_iff, Option.map_eq_some_iff] at hu
      obtain ⟨v, hv, us', hus, rfl⟩ := hu
      obtain ⟨p, h1, h2, h2'⟩ := leafSX_ok hR he (or_A hA).1 hv
      obtain ⟨ps, h3, h4, h5⟩ := leafAll_ok hR hes (or_A hA).2 hus
      refine ⟨p :: ps, by simp [evs, h1, h3], by simp [h4], fun i q u hq hu => ?_⟩
      cases i with
      | zero =>
        simp at hq hu
        subst hq; subst hu
        refine ⟨h2, fun hl => h2' ?_⟩
        cases lk with
        | nil => simp at hl
        | cons a lk => simp at hl hc; subst hl; simpa using hc
      | succ i =>
        obtain ⟨h6, h7⟩ := h5 i q u (by simpa using hq) (by simpa using hu)
        refine ⟨h6, fun hl => h7 ?_⟩
        cases lk with
        | nil => simp at hl
        | cons a lk => simpa using hl

/-! What is answered. -/
def rowsAt : List CK → Nat → List Nat
  | [], _ => []
  | .row :: ks, j => j :: rowsAt ks (j + 1)
  | _ :: ks, j => rowsAt ks (j + 1)
def outD (g : Nat → SX) : List CK → Nat → Nat → Nat → List Nat → Option (List AV × List Fact × List Nat × List (Nat × TypeId × Nat))
  | [], _, _, _, p => some ([], [], p, [])
  | .row :: ks, j, nx, no, p => (outD g ks (j + 1) (nx + 1) no p).map fun (cs, fs, p', os) => (.dat nx :: cs, fs, p', os)
  | .num :: ks, j, nx, no, p => (outD g ks (j + 1) nx no p).map fun (cs, fs, p', os) => (.sym (g j) :: cs, .ok (g j) :: fs, p', os)
  | .truth :: ks, j, nx, no, p => match p with
    | b :: p => (outD g ks (j + 1) nx no p).map fun (cs, fs, p', os) => (.val (.bool (Nat.beq b 1)) :: cs, .is (g j) (.bool (Nat.beq b 1)) :: fs, p', os)
    | [] => none
  | .own el sz false :: ks, j, nx, no, p => (outD g ks (j + 1) nx (no + 1) p).map fun (cs, fs, p', os) => (.sliceS no 0 c0 (.len (g j)) sz :: cs, fs, p', (j, el, sz) :: os)
  | .own el sz true :: ks, j, nx, no, p => match p with
    | 0 :: p => (outD g ks (j + 1) nx no p).map fun (cs, fs, p', os) => (.val (.slice none 0 0) :: cs, .is (.len (g j)) (.int .i64 0) :: fs, p', os)
    | (_ + 1) :: p => (outD g ks (j + 1) nx (no + 1) p).map fun (cs, fs, p', os) => (.sliceS no 0 c0 (.len (g j)) sz :: cs, .rng c0 (.len (g j)) :: fs, p', (j, el, sz) :: os)
    | [] => none
theorem rowsAt_lt : ∀ (ks : List CK) (j x : Nat), x ∈ rowsAt ks j → j ≤ x ∧ x < j + ks.length
  | [], j, x, h => by simp [rowsAt] at h
  | .row :: ks, j, x, h => by
    rcases List.mem_cons.1 h with rfl | h
    · simp
    · have := rowsAt_lt ks (j + 1) x h; simp; omega
  | .num :: ks, j, x, h => by have := rowsAt_lt ks (j + 1) x h; simp; omega
  | .truth :: ks, j, x, h => by have := rowsAt_lt ks (j + 1) x h; simp; omega
  | .own _ _ _ :: ks, j, x, h => by have := rowsAt_lt ks (j + 1) x h; simp; omega
/-- Which are such rows. -/
theorem outD_os {g : Nat → SX} : ∀ (ks : List CK) (j nx no : Nat) (p : List Nat) {cs : List AV} {fs : List Fact} {p' : List Nat} {os : List (Nat × TypeId × Nat)}, outD g ks j nx no p = some (cs, fs, p', os) →
    os.length ≤ ks.length ∧ (∀ (t x : Nat) (el : TypeId) (sz : Nat), os[t]? = some (x, el, sz) → j ≤ x ∧ ∃ may, ks[x - j]? = some (.own el sz may) ∧ (may = true → Fact.rng c0 (.len (g x)) ∈ fs)) ∧ ∀ (t t' x x' : Nat) (el el' : TypeId) (sz sz' : Nat), os[t]? = some (x, el, sz) → os[t']? = some (x', el', sz') → x = x' → t = t' := by
  have key : ∀ (k : CK) (ks : List CK) (j : Nat) {fs1 fs : List Fact} {os : List (Nat × TypeId × Nat)}, (os.length ≤ ks.length ∧ (∀ (t x : Nat) (el : TypeId) (sz : Nat), os[t]? = some (x, el, sz) → j + 1 ≤ x ∧ ∃ may, ks[x - (j + 1)]? = some (.own el sz may) ∧ (may = true → Fact.rng c0 (.len (g x)) ∈ fs1)) ∧ ∀ (t t' x x' : Nat) (el el' : TypeId) (sz sz' : Nat), os[t]? = some (x, el, sz) → os[t']? = some (x', el', sz') → x = x' → t = t') → (∀ f ∈ fs1, f ∈ fs) →
      os.length ≤ (k :: ks).length ∧ (∀ (t x : Nat) (el : TypeId) (sz : Nat), os[t]? = some (x, el, sz) → j ≤ x ∧ ∃ may, (k :: ks)[x - j]? = some (.own el sz may) ∧ (may = true → Fact.rng c0 (.len (g x)) ∈ fs)) ∧ ∀ (t t' x x' : Nat) (el el' : TypeId) (sz sz' : Nat), os[t]? = some (x, el, sz) → os[t']? = some (x', el', sz') → x = x' → t = t' := by
    intro k ks j fs1 fs os h hs
    refine ⟨by have := h.1; simp; omega, fun t x el sz ht => ?_, h.2.2⟩
    obtain ⟨h1, may, h2, h3⟩ := h.2.1 t x el sz ht
    exact ⟨by omega, may, by rw [show x - j = (x - (j + 1)) + 1 by omega]; simpa using h2, fun hm => hs _ (h3 hm)⟩
  have key2 : ∀ (el0 : TypeId) (sz0 : Nat) (may0 : Bool) (ks : List CK) (j : Nat) {fs1 fs : List Fact} {os : List (Nat × TypeId × Nat)}, (os.length ≤ ks.length ∧ (∀ (t x : Nat) (el : TypeId) (sz : Nat), os[t]? = some (x, el, sz) → j + 1 ≤ x ∧ ∃ may, ks[x - (j + 1)]? = some (.own el sz may) ∧ (may = true → Fact.rng c0 (.len (g x)) ∈ fs1)) ∧ ∀ (t t' x x' : Nat) (el el' : TypeId) (sz sz' : Nat), os[t]? = some (x, el, sz) → os[t']? = some (x', el', sz') → x = x' → t = t') → (∀ f ∈ fs1, f ∈ fs) → (may0 = true → Fact.rng c0 (.len (g j)) ∈ fs) →
      ((j, el0, sz0) :: os).length ≤ (CK.own el0 sz0 may0 :: ks).length ∧ (∀ (t x : Nat) (el : TypeId) (sz : Nat), ((j, el0, sz0) :: os)[t]? = some (x, el, sz) → j ≤ x ∧ ∃ may, (CK.own el0 sz0 may0 :: ks)[x - j]? = some (.own el sz may) ∧ (may = true → Fact.rng c0 (.len (g x)) ∈ fs)) ∧ ∀ (t t' x x' : Nat) (el el' : TypeId) (sz sz' : Nat), ((j, el0, sz0) :: os)[t]? = some (x, el, sz) → ((j, el0, sz0) :: os)[t']? = some (x', el', sz') → x = x' → t = t' := by
    intro el0 sz0 may0 ks j fs1 fs os h hs h0
    refine ⟨by have := h.1; simp; omega, fun t x el sz ht => ?_, fun t t' x x' el el' sz sz' ht ht' hx => ?_⟩
    · cases t with
      | zero =>
        simp only [List.getElem?_cons_zero, Option.some.injEq, Prod.mk.injEq] at ht
        obtain ⟨rfl, rfl, rfl⟩ := ht
        exact ⟨Nat.le_refl _, may0, by simp, h0⟩
      | succ t =>
        obtain ⟨h1, may, h2, h3⟩ := h.2.1 t x el sz (by simpa using ht)
        exact ⟨by omega, may, by rw [show x - j = (x - (j + 1)) + 1 by omega]; simpa using h2, fun hm => hs _ (h3 hm)⟩
    · cases t with
      | zero =>
        simp only [List.getElem?_cons_zero, Option.some.injEq, Prod.mk.injEq] at ht
        cases t' with
        | zero => rfl
        | succ t' =>
          have := (h.2.1 t' x' el' sz' (by simpa using ht')).1
          omega
      | succ t =>
        cases t' with
        | zero =>
          simp only [List.getElem?_cons_zero, Option.some.injEq, Prod.mk.injEq] at ht'
          have := (h.2.1 t x el sz (by simpa using ht)).1
          omega
        | succ t' => rw [h.2.2 t t' x x' el el' sz sz' (by simpa using ht) (by simpa using ht') hx]
  intro ks
  induction ks with
  | nil =>
    intro j nx no p cs fs p' os h
    simp only [outD, Option.some.injEq, Prod.mk.injEq] at h
    obtain ⟨_, _, _, rfl⟩ := h
    exact ⟨Nat.le_refl _, fun t x el sz ht => by simp at ht, fun t t' x x' el el' sz sz' ht => by simp at ht⟩
  | cons k ks ih =>
    intro j nx no p cs fs p' os h
    match k, p, h with
    | .row, p, h =>
      simp only [outD, Option.map_eq_some_iff] at h
      obtain ⟨⟨cs', fs', p1, os'⟩, h1, he⟩ := h
      cases he
      exact key _ _ _ (ih _ _ _ _ h1) (fun f hf => hf)
    | .num, p, h =>
      simp only [outD, Option.map_eq_some_iff] at h
      obtain ⟨⟨cs', fs', p1, os'⟩, h1, he⟩ := h
      cases he
      exact key _ _ _ (ih _ _ _ _ h1) (fun f hf => by simp [hf])
    | .truth, [], h => simp [outD] at h
    | .truth, b :: p, h =>
      simp only [outD, Option.map_eq_some_iff] at h
      obtain ⟨⟨cs', fs', p1, os'⟩, h1, he⟩ := h
      cases he
      exact key _ _ _ (ih _ _ _ _ h1) (fun f hf => by simp [hf])
    | .own el sz false, p, h =>
      simp only [outD, Option.map_eq_some_iff] at h
      obtain ⟨⟨cs', fs', p1, os'⟩, h1, he⟩ := h
      cases he
      exact key2 _ _ _ _ _ (ih _ _ _ _ h1) (fun f hf => hf) (fun h => by cases h)
    | .own el sz true, [], h => simp [outD] at h
    | .own el sz true, 0 :: p, h =>
      simp only [outD, Option.map_eq_some_iff] at h
      obtain ⟨⟨cs', fs', p1, os'⟩, h1, he⟩ := h
      cases he
      exact key _ _ _ (ih _ _ _ _ h1) (fun f hf => by simp [hf])
    | .own el sz true, (b + 1) :: p, h =>
      simp only [outD, Option.map_eq_some_iff] at h
      obtain ⟨⟨cs', fs', p1, os'⟩, h1, he⟩ := h
      cases he
      exact key2 _ _ _ _ _ (ih _ _ _ _ h1) (fun f hf => by simp [hf]) (fun _ => by simp)
theorem outD_ok {m : Map} (hs : ∀ e, m.s e = W0.sv e) {g : Nat → SX} {val : Nat → Value} {w : World} : ∀ (ks : List CK) (j nx no : Nat) (p : List Nat) {cs : List AV} {fs : List Fact} {p' : List Nat} {os : List (Nat × TypeId × Nat)}, outD g ks j nx no p = some (cs, fs, p', os) → (∀ f ∈ fs, f.holds W0) →
    (∀ i, j ≤ i → i < j + ks.length → ∃ q, W0.ev (g i) = some q ∧ Reads w q (val i)) → (∀ q x, (rowsAt ks j)[q]? = some x → ∃ fp, m.d (nx + q) = some (val x, fp)) →
    (∀ (t x : Nat) (el : TypeId) (sz : Nat), os[t]? = some (x, el, sz) → ∃ b cap n cs, m (no + t) 0 = some (b, cap) ∧ W0.ev (g x) = some (.row n cs) ∧ val x = .slice (some ⟨b, 0, none⟩) n cap) →
    (∀ i el sz, j ≤ i → ks[i - j]? = some (.own el sz true) → W0.ev (.len (g i)) = some (.v (.int .i64 0)) → val i = .slice none 0 0) → denL m cs = some ((List.range' j ks.length).map val)
  | [], j, nx, no, p, cs, fs, p', os, h, _, _, _, _, _ => by
    simp only [outD, Option.some.injEq, Prod.mk.injEq] at h
    obtain ⟨rfl, _⟩ := h
    rfl
  | .row :: ks, j, nx, no, p, cs, fs, p', os, h, hf, hv, hd, ho, hn => by
    simp only [outD, Option.map_eq_some_iff] at h
    obtain ⟨⟨cs', fs', p1, os'⟩, h1, he⟩ := h
    cases he
    have ih := outD_ok hs ks (j + 1) (nx + 1) no p h1 hf (fun i h1 h2 => hv i (by omega) (by simp; omega)) (fun q x hq => by
      have := hd (q + 1) x (by simpa [rowsAt] using hq)
      rwa [show nx + (q + 1) = nx + 1 + q by omega] at this) ho (fun i el sz hi hk => hn i el sz (by omega) (by rw [show i - j = (i - (j + 1)) + 1 by omega]; simpa using hk))
    obtain ⟨fp, hfp⟩ := hd 0 j (by simp [rowsAt])
    obtain ⟨q, _, hq⟩ := hv j (Nat.le_refl _) (by simp)
    rw [Nat.add_zero] at hfp
    simp [denL, AV.den, hfp, hq.one, ih, List.range'_succ]
  | .num :: ks, j, nx, no, p, cs, fs, p', os, h, hf, hv, hd, ho, hn => by
    simp only [outD, Option.map_eq_some_iff] at h
    obtain ⟨⟨cs', fs', p1, os'⟩, h1, he⟩ := h
    cases he
    have ih := outD_ok hs ks (j + 1) nx no p h1 (fun f h => hf f (by simp [h])) (fun i h1 h2 => hv i (by omega) (by simp; omega)) (fun q x hq => hd q x (by simpa [rowsAt] using hq)) ho (fun i el sz hi hk => hn i el sz (by omega) (by rw [show i - j = (i - (j + 1)) + 1 by omega]; simpa using hk))
    obtain ⟨x, hx, ho⟩ := hf (.ok (g j)) (by simp)
    obtain ⟨q, hq1, hq⟩ := hv j (Nat.le_refl _) (by simp)
    rw [hx] at hq1
    cases hq1
    simp only [Reads] at hq
    rw [denL, ev_sym hs hx ho]
    simp [ih, List.range'_succ, hq.1]
  | .truth :: ks, j, nx, no, [], cs, fs, p', os, h, hf, hv, hd, ho, hn => by simp [outD] at h
  | .truth :: ks, j, nx, no, b :: p, cs, fs, p', os, h, hf, hv, hd, ho, hn => by
    simp only [outD, Option.map_eq_some_iff] at h
    obtain ⟨⟨cs', fs', p1, os'⟩, h1, he⟩ := h
    cases he
    have ih := outD_ok hs ks (j + 1) nx no p h1 (fun f h => hf f (by simp [h])) (fun i h1 h2 => hv i (by omega) (by simp; omega)) (fun q x hq => hd q x (by simpa [rowsAt] using hq)) ho (fun i el sz hi hk => hn i el sz (by omega) (by rw [show i - j = (i - (j + 1)) + 1 by omega]; simpa using hk))
    have hx : W0.ev (g j) = some (.v (.bool (Nat.beq b 1))) := hf (.is (g j) (.bool (Nat.beq b 1))) (by simp)
    obtain ⟨q, hq1, hq⟩ := hv j (Nat.le_refl _) (by simp)
    rw [hx] at hq1
    cases hq1
    simp only [Reads] at hq
    simp [denL, AV.den, ih, List.range'_succ, hq.1]
  | .own el sz false :: ks, j, nx, no, p, cs, fs, p', os, h, hf, hv, hd, ho, hn => by
    simp only [outD, Option.map_eq_some_iff] at h
    obtain ⟨⟨cs', fs', p1, os'⟩, h1, he⟩ := h
    cases he
    have ih := outD_ok hs ks (j + 1) nx (no + 1) p h1 hf (fun i h1 h2 => hv i (by omega) (by simp; omega)) (fun q x hq => hd q x (by simpa [rowsAt] using hq)) (fun t x el sz ht => by
      have := ho (t + 1) x el sz (by simpa using ht)
      rwa [show no + (t + 1) = no + 1 + t by omega] at this) (fun i el sz hi hk => hn i el sz (by omega) (by rw [show i - j = (i - (j + 1)) + 1 by omega]; simpa using hk))
    obtain ⟨b, cap, n, cs2, g1, g2, g3⟩ := ho 0 j el sz rfl
    rw [Nat.add_zero] at g1
    have := wholeS (W0 := W0) (m := m) (r := no) (v := 0) (b := (b, cap)) (lo := c0) (len := .len (g j)) (l := 0) (sz := sz) hs g1 rfl (ev_len g2)
    simp only [Nat.zero_mul, Nat.sub_zero] at this
    rw [denL, this]
    simp [ih, List.range'_succ, g3]
  | .own el sz true :: ks, j, nx, no, [], cs, fs, p', os, h, hf, hv, hd, ho, hn => by simp [outD] at h
  | .own el sz true :: ks, j, nx, no, 0 :: p, cs, fs, p', os, h, hf, hv, hd, ho, hn => by
    simp only [outD, Option.map_eq_some_iff] at h
    obtain ⟨⟨cs', fs', p1, os'⟩, h1, he⟩ := h
    cases he
    have ih := outD_ok hs ks (j + 1) nx no p h1 (fun f h => hf f (by simp [h])) (fun i h1 h2 => hv i (by omega) (by simp; omega)) (fun q x hq => hd q x (by simpa [rowsAt] using hq)) ho (fun i el sz hi hk => hn i el sz (by omega) (by rw [show i - j = (i - (j + 1)) + 1 by omega]; simpa using hk))
    have hx : W0.ev (.len (g j)) = some (.v (.int .i64 0)) := hf (.is (.len (g j)) (.int .i64 0)) (by simp)
    have := hn j el sz (Nat.le_refl _) (by simp) hx
    simp [denL, AV.den, ih, List.range'_succ, this]
  | .own el sz true :: ks, j, nx, no, (b + 1) :: p, cs, fs, p', os, h, hf, hv, hd, ho, hn => by
    simp only [outD, Option.map_eq_some_iff] at h
    obtain ⟨⟨cs', fs', p1, os'⟩, h1, he⟩ := h
    cases he
    have ih := outD_ok hs ks (j + 1) nx (no + 1) p h1 (fun f h => hf f (by simp [h])) (fun i h1 h2 => hv i (by omega) (by simp; omega)) (fun q x hq => hd q x (by simpa [rowsAt] using hq)) (fun t x el sz ht => by
      have := ho (t + 1) x el sz (by simpa using ht)
      rwa [show no + (t + 1) = no + 1 + t by omega] at this) (fun i el sz hi hk => hn i el sz (by omega) (by rw [show i - j = (i - (j + 1)) + 1 by omega]; simpa using hk))
    obtain ⟨b, cap, n, cs2, g1, g2, g3⟩ := ho 0 j el sz rfl
    rw [Nat.add_zero] at g1
    have := wholeS (W0 := W0) (m := m) (r := no) (v := 0) (b := (b, cap)) (lo := c0) (len := .len (g j)) (l := 0) (sz := sz) hs g1 rfl (ev_len g2)
    simp only [Nat.zero_mul, Nat.sub_zero] at this
    rw [denL, this]
    simp [ih, List.range'_succ, g3]
def assembleA : Sh → List AV → List AV
  | none :: s, u :: us => u :: assembleA s us
  | some n :: s, us => .agg (us.take n) :: assembleA s (us.drop n)
  | _, _ => []
theorem assembleA_ok {m : Map} : ∀ (s : Sh) (xs : List AV) {us : List Value}, denL m xs = some us → us.length = shLen s → denL m (assembleA s xs) = some (assemble s us)
  | [], xs, us, h, hl => by
    have : us = [] := List.eq_nil_of_length_eq_zero (by simpa [shLen] using hl)
    subst this
    have := denL_length h
    have : xs = [] := List.eq_nil_of_length_eq_zero (by simpa using this.symm)
    subst this
    rfl
  | none :: s, [], us, h, hl => by
    simp only [denL, Option.some.injEq] at h
    subst h
    simp [shLen] at hl
  | none :: s, x :: xs, us, h, hl => by
    simp only [denL, Option.bind_eq_some_iff, Option.map_eq_some_iff] at h
    obtain ⟨v, hv, us', hus, rfl⟩ := h
    simp [assembleA, assemble, denL, hv, assembleA_ok s xs hus (by simpa [shLen] using hl)]
  | some n :: s, xs, us, h, hl => by
    have ih := assembleA_ok s (xs.drop n) (denL_drop n h) (by simp [shLen] at hl ⊢; omega)
    simp [assembleA, assemble, denL, AV.den, denL_take n h, ih]
def answerA (s : Sh) (xs : List AV) : AV := match assembleA s xs with | [x] => x | xs => .tuple xs
theorem answerA_ok {m : Map} {s : Sh} {xs : List AV} {us : List Value} (h : denL m xs = some us) (hl : us.length = shLen s) : (answerA s xs).den m = some (answer s us) := by
  have h1 := assembleA_ok s xs h hl
  unfold answerA answer
  generalize assembleA s xs = ys at *
  generalize assemble s us = vs at *
  have hlen := denL_length h1
  match ys, vs, hlen with
  | [], [], _ => rfl
  | [y], [v], _ =>
    simp only [denL, Option.bind_eq_some_iff, Option.map_eq_some_iff] at h1
    obtain ⟨v', hv, b, hb, he⟩ := h1
    cases he
    exact hv
  | y1 :: y2 :: ys, v1 :: v2 :: vs, _ => simp only [AV.den, h1, Option.map_some]

/-! Rows that are answered, and nobody else's. -/
def newOwns : List (SX × TypeId × Nat) → Nat → T ARoot → T ARoot
  | [], _, h => h
  | R :: Rs, n, h => newOwns Rs (n + 1) (T.set 24 h n (some (symRoot R.1 R.2.1 R.2.2 0)))
theorem newOwns_get : ∀ (Rs : List (SX × TypeId × Nat)) (n : Nat) (h : T ARoot) (r : Nat), n + Rs.length < 16777215 → (¬ (n ≤ r ∧ r < n + Rs.length)) → (newOwns Rs n h).get r = h.get r
  | [], n, h, r, _, _ => rfl
  | R :: Rs, n, h, r, hb, hr => by
    simp only [List.length_cons] at hb hr
    rw [newOwns, newOwns_get Rs (n + 1) _ r (by omega) (by omega), T.get_set _ _ _ _ _ (show n + 1 < 16777216 by omega), if_neg (by omega)]
def St.owns (st : St) (es : List (SX × TypeId × Nat)) : St := { st with heap := newOwns es st.next st.heap, next := st.next + es.length }
/-- One more root is a block that is there and nobody's. -/
theorem adoptS {A Tc : Nat → Prop} {m m1 : Map} {g g1 : Heap} {w w1 : World} {r : Nat} {e : SX} {el : TypeId} {sz : Nat} {b : Nat × Nat} (S : Step W0 A Tc m g w m1 g1 w1) (hr1 : ∀ v, m1 r v = none) (hrow : RowAt W0 w1 (symRoot e el sz 0) b e) (hb : w.heap.size ≤ b.1) (h0 : W0.heap.size ≤ w.heap.size)
    (hno : ∀ r' o v n b', A r' → g1 r' = some o → (v, n) ∈ o.vers → m1 r' v = some b' → b'.1 ≠ b.1) (hnd : ∀ r' o R v fp, A r' → g1 r' = some o → o.dat = some R → m1.d r' = some (v, fp) → ¬ fp b.1) :
    Step W0 A (fun k => Tc k ∨ k = r) m g w (m1.new r b) (g1.upd r (symRoot e el sz 0)) w1 := by
  have hle : m1.Le (m1.new r b) := ⟨fun k v x hx => by
    show (if k = r ∧ v = 0 then some b else m1 k v) = some x
    split
    · rename_i h; rw [h.1, hr1 v] at hx; cases hx
    · exact hx, fun _ _ h => h, fun _ _ h => h⟩
  have hmk : ∀ k, k ≠ r → ∀ v, (m1.new r b) k v = m1 k v := fun k hk v => by simp [Map.new, hk]
  have hmr : ∀ v x, (m1.new r b) r v = some x → v = 0 ∧ x = b := fun v x hx => by
    by_cases hv : v = 0
    · subst hv; simp [Map.new] at hx; exact ⟨rfl, hx.symm⟩
    · simp [Map.new, hv, hr1] at hx
  have hup : ∀ k o, (g1.upd r (symRoot e el sz 0)) k = some o → (k = r ∧ o = symRoot e el sz 0) ∨ (k ≠ r ∧ g1 k = some o) := fun k o ho => by
    by_cases hk : k = r
    · simp [Heap.upd, hk] at ho; exact .inl ⟨hk, ho.symm⟩
    · simp [Heap.upd, hk] at ho; exact .inr ⟨hk, ho⟩
  have hR := S.rel
  refine ⟨S.ext.trans hle, ⟨?_, ?_, ?_, hR.size0, hR.amb, ?_, ?_, ?_, hR.sv, hR.same, ?_, ?_⟩, fun k hk v => ?_, fun k hk => S.dkeep k (fun h => hk (.inl h)), fun k hk => ?_, S.os, S.tape, S.output, S.size, ?_, ?_, ?_⟩
  · intro k o hA ho v n hv
    rcases hup k o ho with ⟨rfl, rfl⟩ | ⟨hk, ho1⟩
    · simp only [symRoot, List.mem_singleton, Prod.mk.injEq] at hv
      obtain ⟨rfl, rfl⟩ := hv
      exact ⟨b, by simp [Map.new], hrow.blk⟩
    · obtain ⟨b', hb', hB⟩ := hR.blk k o hA ho1 v n hv
      exact ⟨b', hle.1 _ _ _ hb', hB.mono hle rfl⟩
  · intro k k' o o' v n v' n' b1 b2 hA hA' ho ho' hv hv' hb1 hb2 he
    rcases hup k o ho with ⟨rfl, rfl⟩ | ⟨hk, ho1⟩
    · rcases hup k' o' ho' with ⟨rfl, rfl⟩ | ⟨hk', ho2⟩
      · rfl
      · exfalso
        obtain ⟨_, rfl⟩ := hmr v b1 hb1
        rw [hmk k' hk'] at hb2
        exact hno k' o' v' n' b2 hA' ho2 hv' hb2 he.symm
    · rw [hmk k hk] at hb1
      rcases hup k' o' ho' with ⟨rfl, rfl⟩ | ⟨hk', ho2⟩
      · exfalso
        obtain ⟨_, rfl⟩ := hmr v' b2 hb2
        exact hno k o v n b1 hA ho1 hv hb1 he
      · rw [hmk k' hk'] at hb2
        exact hR.inj k k' o o' v n v' n' b1 b2 hA hA' ho1 ho2 hv hv' hb1 hb2 he
  · intro k o v n rest hA ho hv v' hlt
    rcases hup k o ho with ⟨rfl, rfl⟩ | ⟨hk, ho1⟩
    · have : ¬ v' = 0 := by omega
      simp [Map.new, this, hr1]
    · rw [hmk k hk]; exact hR.top k o v n rest hA ho1 hv v' hlt
  · intro k o v n b1 hA ho hv hb1
    rcases hup k o ho with ⟨rfl, rfl⟩ | ⟨hk, ho1⟩
    · obtain ⟨_, rfl⟩ := hmr v b1 hb1
      exact ⟨fun _ => Nat.le_trans h0 hb, fun h => by cases h⟩
    · rw [hmk k hk] at hb1; exact hR.abv k o v n b1 hA ho1 hv hb1
  · intro k o R hA ho hd
    rcases hup k o ho with ⟨rfl, rfl⟩ | ⟨hk, ho1⟩
    · cases hd
    · exact hR.dat k o R hA ho1 hd
  · intro k o R v fp k' o' u n b1 hA hA' ho hd hm ho' hu hb1 hfp
    rcases hup k o ho with ⟨rfl, rfl⟩ | ⟨hk, ho1⟩
    · cases hd
    · rcases hup k' o' ho' with ⟨rfl, rfl⟩ | ⟨hk', ho2⟩
      · obtain ⟨_, rfl⟩ := hmr u b1 hb1
        exact hnd k o R v fp hA ho1 hd hm hfp
      · rw [hmk k' hk'] at hb1
        exact hR.disj k o R v fp k' o' u n b1 hA hA' ho1 hd hm ho2 hu hb1 hfp
  · intro k o R v fp hA ho hd hm
    rcases hup k o ho with ⟨rfl, rfl⟩ | ⟨hk, ho1⟩
    · cases hd
    · exact hR.fpb k o R v fp hA ho1 hd hm
  · intro k o R v n b1 hA ho hs hv hb1
    rcases hup k o ho with ⟨rfl, rfl⟩ | ⟨hk, ho1⟩
    · simp only [symRoot, Option.some.injEq] at hs
      subst hs
      obtain ⟨_, rfl⟩ := hmr v b1 hb1
      exact hrow
    · rw [hmk k hk] at hb1
      exact hR.row k o R v n b1 hA ho1 hs hv hb1
  · have hk' : k ≠ r := fun h => hk (.inr h)
    rw [hmk k hk']; exact S.mkeep k (fun h => hk (.inl h)) v
  · have hk' : k ≠ r := fun h => hk (.inr h)
    simp only [Heap.upd, hk', if_false]; exact S.gk k (fun h => hk (.inl h))
  · intro k hk hno'
    exact S.keep k hk (fun r' o v n b' ht => hno' r' o v n b' (.inl ht))
  · intro k o v n b1 ht ho hv hb1 hlt
    rcases hup k o ho with ⟨rfl, rfl⟩ | ⟨hk, ho1⟩
    · obtain ⟨_, rfl⟩ := hmr v b1 hb1
      omega
    · rw [hmk k hk] at hb1
      exact S.own k o v n b1 (ht.resolve_right hk) ho1 hv hb1 hlt
  · intro k o R v fp hA ht ho hd hm q hq hlt
    rcases hup k o ho with ⟨rfl, rfl⟩ | ⟨hk, ho1⟩
    · cases hd
    · exact S.dfp k o R v fp hA (ht.resolve_right hk) ho1 hd hm q hq hlt
theorem adopts {A : Nat → Prop} {m : Map} {g : Heap} {w w1 : World} (h0 : W0.heap.size ≤ w.heap.size) : ∀ (es : List (SX × TypeId × Nat)) (bs : List (Nat × Nat)) {Tc : Nat → Prop} {m1 : Map} {st1 : St}, bs.length = es.length → Step W0 A Tc m g w m1 st1.heap.get w1 → Fresh A m1 st1.next → st1.next + es.length < 16777215 → (∀ r, st1.next ≤ r → r < st1.next + es.length → A r) →
    (∀ (i : Nat) (e : SX × TypeId × Nat) (b : Nat × Nat), es[i]? = some e → bs[i]? = some b → RowAt W0 w1 (symRoot e.1 e.2.1 e.2.2 0) b e.1 ∧ w.heap.size ≤ b.1) → (∀ (i j : Nat) (bi bj : Nat × Nat), bs[i]? = some bi → bs[j]? = some bj → bi.1 = bj.1 → i = j) →
    (∀ r' o v n b', A r' → st1.heap.get r' = some o → (v, n) ∈ o.vers → m1 r' v = some b' → ∀ b ∈ bs, b'.1 ≠ b.1) → (∀ r' o R v fp, A r' → st1.heap.get r' = some o → o.dat = some R → m1.d r' = some (v, fp) → ∀ b ∈ bs, ¬ fp b.1) →
    ∃ m2, Step W0 A (fun k => Tc k ∨ (st1.next ≤ k ∧ k < st1.next + es.length)) m g w m2 (st1.owns es).heap.get w1 ∧ Fresh A m2 (st1.owns es).next ∧ m1.Le m2 ∧ (∀ e, m2.s e = m1.s e) ∧ m2.d = m1.d ∧ ∀ i b, bs[i]? = some b → m2 (st1.next + i) 0 = some b
  | [], bs, Tc, m1, st1, hl, S, hF, _, _, _, _, _, _ => by
    have : bs = [] := List.eq_nil_of_length_eq_zero hl
    subst this
    exact ⟨m1, S.more (fun k hk => .inl hk), by simpa [St.owns] using hF, Map.Le.refl _, fun _ => rfl, rfl, fun i b hb => by simp at hb⟩
  | e :: es, [], Tc, m1, st1, hl, S, hF, hlt, hA, hrow, hd, hno, hnd => by simp at hl
  | e :: es, b :: bs, Tc, m1, st1, hl, S, hF, hlt, hA, hrow, hd, hno, hnd => by
    simp only [List.length_cons] at hlt hA hl
    have ha : A st1.next := hA _ (Nat.le_refl _) (by omega)
    obtain ⟨r1, r2⟩ := hrow 0 e b rfl rfl
    have S1 := adoptS S (hF st1.next ha (Nat.le_refl _)).1 r1 r2 h0 (fun r' o v n b' ha' ho hv hb' => hno r' o v n b' ha' ho hv hb' b (by simp)) (fun r' o R v fp ha' ho hd' hm => hnd r' o R v fp ha' ho hd' hm b (by simp))
    let st2 : St := { st1 with heap := T.set 24 st1.heap st1.next (some (symRoot e.1 e.2.1 e.2.2 0)), next := st1.next + 1 }
    have hg2 : st2.heap.get = Heap.upd st1.heap.get st1.next (symRoot e.1 e.2.1 e.2.2 0) := by
      funext k
      show (T.set 24 st1.heap st1.next _).get k = _
      rw [T.get_set _ _ _ _ _ (by omega)]
      rfl
    rw [← hg2] at S1
    have hF2 : Fresh A (m1.new st1.next b) st2.next := fun r hr hr' => by
      have hr2 : st1.next + 1 ≤ r := hr'
      have h := hF r hr (by omega)
      have hne : ¬ r = st1.next := by omega
      exact ⟨fun v => by simp [Map.new, hne, h.1 v], h.2⟩
    have hmr : ∀ v x, (m1.new st1.next b) st1.next v = some x → x = b := fun v x hx => by
      by_cases hv : v = 0
      · subst hv; simp [Map.new] at hx; exact hx.symm
      · simp [Map.new, hv, (hF st1.next ha (Nat.le_refl _)).1] at hx
    have hup : ∀ k o, st2.heap.get k = some o → (k = st1.next ∧ o = symRoot e.1 e.2.1 e.2.2 0) ∨ (k ≠ st1.next ∧ st1.heap.get k = some o) := fun k o ho => by
      rw [hg2] at ho
      by_cases hk : k = st1.next
      · simp [Heap.upd, hk] at ho; exact .inl ⟨hk, ho.symm⟩
      · simp [Heap.upd, hk] at ho; exact .inr ⟨hk, ho⟩
    have hbne : ∀ b' ∈ bs, b.1 ≠ b'.1 := fun b' hb' he => by
      obtain ⟨j, hj⟩ := List.getElem?_of_mem hb'
      have := hd 0 (j + 1) b b' rfl (by simpa using hj) he
      omega
    obtain ⟨m2, S2, F2, L2, s2, d2, at2⟩ := adopts h0 es bs (Tc := fun k => Tc k ∨ k = st1.next) (m1 := m1.new st1.next b) (st1 := st2) (by omega) S1 hF2 (by show st1.next + 1 + es.length < _; omega) (fun r h1 h2 => hA r (by have : st1.next + 1 ≤ r := h1; omega) (by have : r < st1.next + 1 + es.length := h2; omega))
      (fun i e' b' he hb => hrow (i + 1) e' b' (by simpa using he) (by simpa using hb)) (fun i j bi bj hi hj he => by have := hd (i + 1) (j + 1) bi bj (by simpa using hi) (by simpa using hj) he; omega)
      (fun r' o v n b' ha' ho hv hb' b2 hb2 => by
        rcases hup r' o ho with ⟨rfl, rfl⟩ | ⟨hk, ho⟩
        · rw [hmr v b' hb']; exact hbne b2 hb2
        · have : (m1.new st1.next b) r' v = m1 r' v := by simp [Map.new, hk]
          rw [this] at hb'
          exact hno r' o v n b' ha' ho hv hb' b2 (by simp [hb2]))
      (fun r' o R v fp ha' ho hd' hm b2 hb2 => by
        rcases hup r' o ho with ⟨rfl, rfl⟩ | ⟨hk, ho⟩
        · cases hd'
        · exact hnd r' o R v fp ha' ho hd' hm b2 (by simp [hb2]))
    have hle1 : m1.Le (m1.new st1.next b) := ⟨fun k v x hx => by
      show (if k = st1.next ∧ v = 0 then some b else m1 k v) = some x
      split
      · rename_i h; rw [h.1, (hF st1.next ha (Nat.le_refl _)).1 v] at hx; cases hx
      · exact hx, fun _ _ h => h, fun _ _ h => h⟩
    have hst : (st1.owns (e :: es)) = st2.owns es := by simp only [St.owns, newOwns, st2, List.length_cons, St.mk.injEq, true_and, and_true]; omega
    refine ⟨m2, ?_, by rw [hst]; exact F2, hle1.trans L2, s2, d2, fun i b' hb' => ?_⟩
    · rw [hst]
      refine S2.more (fun k hk => ?_)
      have e2 : st2.next = st1.next + 1 := rfl
      rw [e2] at hk
      simp only [List.length_cons]
      rcases hk with (hk | hk) | hk
      · exact .inl hk
      · exact .inr ⟨by omega, by omega⟩
      · exact .inr ⟨by omega, by omega⟩
    · cases i with
      | zero =>
        simp only [List.getElem?_cons_zero, Option.some.injEq] at hb'
        subst hb'
        exact L2.1 _ _ _ (by simp [Map.new])
      | succ i =>
        have := at2 i b' (by simpa using hb')
        rwa [show st2.next + i = st1.next + (i + 1) by show st1.next + 1 + i = _; omega] at this

/-- What is answered is put down. -/
def resSt (st : St) (g : Nat → SX) (ks : List CK) (p' : List Nat) (os : List (Nat × TypeId × Nat)) : St := (St.dats { st with path := p' } ((rowsAt ks 0).map fun j => (g j, true))).owns (os.map fun o => (g o.1, o.2.1, o.2.2))
def resMask (st : St) (ks : List CK) (os : List (Nat × TypeId × Nat)) : Nat := maskFrom st.next ((rowsAt ks 0).length + os.length)
theorem rowsAt_at : ∀ (ks : List CK) (j x : Nat), x ∈ rowsAt ks j → ks[x - j]? = some .row
  | [], j, x, h => by simp [rowsAt] at h
  | .row :: ks, j, x, h => by
    rcases List.mem_cons.1 h with rfl | h
    · simp
    · have h1 := rowsAt_lt ks (j + 1) x h
      rw [show x - j = (x - (j + 1)) + 1 by omega]
      simpa using rowsAt_at ks (j + 1) x h
  | .num :: ks, j, x, h => by
    have h1 := rowsAt_lt ks (j + 1) x h
    rw [show x - j = (x - (j + 1)) + 1 by omega]
    simpa using rowsAt_at ks (j + 1) x h
  | .truth :: ks, j, x, h => by
    have h1 := rowsAt_lt ks (j + 1) x h
    rw [show x - j = (x - (j + 1)) + 1 by omega]
    simpa using rowsAt_at ks (j + 1) x h
  | .own _ _ _ :: ks, j, x, h => by
    have h1 := rowsAt_lt ks (j + 1) x h
    rw [show x - j = (x - (j + 1)) + 1 by omega]
    simpa using rowsAt_at ks (j + 1) x h
theorem results {A : Nat → Prop} {m : Map} {st : St} {w w1 : World} (hR : Rel W0 A m st.heap.get w) (hF : Fresh A m st.next) (hex : Ex w w1) {ks : List CK} {g : Nat → SX} {us : List Value} {qs : List PV} {ow : Nat → Option Nat} {cs : List AV} {fs : List Fact} {p' : List Nat} {os : List (Nat × TypeId × Nat)}
    (hul : us.length = ks.length) (hql : qs.length = ks.length) (hev : ∀ i q, qs[i]? = some q → W0.ev (g i) = some q) (how : Owns w w1 ks qs us ow)
    (hrd : ∀ (i : Nat) (q : PV) (u : Value), qs[i]? = some q → us[i]? = some u → ∀ w2 : World, (∀ k, May W0 A m st w k ∨ (w.heap.size ≤ k ∧ k < w1.heap.size) → (∀ j, j ≠ i → ow j ≠ some k) → w2.heap[k]? = w1.heap[k]?) → Reads w2 q u)
    (hout : outD g ks 0 st.next (st.next + (rowsAt ks 0).length) st.path = some (cs, fs, p', os)) (hfs : ∀ f ∈ fs, f.holds W0) (hsm : st.next + (rowsAt ks 0).length + os.length < 16777215) (hA : ∀ r, bit (resMask st ks os) r → A r) :
    ∃ m', Step W0 A (bit (resMask st ks os)) m st.heap.get w m' (resSt st g ks p' os).heap.get w1 ∧ Fresh A m' (resSt st g ks p' os).next ∧ denL m' cs = some us := by
  obtain ⟨d1, d2, d3⟩ := outD_os ks 0 _ _ _ hout
  have hbit : ∀ r, bit (resMask st ks os) r ↔ (st.next ≤ r ∧ r < st.next + ((rowsAt ks 0).length + os.length)) := fun r => maskFrom_bit _ _ _
  have hq' : ∀ i, i < ks.length → ∃ q u, qs[i]? = some q ∧ us[i]? = some u ∧ us.getD i undef = u := fun i hi => by
    have h1 : i < qs.length := by omega
    have h2 : i < us.length := by omega
    exact ⟨qs[i], us[i], List.getElem?_eq_getElem h1, List.getElem?_eq_getElem h2, by simp [List.getD, h2]⟩
  have hrowNo : ∀ x, x ∈ rowsAt ks 0 → ow x = none := fun x hx => by
    cases h : ow x with
    | none => rfl
    | some b =>
      obtain ⟨el, sz, may, q, u, h1, _⟩ := how.at' x b h
      have := rowsAt_at ks 0 x hx
      rw [Nat.sub_zero, h1] at this
      cases this
  obtain ⟨m1, hok, hd1, hd2⟩ := addDats (st := { st with path := p' }) (lg := ⟨0, maskFrom st.next (rowsAt ks 0).length, []⟩) hR hF hex ((rowsAt ks 0).map fun j => (g j, true)) ((rowsAt ks 0).map fun i => us.getD i undef)
    (fun _ k => May W0 A m st w k ∨ ((w.heap.size ≤ k ∧ k < w1.heap.size) ∧ ∀ j, ow j ≠ some k)) (by simp) (by simp) (by simp; omega) (fun k k1 k2 => hA k ((hbit k).2 ⟨k1, by simp at k2; omega⟩)) (by
      intro i e u he hu
      rw [List.getElem?_map, Option.map_eq_some_iff] at he hu
      obtain ⟨x, hx, rfl⟩ := he
      obtain ⟨y, hy, rfl⟩ := hu
      rw [hx] at hy
      cases hy
      have hxm := List.mem_of_getElem? hx
      have hxl := (rowsAt_lt ks 0 x hxm).2
      obtain ⟨q, u, g1, g2, g3⟩ := hq' x (by omega)
      have hq := hrd x q u g1 g2
      rw [g3]
      refine ⟨(hq w1 (fun _ _ _ => rfl)).one, ?_, fun w2 hw2 => ⟨q, hev x q g1, hq w2 (fun k hk hne => hw2 k ?_)⟩⟩
      · rintro k (hk | ⟨hk, _⟩)
        · exact ⟨Nat.lt_of_lt_of_le hk.1 hex.size, fun _ => hk.2.1, fun _ => hk.2.2⟩
        · exact ⟨hk.2, fun _ => .inr (Nat.le_trans hR.size0 hk.1), fun hlt => absurd hk.1 (by omega)⟩
      · rcases hk with hk | hk
        · exact .inl hk
        · refine .inr ⟨hk, fun j => ?_⟩
          by_cases hj : j = x
          · rw [hj, hrowNo x hxm]; simp
          · exact hne j hj)
  -- where the rows lie
  have hblk : ∀ (t x : Nat) (el : TypeId) (sz : Nat), os[t]? = some (x, el, sz) → ∃ b n cap cs2, ow x = some b ∧ qs[x]? = some (.row n cs2) ∧ us[x]? = some (.slice (some ⟨b, 0, none⟩) n cap) ∧ OwnAt w w1 el sz b (.row n cs2) (.slice (some ⟨b, 0, none⟩) n cap) := fun t x el sz ht => by
    obtain ⟨_, may, h1, h2⟩ := d2 t x el sz ht
    rw [Nat.sub_zero] at h1
    cases h : ow x with
    | none =>
      exfalso
      obtain ⟨h3, h4, h5⟩ := how.no x el sz may h1 h
      obtain ⟨k, z, mm, f1, f2, f3, f4⟩ := hfs _ (h2 h3)
      have := ev_len (hev x _ h5)
      rw [f2] at this
      have f1' : some (PV.v (.int .i64 0)) = some (PV.v (.int k z)) := f1
      simp only [Option.some.injEq, PV.v.injEq, Value.int.injEq, true_and] at this f1'
      omega
    | some b =>
      obtain ⟨el', sz', may', q, u, h3, h4, h5, h6, _⟩ := how.at' x b h
      rw [h1] at h3
      cases h3
      have h6' := h6
      obtain ⟨_, _, n, cap, cs2, c, fz, rfl, rfl, _⟩ := h6
      exact ⟨b, n, cap, cs2, rfl, h4, h5, h6'⟩
  let bs : List (Nat × Nat) := os.map fun o => ((ow o.1).getD 0, match us.getD o.1 undef with | .slice _ _ cap => cap | _ => 0)
  have hbs : ∀ (t x : Nat) (el : TypeId) (sz : Nat), os[t]? = some (x, el, sz) → ∃ b n cap cs2, bs[t]? = some (b, cap) ∧ ow x = some b ∧ qs[x]? = some (.row n cs2) ∧ us[x]? = some (.slice (some ⟨b, 0, none⟩) n cap) ∧ OwnAt w w1 el sz b (.row n cs2) (.slice (some ⟨b, 0, none⟩) n cap) := fun t x el sz ht => by
    obtain ⟨b, n, cap, cs2, h1, h2, h3, h4⟩ := hblk t x el sz ht
    refine ⟨b, n, cap, cs2, ?_, h1, h2, h3, h4⟩
    simp only [bs, List.getElem?_map, ht, Option.map_some, h1, Option.getD_some, List.getD, h3]
  have hbsOf : ∀ b' ∈ bs, ∃ x b, ow x = some b ∧ b'.1 = b ∧ w.heap.size ≤ b := fun b' hb' => by
    obtain ⟨t, ht⟩ := List.getElem?_of_mem hb'
    have hto : t < os.length := by
      have := (List.getElem?_eq_some_iff.1 ht).1
      simpa [bs] using this
    obtain ⟨b, n, cap, cs2, h1, h2, _, _, h5⟩ := hbs t _ _ _ (List.getElem?_eq_getElem hto)
    rw [ht] at h1
    cases h1
    exact ⟨_, b, h2, rfl, h5.1⟩
  have hnx : (St.dats { st with path := p' } ((rowsAt ks 0).map fun j => (g j, true))).next = st.next + (rowsAt ks 0).length := by simp [St.dats]
  obtain ⟨m2, S2, F2, L2, s2, dd2, at2⟩ := adopts (W0 := W0) (A := A) (m := m) (g := st.heap.get) (w := w) (w1 := w1) hR.size0 (os.map fun o => (g o.1, o.2.1, o.2.2)) bs (by simp [bs]) hok.step hok.fresh (by rw [hnx]; simp; omega) (fun r h1 h2 => hA r ((hbit r).2 (by rw [hnx] at h1 h2; simp at h2; omega)))
    (fun i e b he hb => by
      rw [List.getElem?_map, Option.map_eq_some_iff] at he
      obtain ⟨⟨x, el, sz⟩, hx, rfl⟩ := he
      obtain ⟨b1, n, cap, cs2, h1, h2, h3, h4, h5⟩ := hbs i x el sz hx
      rw [hb] at h1
      cases h1
      obtain ⟨k1, k2, n', cap', cs', c, fz, e1, e2, k3, k4, k5, k6, k7, k8, k9, k10⟩ := h5
      simp only [PV.row.injEq] at e1
      simp only [Value.slice.injEq, true_and] at e2
      obtain ⟨rfl, rfl⟩ := e1
      obtain ⟨_, rfl⟩ := e2
      exact ⟨⟨n, cs2, c, fz, hev x _ h3, k3, k4, k5, k6, k7, k8, k9, k10⟩, k1⟩)
    (fun i j bi bj hi hj he => by
      have hil : i < os.length := by have := (List.getElem?_eq_some_iff.1 hi).1; simpa [bs] using this
      have hjl : j < os.length := by have := (List.getElem?_eq_some_iff.1 hj).1; simpa [bs] using this
      obtain ⟨b1, _, _, _, h1, h2, _⟩ := hbs i _ _ _ (List.getElem?_eq_getElem hil)
      obtain ⟨b2, _, _, _, h3, h4, _⟩ := hbs j _ _ _ (List.getElem?_eq_getElem hjl)
      rw [hi] at h1
      rw [hj] at h3
      cases h1
      cases h3
      simp only at he
      subst he
      exact d3 i j _ _ _ _ _ _ (List.getElem?_eq_getElem hil) (List.getElem?_eq_getElem hjl) (how.inj _ _ _ h2 h4))
    (fun r' o v n b' ha' ho hv hb' b2 hb2 he => by
      obtain ⟨x, b, h1, h2, h3⟩ := hbsOf b2 hb2
      have hr' : st.heap.get r' = some o := by
        by_cases hr : st.next ≤ r' ∧ r' < st.next + (rowsAt ks 0).length
        · exfalso
          have ho' : (newDats ((rowsAt ks 0).map fun j => (g j, true)) st.next st.heap).get r' = some o := ho
          rw [newDats_get _ _ _ _ (by simp; omega), if_pos (by simpa using hr), Option.map_eq_some_iff] at ho'
          obtain ⟨R, _, rfl⟩ := ho'
          simp [datRoot] at hv
        · have ho' : (newDats ((rowsAt ks 0).map fun j => (g j, true)) st.next st.heap).get r' = some o := ho
          rwa [newDats_get _ _ _ _ (by simp; omega), if_neg (by simpa using hr)] at ho'
      obtain ⟨b0, hb0, _⟩ := hR.blk r' o ha' hr' v n hv
      have := hok.step.ext.1 _ _ _ hb0
      rw [hb'] at this
      cases this
      have := hR.lt ha' hr' hv hb0
      omega)
    (fun r' o R v fp ha' ho hd' hm b2 hb2 hfp => by
      obtain ⟨x, b, h1, h2, h3⟩ := hbsOf b2 hb2
      have ho' : (newDats ((rowsAt ks 0).map fun j => (g j, true)) st.next st.heap).get r' = some o := ho
      by_cases hr : st.next ≤ r' ∧ r' < st.next + (rowsAt ks 0).length
      · have hi : r' - st.next < (rowsAt ks 0).length := by omega
        have := hd1 (r' - st.next) (us.getD ((rowsAt ks 0)[r' - st.next]) undef) (by rw [List.getElem?_map, List.getElem?_eq_getElem hi]; rfl)
        simp only [show st.next + (r' - st.next) = r' by omega] at this
        rw [hm] at this
        cases this
        rcases hfp with hk | ⟨_, hk⟩
        · have := hk.1; omega
        · exact hk x (by rw [h1, h2])
      · rw [newDats_get _ _ _ _ (by simp; omega), if_neg (by simpa using hr)] at ho'
        have hm0 : m.d r' = some (v, fp) := by
          have hk := hok.step.dkeep r' (fun h => hr ((maskFrom_bit _ _ _).1 h))
          rw [← hk]; exact hm
        obtain ⟨v', fp', hm', _, hlt, _⟩ := hR.dat r' o R ha' ho' hd'
        rw [hm0] at hm'
        cases hm'
        have := hlt _ hfp
        omega)
  have hden := outD_ok (W0 := W0) (w := w1) (m := m2) (val := fun i => us.getD i undef) (fun e => by rw [s2]; exact hok.rel.sv e) ks 0 st.next _ st.path hout hfs (fun i _ hi => by
      obtain ⟨q, u, g1, g2, g3⟩ := hq' i (by omega)
      exact ⟨q, hev i q g1, by simp only [g3]; exact hrd i q u g1 g2 w1 (fun _ _ _ => rfl)⟩)
    (fun q x hq => ⟨_, by rw [dd2]; exact hd1 q _ (by rw [List.getElem?_map, hq]; rfl)⟩)
    (fun t x el sz ht => by
      obtain ⟨b, n, cap, cs2, h1, h2, h3, h4, _⟩ := hbs t x el sz ht
      refine ⟨b, cap, n, cs2, ?_, hev x _ h3, by simp [List.getD, h4]⟩
      have := at2 t _ h1
      rwa [hnx] at this)
    (fun i el sz _ hk h0 => by
      rw [Nat.sub_zero] at hk
      cases h : ow i with
      | none =>
        obtain ⟨_, h4, _⟩ := how.no i el sz true hk h
        simp [List.getD, h4]
      | some b =>
        exfalso
        obtain ⟨el', sz', may', q, u, h3, h4, h5, h6, h7⟩ := how.at' i b h
        rw [hk] at h3
        cases h3
        obtain ⟨n, cs2, rfl⟩ := h7 rfl
        have := ev_len (hev i _ h4)
        rw [h0] at this
        simp only [Option.some.injEq, PV.v.injEq, Value.int.injEq, true_and] at this
        omega)
  have hus' : (List.range' 0 ks.length).map (fun i => us.getD i undef) = us := by
    apply List.ext_getElem?
    intro i
    by_cases hi : i < us.length
    · rw [List.getElem?_map, List.getElem?_range' (by omega)]
      simp [List.getD, hi]
    · rw [List.getElem?_eq_none (by simp; omega), List.getElem?_eq_none (by omega)]
  rw [hus'] at hden
  refine ⟨m2, S2.more (fun k hk => (hbit k).2 ?_), F2, hden⟩
  rcases hk with hk | hk
  · have := (maskFrom_bit _ _ _).1 hk
    omega
  · rw [hnx] at hk
    simp at hk
    omega

/-- A call by its contract. -/
def callFn (f : FuncId) (E : FnE) (args : List AV) (st : St) : Option (ARet × St × Log) := (leavesA E.ins args).bind fun ls => (leafAll st ls E.leaks).bind fun (es, lA) => (outD (.fn E.k es) E.kinds 0 st.next (st.next + (rowsAt E.kinds 0).length) st.path).bind fun (cs, fs, p', os) =>
  cond (Nat.blt (st.next + (rowsAt E.kinds 0).length + os.length) 16777215 && Nat.beq E.kinds.length (shLen E.outs))
    (some (.ret (answerA E.outs cs), resSt st (.fn E.k es) E.kinds p' os, ⟨lA.A ||| resMask st E.kinds os, resMask st E.kinds os, .fn f E es :: (lA.V ++ fs)⟩)) none
def orcFn (tab : FuncId → Option FnE) : Orc := fun f args st => (tab f).bind fun E => callFn f E args st
theorem rowsAt_len : ∀ (ks : List CK) (j : Nat), (rowsAt ks j).length ≤ ks.length
  | [], j => Nat.le_refl _
  | .row :: ks, j => by simp [rowsAt, rowsAt_len ks]
  | .num :: ks, j => by have := rowsAt_len ks (j + 1); simp [rowsAt]; omega
  | .truth :: ks, j => by have := rowsAt_len ks (j + 1); simp [rowsAt]; omega
  | .own _ _ _ :: ks, j => by have := rowsAt_len ks (j + 1); simp [rowsAt]; omega
theorem callFn_ok {f : FuncId} {E : FnE} {args : List AV} {st st' : St} {r : ARet} {lg : Log} (hr : callFn f E args st = some (r, st', lg)) (W0 : Base) (A : Nat → Prop) (m : Map) (w : World) (vs : List Value) (hA : lg.Fits W0 A) (hR : Rel W0 A m st.heap.get w) (hF : Fresh A m st.next) (hvs : denL m args = some vs) :
    Calls Try.prog f vs.toArray w (CPost W0 A m st w r st' lg) := by
  simp only [callFn, Option.bind_eq_some_iff] at hr
  obtain ⟨ls, hls, ⟨es, lA⟩, hes, ⟨cs, fs, p', os⟩, hout, hr⟩ := hr
  cases hc : (Nat.blt (st.next + (rowsAt E.kinds 0).length + os.length) 16777215 && Nat.beq E.kinds.length (shLen E.outs)) with
  | false => simp [hc] at hr
  | true =>
    simp only [hc, cond_true, Option.some.injEq, Prod.mk.injEq] at hr
    obtain ⟨rfl, rfl, rfl⟩ := hr
    simp only [Bool.and_eq_true, Nat.blt_eq, Nat.beq_eq] at hc
    have hlA : lA.Fits W0 A := ⟨fun r hr => hA.1 r (bit_or_l hr), fun f hf => hA.2 f (by simp [hf])⟩
    obtain ⟨us, hus, hul, rfl⟩ := leavesA_ok E.ins args hls hvs
    obtain ⟨ps, hps, hpl, hrd⟩ := leafAll_ok hR hes hlA hus
    obtain ⟨htold, ps', qs, hps', hqs⟩ := hA.2 (.fn f E es) (by simp)
    rw [hps] at hps'
    cases hps'
    refine (htold w (May W0 A m st w) us ps qs hqs hpl.symm (by omega) (fun k hk => hk.1) hrd).mono ?_
    rintro e w' ⟨us', ow, h1, h2, how, h3, rfl, hex⟩
    obtain ⟨m', S, F', hden⟩ := results hR hF hex (g := .fn E.k es) (by omega) (by omega) (fun i q hq => by simp [Base.ev, SX.ev, hps, hqs, hq]) how h3 hout (fun f hf => hA.2 f (by simp [hf])) hc.1 (fun r hr => hA.1 r (bit_or_r hr))
    exact ⟨m', ⟨S, F'⟩, _, answerA_ok hden (by omega), rfl⟩
theorem resSt_gk {st : St} {g : Nat → SX} {ks : List CK} {p' : List Nat} {os : List (Nat × TypeId × Nat)} {lg : Log} (hsm : st.next + (rowsAt ks 0).length + os.length < 16777215) (h : ∀ r, bit (resMask st ks os) r → bit lg.T r) : Gk st (resSt st g ks p' os) lg := by
  intro r hr
  have hr' : ¬ (st.next ≤ r ∧ r < st.next + ((rowsAt ks 0).length + os.length)) := fun h' => hr (h r ((maskFrom_bit _ _ _).2 h'))
  show (newOwns _ (st.next + ((rowsAt ks 0).map fun j => (g j, true)).length) (newDats _ st.next st.heap)).get r = _
  rw [newOwns_get _ _ _ _ (by simp; omega) (by simp; omega), newDats_get _ _ _ _ (by simp; omega), if_neg (by simp; omega)]
theorem callFn_gk {f : FuncId} {E : FnE} {args : List AV} {st st' : St} {r : ARet} {lg : Log} (hr : callFn f E args st = some (r, st', lg)) : Gk st st' lg := by
  simp only [callFn, Option.bind_eq_some_iff] at hr
  obtain ⟨ls, hls, ⟨es, lA⟩, hes, ⟨cs, fs, p', os⟩, hout, hr⟩ := hr
  cases hc : (Nat.blt (st.next + (rowsAt E.kinds 0).length + os.length) 16777215 && Nat.beq E.kinds.length (shLen E.outs)) with
  | false => simp [hc] at hr
  | true =>
    simp only [hc, cond_true, Option.some.injEq, Prod.mk.injEq] at hr
    obtain ⟨rfl, rfl, rfl⟩ := hr
    simp only [Bool.and_eq_true, Nat.blt_eq, Nat.beq_eq] at hc
    exact resSt_gk hc.1 (fun r hr => hr)
theorem orcFn_ok (tab : FuncId → Option FnE) : OrcOk Try.prog (orcFn tab) := by
  refine ⟨?_, ?_⟩
  · intro f args st r st' lg hr W0 A m w vs hA hR hF hvs
    simp only [orcFn, Option.bind_eq_some_iff] at hr
    obtain ⟨E, hE, hr⟩ := hr
    exact callFn_ok hr W0 A m w vs hA hR hF hvs
  · intro f args st r st' lg hr
    simp only [orcFn, Option.bind_eq_some_iff] at hr
    obtain ⟨E, hE, hr⟩ := hr
    exact callFn_gk hr
end Go.Proofs.Ytfcdbknmajfkaaa.eng
