/- The engine: operations whose order is open, held: all orders. -/
import Derived.Test.YtfcdbknmajfkaaaEng14
namespace Go.Proofs.Ytfcdbknmajfkaaa.eng
open Go
variable {W0 : Base}
set_option linter.unusedVariables false
set_option linter.unusedSimpArgs false

def Ap (a b : Log) : Prop := (a.T &&& b.A = 0) ∧ (b.T &&& a.A = 0)
theorem and_zero {a b r : Nat} (h : a &&& b = 0) (ha : bit a r) (hb : bit b r) : False := by
  have : (a &&& b).testBit r = true := by rw [Nat.testBit_and, ha, hb]; rfl
  rw [h] at this
  simp at this
theorem opD_chk {P : Program} {E : Eng} (hG : CallGk E.call) {ops : Array Oper} {o : Oper} {x x' : AAct} {st st' : St} {pv : Option Value} {lg : Log} (h : opD P E ops o x st = some (pv, x', st', lg)) :
    st.next ≤ st'.next ∧ (∀ r, bit lg.T r → r < st'.next) ∧ (∀ r, bit lg.T r → bit lg.A r) ∧ Gk st st' lg ∧ x'.n = x.n ∧ x'.defers = x.defers ∧ (∀ t, o.dst ≠ some t → x'.tm.get t = x.tm.get t) ∧ (∀ v, pv = some v → x' = x) := by
  simp only [opD, Option.bind_eq_some_iff] at h
  obtain ⟨⟨pv1, x1, st1, l1⟩, hop, h⟩ := h
  cases hc : (Nat.ble st.next st1.next && Nat.beq (l1.T >>> st1.next) 0 && Nat.beq (l1.T ||| l1.A) l1.A && x1.defers.isEmpty) with
  | false => simp [hc] at h
  | true =>
    simp only [hc, cond_true] at h
    simp only [Bool.and_eq_true, List.isEmpty_iff, Nat.ble_eq, Nat.beq_eq] at hc
    obtain ⟨⟨⟨h1, h2⟩, h3⟩, h4⟩ := hc
    have q2 : ∀ r, bit l1.T r → r < st1.next := by
      intro r hr
      rcases Nat.lt_or_ge r st1.next with hlt | hge
      · exact hlt
      · exfalso
        have : (l1.T >>> st1.next).testBit (r - st1.next) = true := by
          rw [Nat.testBit_shiftRight, show st1.next + (r - st1.next) = r by omega]
          exact hr
        rw [h2] at this
        simp at this
    have q3 : ∀ r, bit l1.T r → bit l1.A r := by
      intro r hr
      have : (l1.T ||| l1.A).testBit r = true := by rw [Nat.testBit_or, hr]; rfl
      rw [h3] at this
      exact this
    have q4 := opA_gk hG hop
    cases pv1 with
    | some v =>
      simp only [Option.some.injEq, Prod.mk.injEq] at h
      obtain ⟨rfl, rfl, rfl, rfl⟩ := h
      exact ⟨h1, q2, q3, q4, rfl, rfl, fun _ _ => rfl, fun _ _ => rfl⟩
    | none =>
      cases hd : o.dst with
      | none =>
        simp only [hd, Option.some.injEq, Prod.mk.injEq] at h
        obtain ⟨rfl, rfl, rfl, rfl⟩ := h
        exact ⟨h1, q2, q3, q4, rfl, rfl, fun _ _ => rfl, fun _ _ => rfl⟩
      | some d =>
        simp only [hd, Option.bind_eq_some_iff, Option.map_eq_some_iff] at h
        obtain ⟨y, hy, x2, hx2, he⟩ := h
        cases he
        simp only [AAct.put] at hx2
        cases hb : (Nat.blt d x.n && Nat.blt (d + 1) 16777216) with
        | false => simp [hb] at hx2
        | true =>
          simp only [hb, cond_true, Option.some.injEq] at hx2
          simp only [Bool.and_eq_true, Nat.blt_eq] at hb
          subst hx2
          refine ⟨h1, q2, q3, q4, rfl, rfl, fun t ht => ?_, fun v hv => by cases hv⟩
          have hne : ¬ t = d := fun e => ht (by rw [e])
          rw [T.get_set _ _ _ _ _ (show d + 1 < 2 ^ 24 from hb.2), if_neg hne]

theorem logsApart_ok {m : Nat} {l : Log} : ∀ {acc : List (Nat × Log)}, logsApart m l acc = true → ∀ p ∈ acc, m.testBit p.1 = true ∨ Ap p.2 l
  | [], h, p, hp => by cases hp
  | (i, k) :: rest, h, p, hp => by
    simp only [logsApart, Bool.and_eq_true, Bool.or_eq_true, Nat.beq_eq] at h
    rcases List.mem_cons.1 hp with rfl | hp
    · exact h.1.imp_right fun ⟨a, b⟩ => ⟨a, b⟩
    · exact logsApart_ok h.2 p hp
theorem allBehind_ok {i : Nat} : ∀ {ms : List Nat}, allBehind i ms = true → ∀ k, k < ms.length → (ms.getD k 0).testBit i = true
  | [], h, k, hk => by simp at hk
  | m :: ms, h, k, hk => by
    simp only [allBehind, Bool.and_eq_true] at h
    cases k with
    | zero => simpa using h.1
    | succ k => simpa using allBehind_ok h.2 k (by simpa using hk)

/-- What was held, as rows of states. -/
structure Ran (P : Program) (E : Eng) (ops : Array Oper) (l : List Oper) (i : Nat) (ms : List Nat) (acc : List (Nat × Log)) (x : AAct) (st : St) (e : AX) (x' : AAct) (st' : St) (lg : Log) (N M : Nat) (X : Nat → AAct) (Sq : Nat → St) (L : Nat → Log) : Prop where
  x0 : X 0 = x
  s0 : Sq 0 = st
  le : N ≤ l.length
  step : ∀ k, k < N → ∃ o, l[k]? = some o ∧ opD P E ops o (X k) (Sq k) = some (none, X (k + 1), Sq (k + 1), L k)
  sub : ∀ k, k < M → (∀ r, bit (L k).A r → bit lg.A r) ∧ (∀ r, bit (L k).T r → bit lg.T r) ∧ (∀ p ∈ (L k).V, p ∈ lg.V)
  acc : ∀ k, k < M → ∀ p ∈ acc, (ms.getD k 0).testBit p.1 = true ∨ Ap p.2 (L k)
  sep : ∀ k1 k2, k1 < k2 → k2 < M → (ms.getD k2 0).testBit (i + k1) = true ∨ Ap (L k1) (L k2)
  fin : (e = .normal ∧ N = l.length ∧ M = N ∧ x' = X N ∧ st' = Sq N) ∨ (∃ v o, e = .panic v ∧ M = N + 1 ∧ l[N]? = some o ∧ opD P E ops o (X N) (Sq N) = some (some v, x', st', L N) ∧ ms.getD N 0 = (1 <<< (i + N)) - 1 ∧ ∀ k, N < k → k < ms.length → (ms.getD k 0).testBit (i + N) = true)

def consF {α : Type} (a : α) (f : Nat → α) : Nat → α | 0 => a | k + 1 => f k
theorem drawGo_ran {P : Program} {E : Eng} {ops : Array Oper} : ∀ (l : List Oper) (i : Nat) (ms : List Nat) (acc : List (Nat × Log)) (x : AAct) (st : St) (e : AX) (x' : AAct) (st' : St) (lg : Log), drawGo P E ops l i ms acc x st = some (e, x', st', lg) →
    ∃ N M X Sq L, Ran P E ops l i ms acc x st e x' st' lg N M X Sq L
  | [], i, ms, acc, x, st, e, x', st', lg, h => by
    simp only [drawGo, Option.some.injEq, Prod.mk.injEq] at h
    obtain ⟨rfl, rfl, rfl, rfl⟩ := h
    exact ⟨0, 0, fun _ => x, fun _ => st, fun _ => Log.no, rfl, rfl, Nat.le_refl _, fun k hk => absurd hk (Nat.not_lt_zero k), fun k hk => absurd hk (Nat.not_lt_zero k), fun k hk => absurd hk (Nat.not_lt_zero k), fun _ k _ hk => absurd hk (Nat.not_lt_zero k), .inl ⟨rfl, rfl, rfl, rfl, rfl⟩⟩
  | o :: rest, i, [], acc, x, st, e, x', st', lg, h => by simp [drawGo] at h
  | o :: rest, i, m :: ms, acc, x, st, e, x', st', lg, h => by
    simp only [drawGo, Option.bind_eq_some_iff] at h
    obtain ⟨⟨pv, x1, st1, l1⟩, hop, h⟩ := h
    cases hla : logsApart m l1 acc with
    | false => simp [hla] at h
    | true =>
      simp only [hla, cond_true] at h
      cases pv with
      | some v =>
        simp only at h
        cases hc : (Nat.beq m ((1 <<< i) - 1) && allBehind i ms) with
        | false => simp [hc] at h
        | true =>
          simp only [hc, cond_true, Option.some.injEq, Prod.mk.injEq] at h
          simp only [Bool.and_eq_true, Nat.beq_eq] at hc
          obtain ⟨rfl, rfl, rfl, rfl⟩ := h
          refine ⟨0, 1, fun _ => x, fun _ => st, fun _ => l1, rfl, rfl, Nat.zero_le _, fun k hk => absurd hk (Nat.not_lt_zero k), fun k hk => ⟨fun _ h => h, fun _ h => h, fun _ h => h⟩, fun k hk p hp => ?_, fun k1 k2 h1 h2 => by omega, .inr ⟨v, o, rfl, rfl, rfl, hop, by simpa using hc.1, fun k h1 h2 => ?_⟩⟩
          · have : k = 0 := by omega
            subst this
            simpa using logsApart_ok hla p hp
          · obtain ⟨k', rfl⟩ : ∃ k', k = k' + 1 := ⟨k - 1, by omega⟩
            simpa using allBehind_ok hc.2 k' (by simpa using h2)
      | none =>
        simp only [Option.map_eq_some_iff] at h
        obtain ⟨⟨e2, x2, st2, l2⟩, hrest, he⟩ := h
        cases he
        obtain ⟨N, M, X, Sq, L, hr⟩ := drawGo_ran rest (i + 1) ms _ x1 st1 _ _ _ _ hrest
        have hacc0 : ∀ p ∈ acc, p ∈ (cond (Nat.beq (l1.A ||| l1.T) 0) acc ((i, l1) :: acc)) := by
          intro p hp
          cases Nat.beq (l1.A ||| l1.T) 0 <;> simp [hp]
        have hown : ∀ k, k < M → (ms.getD k 0).testBit i = true ∨ Ap l1 (L k) := by
          intro k hk
          cases hz : Nat.beq (l1.A ||| l1.T) 0 with
          | false => exact hr.acc k hk (i, l1) (by rw [hz]; simp)
          | true =>
            right
            have hz' := Nat.eq_of_beq_eq_true hz
            have zA : l1.A = 0 := by
              apply Nat.eq_of_testBit_eq
              intro q
              have : (l1.A ||| l1.T).testBit q = false := by rw [hz']; simp
              rw [Nat.testBit_or] at this
              simp at this ⊢
              exact this.1
            have zT : l1.T = 0 := by
              apply Nat.eq_of_testBit_eq
              intro q
              have : (l1.A ||| l1.T).testBit q = false := by rw [hz']; simp
              rw [Nat.testBit_or] at this
              simp at this ⊢
              exact this.2
            exact ⟨by rw [zT]; simp, by rw [zA]; simp⟩
        refine ⟨N + 1, M + 1, consF x X, consF st Sq, consF l1 L, rfl, rfl, by simpa using hr.le, ?_, ?_, ?_, ?_, ?_⟩
        · intro k hk
          cases k with
          | zero => exact ⟨o, rfl, by simpa [consF, hr.x0, hr.s0] using hop⟩
          | succ k => simpa [consF] using hr.step k (by omega)
        · intro k hk
          cases k with
          | zero => exact ⟨fun r h => bit_or_l h, fun r h => bit_or_l h, fun p h => List.mem_append_left _ h⟩
          | succ k =>
            have := hr.sub k (by omega)
            exact ⟨fun r h => bit_or_r (this.1 r h), fun r h => bit_or_r (this.2.1 r h), fun p h => List.mem_append_right _ (this.2.2 p h)⟩
        · intro k hk p hp
          cases k with
          | zero => simpa [consF] using logsApart_ok hla p hp
          | succ k => simpa [consF] using hr.acc k (by omega) p (hacc0 p hp)
        · intro k1 k2 h1 h2
          cases k1 with
          | zero =>
            obtain ⟨k', rfl⟩ : ∃ k', k2 = k' + 1 := ⟨k2 - 1, by omega⟩
            simpa [consF] using hown k' (by omega)
          | succ k1 =>
            obtain ⟨k', rfl⟩ : ∃ k', k2 = k' + 1 := ⟨k2 - 1, by omega⟩
            have := hr.sep k1 k' (by omega) (by omega)
            rw [show i + 1 + k1 = i + (k1 + 1) by omega] at this
            simpa [consF] using this
        · rcases hr.fin with ⟨h1, h2, h3, h4, h5⟩ | ⟨v, o', h1, h2, h3, h4, h5, h6⟩
          · exact .inl ⟨h1, by simp [h2], by simp [h3], by simpa [consF] using h4, by simpa [consF] using h5⟩
          · refine .inr ⟨v, o', h1, by simp [h2], by simpa using h3, by simpa [consF] using h4, ?_, fun k hk hk2 => ?_⟩
            · rw [show i + (N + 1) = i + 1 + N by omega]
              simpa using h5
            · obtain ⟨k', rfl⟩ : ∃ k', k = k' + 1 := ⟨k - 1, by omega⟩
              have := h6 k' (by omega) (by simpa using hk2)
              rw [show i + (N + 1) = i + 1 + N by omega]
              simpa using this

theorem aheads_length : ∀ (l : List Oper) (i : Nat) (t : T Nat), (aheads l i t).length = l.length
  | [], _, _ => rfl
  | o :: l, i, t => by simp [aheads, aheads_length l]

def dstIs (ops : Array Oper) (t k : Nat) : Bool := match (ops[k]?).bind (·.dst) with | some d => Nat.beq d t | none => false
theorem dstIs_ok {ops : Array Oper} {t k : Nat} {o : Oper} (ho : ops[k]? = some o) : dstIs ops t k = true ↔ o.dst = some t := by
  simp only [dstIs, ho, Option.bind_some]
  cases o.dst <;> simp

structure Inv (W0 : Base) (ops : Array Oper) (N : Nat) (X : Nat → AAct) (Sq : Nat → St) (L : Nat → Log) (A : Nat → Prop) (lg : Log) (m0 : Map) (g0 : Heap) (w0 : World) (a0 : Act) (S : Nat → Bool) (m : Map) (a : Act) (w : World) : Prop where
  lt : ∀ j, S j = true → j < N
  closed : ∀ j o, S j = true → ops[j]? = some o → ∀ e ∈ o.after, Region.binds .any e = true → S e.on = true
  step : Step W0 A (bit lg.T) m0 g0 w0 m (fun r => lastOf (fun k => (Sq k).heap.get r) (fun k => (L k).T.testBit r) S N) w
  dom : ∀ r, A r → ((∃ v b, m r v = some b) ∨ ∃ x, m.d r = some x) → r < (Sq 0).next ∨ ∃ j, S j = true ∧ bit (L j).T r
  size : a.tmps.size = (X 0).n
  tm : ∀ t y, lastOf (fun k => (X k).tm.get t) (dstIs ops t) S N = some y → ∃ v, y.den m = some v ∧ a.tmps[t]? = some v
  defers : a.defers = a0.defers

section
variable {P : Program} {E : Eng} {ops : Array Oper} {x x' : AAct} {st st' : St} {e : AX} {lg : Log} {N M : Nat} {X : Nat → AAct} {Sq : Nat → St} {L : Nat → Log} {A : Nat → Prop} {m0 : Map} {g0 : Heap} {w0 : World} {a0 : Act}

theorem Ran.op (hr : Ran P E ops ops.toList 0 (aheads ops.toList 0 .nil) [] x st e x' st' lg N M X Sq L) {k : Nat} (hk : k < M) : ∃ o pv x1 s1, ops[k]? = some o ∧ opD P E ops o (X k) (Sq k) = some (pv, x1, s1, L k) ∧ (k < N → pv = none ∧ x1 = X (k + 1) ∧ s1 = Sq (k + 1)) := by
  by_cases h : k < N
  · obtain ⟨o, h1, h2⟩ := hr.step k h
    exact ⟨o, none, X (k + 1), Sq (k + 1), by simpa using h1, h2, fun _ => ⟨rfl, rfl, rfl⟩⟩
  · rcases hr.fin with ⟨_, _, h3, _, _⟩ | ⟨v, o', h1, h2, h3, h4, h5, h6⟩
    · omega
    · have : k = N := by omega
      subst this
      exact ⟨o', some v, x', st', by simpa using h3, h4, fun h => absurd h (Nat.lt_irrefl _)⟩
theorem Ran.leM (hr : Ran P E ops ops.toList 0 (aheads ops.toList 0 .nil) [] x st e x' st' lg N M X Sq L) : N ≤ M := by
  rcases hr.fin with ⟨_, _, h3, _, _⟩ | ⟨v, o', h1, h2, h3, h4, h5, h6⟩ <;> omega
theorem Ran.mono (hG : CallGk E.call) (hr : Ran P E ops ops.toList 0 (aheads ops.toList 0 .nil) [] x st e x' st' lg N M X Sq L) : ∀ j i, i ≤ j → j ≤ N → (Sq i).next ≤ (Sq j).next := by
  intro j
  induction j with
  | zero => intro i h1 _; rw [show i = 0 by omega]; exact Nat.le_refl _
  | succ j ih =>
    intro i h1 h2
    by_cases h : i = j + 1
    · rw [h]; exact Nat.le_refl _
    · obtain ⟨o, _, ho⟩ := hr.step j (by omega)
      exact Nat.le_trans (ih i (by omega) (by omega)) (opD_chk hG ho).1

/-- Where an operation may come next, it finds what it found. -/
theorem Inv.look (hG : CallGk E.call) (hst : statOk ops = true) (hr : Ran P E ops ops.toList 0 (aheads ops.toList 0 .nil) [] x st e x' st' lg N M X Sq L) (hA : lg.Fits W0 A) {S : Nat → Bool} {m : Map} {a : Act} {w : World} (hi : Inv W0 ops N X Sq L A lg m0 g0 w0 a0 S m a w)
    {i : Nat} {o : Oper} (ho : ops[i]? = some o) (hiM : i < M) (hS : S i = false) (hp : ∀ e ∈ o.after, Region.binds .any e = true → S e.on = true) :
    (∀ r, bit (L i).A r → lastOf (fun k => (Sq k).heap.get r) (fun k => (L k).T.testBit r) S N = (Sq i).heap.get r) ∧ Fresh (bit (L i).A) m (Sq i).next ∧ Looked m ops o (X i) a ∧ (∀ j, S j = true → ∀ r, bit (L j).T r → bit (L i).A r → j < i) ∧
    (∀ j p, S j = true → ops[j]? = some p → ∀ d, p.dst = some d → (d ∈ o.looksAt ops ∨ o.dst = some d) → j < i) := by
  obtain ⟨hsz, hed, hap⟩ := statOk_ok hst
  have hiN : i ≤ N := by rcases hr.fin with ⟨_, _, h3, _, _⟩ | ⟨v, o', h1, h2, h3, h4, h5, h6⟩ <;> omega
  have hNM := hr.leM
  have hcl : ∀ j o', ops[j]? = some o' → (∀ e ∈ o'.after, Region.binds .any e = true → S e.on = true) → ∀ q, (pm ops j).testBit q = true → S q = true :=
    closed_pm hsz (fun j => S j = true) hi.closed
  have hpm : ∀ q, (pm ops i).testBit q = true → S q = true := hcl i o ho hp
  have hSpm : ∀ j, S j = true → ∀ q, (pm ops j).testBit q = true → S q = true := fun j hj q hq => by
    have hjs : j < ops.size := by have := hi.lt j hj; have := hr.le; simp at this; omega
    have hjo : ops[j]? = some ops[j] := Array.getElem?_eq_getElem hjs
    exact hcl j _ hjo (fun e he hb => hi.closed j _ hj hjo e he hb) q hq
  have ord1 : ∀ j, S j = true → ∀ r, bit (L j).T r → bit (L i).A r → j < i := by
    intro j hj r hT hAr
    have hjN := hi.lt j hj
    rcases Nat.lt_trichotomy j i with h | h | h
    · exact h
    · subst h; rw [hS] at hj; cases hj
    · rcases hr.sep i j h (by omega) with hb | hb
      · have := hSpm j hj i (by simpa [pm] using hb)
        rw [hS] at this; cases this
      · exact (and_zero hb.2 hT hAr).elim
  have ord2 : ∀ j, j < i → ∀ r, bit (L j).T r → bit (L i).A r → S j = true := by
    intro j hj r hT hAr
    rcases hr.sep j i hj hiM with hb | hb
    · exact hpm j (by simpa [pm] using hb)
    · exact (and_zero hb.1 hT hAr).elim
  have tord1 : ∀ j p, S j = true → ops[j]? = some p → ∀ d, p.dst = some d → (d ∈ o.looksAt ops ∨ o.dst = some d) → j < i := by
    intro j p hj hp' d hd hl
    rcases Nat.lt_trichotomy j i with h | h | h
    · exact h
    · subst h; rw [hS] at hj; cases hj
    · rcases hap i j o p h ho hp' with hb | hb
      · have := hSpm j hj i hb
        rw [hS] at this; cases this
      · have q := Oper.apart_spec hb.2
        rcases hl with hl | hl
        · exact absurd hl (q.1 d hd)
        · exact absurd hl (q.2.1 d hd)
  have tord2 : ∀ j p, j < i → ops[j]? = some p → ∀ d, p.dst = some d → d ∈ o.looksAt ops → S j = true := by
    intro j p hj hp' d hd hl
    rcases hap j i p o hj hp' ho with hb | hb
    · exact hpm j hb
    · exact absurd hl ((Oper.apart_spec hb.1).1 d hd)
  have agree : ∀ r, bit (L i).A r → lastOf (fun k => (Sq k).heap.get r) (fun k => (L k).T.testBit r) S N = (Sq i).heap.get r := by
    intro r hAr
    rw [lastOf_above i N hiN (fun j h1 h2 ht => ?_)]
    · rw [← lastOf_same (S := fun k => S k && Nat.blt k N) (S' := S) i (fun j hj _ => by have : Nat.blt j N = true := by simp; omega
                                                                                         simp [this])]
      have key : ∀ q, q ≤ i → lastOf (fun k => (Sq k).heap.get r) (fun k => (L k).T.testBit r) S q = (Sq q).heap.get r := by
        intro q
        induction q with
        | zero => intro _; rfl
        | succ q ih =>
          intro hq
          simp only [lastOf]
          by_cases ht : (L q).T.testBit r = true
          · rw [if_pos (by rw [ord2 q (by omega) r ht hAr, ht]; rfl)]
          · rw [if_neg (by simp [ht]), ih (by omega)]
            obtain ⟨o', _, ho'⟩ := hr.step q (by omega)
            exact ((opD_chk hG ho').2.2.2.1 r ht).symm
      rw [lastOf_same (S' := S) i (fun j hj _ => by have : Nat.blt j N = true := by simp; omega
                                                    simp [this])]
      exact key i (Nat.le_refl _)
    · cases hj : S j with
      | false => rfl
      | true => have := ord1 j hj r ht hAr; omega
  refine ⟨agree, ?_, ⟨?_, ?_⟩, ord1, tord1⟩
  · intro r hAr hge
    have no : ((∃ v b, m r v = some b) ∨ ∃ x, m.d r = some x) → False := by
      intro hm
      rcases hi.dom r (hA.1 r ((hr.sub i hiM).1 r hAr)) hm with h | ⟨j, hj, hT⟩
      · have := hr.mono hG i 0 (Nat.zero_le _) hiN; omega
      · have hji := ord1 j hj r hT hAr
        obtain ⟨o', _, ho'⟩ := hr.step j (hi.lt j hj)
        have h1 := (opD_chk hG ho').2.1 r hT
        have h2 := hr.mono hG i (j + 1) (by omega) hiN
        omega
    refine ⟨fun v => ?_, ?_⟩
    · cases hm : m r v with
      | none => rfl
      | some b => exact (no (.inl ⟨v, b, hm⟩)).elim
    · cases hm : m.d r with
      | none => rfl
      | some x => exact (no (.inr ⟨x, hm⟩)).elim
  · have : ∀ q, q ≤ N → (X q).n = (X 0).n := by
      intro q
      induction q with
      | zero => intro _; rfl
      | succ q ih =>
        intro hq
        obtain ⟨o', _, ho'⟩ := hr.step q (by omega)
        rw [(opD_chk hG ho').2.2.2.2.1, ih (by omega)]
    rw [this i hiN]
    exact hi.size
  · intro t y ht hy
    refine hi.tm t y ?_
    rw [lastOf_above i N hiN (fun j h1 h2 hd => ?_)]
    · have key : ∀ q, q ≤ i → lastOf (fun k => (X k).tm.get t) (dstIs ops t) S q = (X q).tm.get t := by
        intro q
        induction q with
        | zero => intro _; rfl
        | succ q ih =>
          intro hq
          obtain ⟨o', hl', ho'⟩ := hr.step q (by omega)
          have hoq : ops[q]? = some o' := by simpa using hl'
          simp only [lastOf]
          by_cases hd : dstIs ops t q = true
          · rw [if_pos (by rw [tord2 q o' (by omega) hoq t ((dstIs_ok hoq).1 hd) ht, hd]; rfl)]
          · rw [if_neg (by simp [hd]), ih (by omega)]
            exact ((opD_chk hG ho').2.2.2.2.2.2.1 t (fun he => hd ((dstIs_ok hoq).2 he))).symm
      rw [key i (Nat.le_refl _)]
      exact hy
    · cases hj : S j with
      | false => rfl
      | true =>
        have hjs : j < ops.size := by have := hr.le; simp at this; omega
        have hjo : ops[j]? = some ops[j] := Array.getElem?_eq_getElem hjs
        have := tord1 j _ hj hjo t ((dstIs_ok hjo).1 hd) (.inl ht)
        omega

theorem Inv.rel (hG : CallGk E.call) (hst : statOk ops = true) (hr : Ran P E ops ops.toList 0 (aheads ops.toList 0 .nil) [] x st e x' st' lg N M X Sq L) (hA : lg.Fits W0 A) {S : Nat → Bool} {m : Map} {a : Act} {w : World} (hi : Inv W0 ops N X Sq L A lg m0 g0 w0 a0 S m a w)
    {i : Nat} (hiM : i < M) (hag : ∀ r, bit (L i).A r → lastOf (fun k => (Sq k).heap.get r) (fun k => (L k).T.testBit r) S N = (Sq i).heap.get r) : Rel W0 (bit (L i).A) m (Sq i).heap.get w := by
  have h := hi.step.rel.sub (A' := bit (L i).A) (fun r hr' => hA.1 r ((hr.sub i hiM).1 r hr'))
  refine ⟨fun r o ha ho => h.blk r o ha (by rw [hag r ha]; exact ho), fun r r' o o' v n v' n' b b' ha ha' ho ho' => h.inj r r' o o' v n v' n' b b' ha ha' (by rw [hag r ha]; exact ho) (by rw [hag r' ha']; exact ho'), fun r o v n rest ha ho => h.top r o v n rest ha (by rw [hag r ha]; exact ho), h.size0, h.amb, fun r o v n b ha ho => h.abv r o v n b ha (by rw [hag r ha]; exact ho), fun r o R ha ho => h.dat r o R ha (by rw [hag r ha]; exact ho), fun r o R v fp r' o' u n b ha ha' ho hd hm ho' => h.disj r o R v fp r' o' u n b ha ha' (by rw [hag r ha]; exact ho) hd hm (by rw [hag r' ha']; exact ho'), h.sv, h.same, fun r o R v fp ha ho => h.fpb r o R v fp ha (by rw [hag r ha]; exact ho), fun r o e v n b ha ho => h.row r o e v n b ha (by rw [hag r ha]; exact ho)⟩

/-- One more. -/
theorem Inv.next (hN : GoodP P) (hE : CallOk P E.call) (hG : CallGk E.call) (hst : statOk ops = true) (hr : Ran P E ops ops.toList 0 (aheads ops.toList 0 .nil) [] x st e x' st' lg N M X Sq L) (hA : lg.Fits W0 A) {S S' : Nat → Bool} {m : Map} {a : Act} {w : World} (hi : Inv W0 ops N X Sq L A lg m0 g0 w0 a0 S m a w)
    {i : Nat} {o : Oper} (ho : ops[i]? = some o) (hiN : i < N) (hS : S i = false) (hp : ∀ e ∈ o.after, Region.binds .any e = true → S e.on = true) (hS' : ∀ j, S' j = (S j || Nat.beq j i)) {K : Act → World → Prop} {Q : Exit → Act → World → Prop}
    (hK : ∀ m' a' w', Inv W0 ops N X Sq L A lg m0 g0 w0 a0 S' m' a' w' → K a' w') : wpOp P ops Q i K a w := by
  have hNM := hr.leM
  obtain ⟨hag, hfr, hlook, ord1, tord1⟩ := hi.look hG hst hr hA ho (by omega) hS hp
  have hrel := hi.rel hG hst hr hA (by omega) hag
  obtain ⟨o', hl', hop⟩ := hr.step i hiN
  have : o' = o := by
    have : ops[i]? = some o' := by simpa using hl'
    rw [ho] at this; exact (Option.some.inj this).symm
  subst this
  obtain ⟨c1, c2, c3, c4, c5, c6, c7, _⟩ := opD_chk hG hop
  refine opD_ok hN hE ho hop (A := bit (L i).A) ⟨fun _ h => h, fun p hp => hA.2 p ((hr.sub i (by omega)).2.2 p hp)⟩ hrel hfr hlook (fun _ m' a' w' hok hdef hsz hother hdst => ?_) (fun v hv => by cases hv)
  have hself : S' i = true := by rw [hS']; simp
  have hne : ∀ j, j ≠ i → S' j = S j := fun j hj => by
    rw [hS']
    have : Nat.beq j i = false := by
      cases hq : Nat.beq j i with
      | false => rfl
      | true => exact absurd (Nat.eq_of_beq_eq_true hq) hj
    rw [this, Bool.or_false]
  have hsub := hr.sub i (by omega)
  refine hK m' a' w' ⟨?_, ?_, ?_, ?_, ?_, ?_, ?_⟩
  · intro j hj
    by_cases h : j = i
    · rw [h]; exact hiN
    · rw [hne j h] at hj; exact hi.lt j hj
  · intro j p hj hpj e he hb
    have hS'of : ∀ q, S q = true → S' q = true := fun q hq => by rw [hS', hq]; rfl
    by_cases h : j = i
    · subst h
      rw [ho] at hpj
      cases hpj
      exact hS'of _ (hp e he hb)
    · rw [hne j h] at hj
      exact hS'of _ (hi.closed j p hj hpj e he hb)
  · have hmerge := Step.merge (A := A) (Ai := bit (L i).A) (Ti := bit (L i).T) (g' := fun r => lastOf (fun k => (Sq k).heap.get r) (fun k => (L k).T.testBit r) S' N) hi.step.rel hok.step (fun r hr' => hA.1 r (hsub.1 r hr')) c3 (fun r hr' => (hag r hr').symm) ?_ ?_
    · exact (hi.step.trans hmerge).more (fun r hr' => hr'.elim (fun q => q) (hsub.2.1 r))
    · intro r hT
      show lastOf _ _ S' N = _
      rw [lastOf_above (i + 1) N (by omega) (fun j h1 h2 ht => ?_)]
      · simp only [lastOf]
        rw [if_pos (by rw [hself]; exact hT)]
      · cases hj : S' j with
        | false => rfl
        | true =>
          rw [hne j (by omega)] at hj
          have := ord1 j hj r ht (c3 r hT)
          omega
    · intro r hT
      show lastOf _ _ S' N = lastOf _ _ S N
      refine lastOf_same N (fun j hj ht => ?_)
      by_cases h : j = i
      · subst h; exact absurd ht hT
      · exact hne j h
  · intro r ha hb
    by_cases hT : bit (L i).T r
    · exact .inr ⟨i, hself, hT⟩
    · rw [hok.step.dkeep r hT] at hb
      simp only [hok.step.mkeep r hT] at hb
      rcases hi.dom r ha hb with h | ⟨j, hj, hT'⟩
      · exact .inl h
      · exact .inr ⟨j, by rw [hS', hj]; rfl, hT'⟩
  · rw [hsz]; exact hi.size
  · intro t y hy
    by_cases hd : o'.dst = some t
    · have : lastOf (fun k => (X k).tm.get t) (dstIs ops t) S' N = (X (i + 1)).tm.get t := by
        rw [lastOf_above (i + 1) N (by omega) (fun j h1 h2 ht => ?_)]
        · simp only [lastOf]
          rw [if_pos (by rw [hself, (dstIs_ok ho).2 hd]; rfl)]
        · cases hj : S' j with
          | false => rfl
          | true =>
            rw [hne j (by omega)] at hj
            have hjs : j < ops.size := by have := hr.le; simp at this; omega
            have hjo : ops[j]? = some ops[j] := Array.getElem?_eq_getElem hjs
            have := tord1 j _ hj hjo t ((dstIs_ok hjo).1 ht) (.inr hd)
            omega
      rw [this] at hy
      exact hdst t y hd hy
    · have : lastOf (fun k => (X k).tm.get t) (dstIs ops t) S' N = lastOf (fun k => (X k).tm.get t) (dstIs ops t) S N := by
        refine lastOf_same N (fun j hj ht => ?_)
        by_cases h : j = i
        · subst h; exact absurd ((dstIs_ok ho).1 ht) hd
        · exact hne j h
      rw [this] at hy
      obtain ⟨v, hv, hg⟩ := hi.tm t y hy
      exact ⟨v, AV.den_mono hok.ext y hv, by rw [hother t hd]; exact hg⟩
  · rw [hdef]; exact hi.defers
end

theorem countP_lt (p q : Nat → Bool) (hpq : ∀ j, q j = true → p j = true) (i : Nat) (hp : p i = true) (hq : q i = false) : ∀ n, i < n → (List.range n).countP q < (List.range n).countP p := by
  intro n
  induction n with
  | zero => intro h; omega
  | succ n ih =>
    intro h
    rw [List.range_succ, List.countP_append, List.countP_append]
    by_cases hin : i = n
    · subst hin
      have : (List.range i).countP q ≤ (List.range i).countP p := List.countP_mono_left (fun j _ => hpq j)
      simp [hp, hq]
      omega
    · have h1 := ih (by omega)
      have h2 : (List.countP q [n]) ≤ (List.countP p [n]) := List.countP_mono_left (fun j _ => hpq j)
      omega

theorem getD_set {listed : Array Bool} {i : Nat} (hi : i < listed.size) (j : Nat) : (listed.setIfInBounds i true).getD j false = (listed.getD j false || Nat.beq j i) := by
  by_cases h : j = i
  · subst h
    simp [hi]
  · have : Nat.beq j i = false := by
      cases hq : Nat.beq j i with
      | false => rfl
      | true => exact absurd (Nat.eq_of_beq_eq_true hq) h
    rw [this, Bool.or_false]
    exact getD_set_ne false (Ne.symm h)

theorem drawF_ok {P : Program} (hN : GoodP P) (hM : P.follows .mixedOrders = true) : DrawOk P (drawF P) := by
  intro E hE hG id ops x st e x' st' lg h W0 A m a w hA hR hF hT
  unfold drawF at h
  cases hst : statOk ops with
  | false => simp [hst] at h
  | true =>
    simp only [hst, cond_true] at h
    obtain ⟨hsz, hed, hap⟩ := statOk_ok hst
    obtain ⟨N, M, X, Sq, L, hr⟩ := drawGo_ran _ _ _ _ _ _ _ _ _ _ h
    have hNM := hr.leM
    have hNs : N ≤ ops.size := by simpa using hr.le
    refine wp_region_any hM ?_
    have main : ∀ (fuel : Nat) (listed : Array Bool) (m1 : Map) (a1 : Act) (w1 : World), listed.size = ops.size → (List.range ops.size).countP (fun j => !listed.getD j false) ≤ fuel →
        Inv W0 ops N X Sq L A lg m st.heap.get w a (fun j => listed.getD j false) m1 a1 w1 → wpAny P .any ops (XPost W0 A m st w e x' st' lg) fuel listed a1 w1 := by
      intro fuel
      induction fuel with
      | zero =>
        intro listed m1 a1 w1 hls hcnt hi
        have hall : ∀ j, j < ops.size → listed.getD j false = true := by
          intro j hj
          cases hq : listed.getD j false with
          | true => rfl
          | false =>
            have hpos : 0 < (List.range ops.size).countP (fun j => !listed.getD j false) := List.countP_pos_iff.2 ⟨j, List.mem_range.2 hj, by simp only [hq]; rfl⟩
            omega
        have hNn : N = ops.size := by
          rcases Nat.lt_or_ge N ops.size with hlt | hge
          · have := hi.lt N (hall N hlt); omega
          · omega
        have hready : Region.ready .any ops listed = [] := by
          apply List.eq_nil_iff_forall_not_mem.2
          intro j hj
          obtain ⟨h1, o, ho, _⟩ := mem_ready.1 hj
          have hjs := (Array.getElem?_eq_some_iff.1 ho).1
          have := hall j hjs
          rw [Array.getD_eq_getD_getElem?, Array.getElem?_eq_getElem (by omega)] at h1 this
          simp at h1 this
          rw [h1] at this
          cases this
        refine ⟨hready, ?_⟩
        rcases hr.fin with ⟨rfl, h2, h3, rfl, rfl⟩ | ⟨v, o', h1, h2, h3, h4, h5, h6⟩
        · have hheap : (fun r => lastOf (fun k => (Sq k).heap.get r) (fun k => (L k).T.testBit r) (fun j => listed.getD j false) N) = (Sq N).heap.get := by
            funext r
            have key : ∀ q, q ≤ N → lastOf (fun k => (Sq k).heap.get r) (fun k => (L k).T.testBit r) (fun j => listed.getD j false) q = (Sq q).heap.get r := by
              intro q
              induction q with
              | zero => intro _; rfl
              | succ q ih =>
                intro hq
                simp only [lastOf]
                by_cases ht : (L q).T.testBit r = true
                · rw [if_pos (by rw [hall q (by omega), ht]; rfl)]
                · rw [if_neg (by simp [ht]), ih (by omega)]
                  obtain ⟨o', _, ho'⟩ := hr.step q (by omega)
                  exact ((opD_chk hG ho').2.2.2.1 r ht).symm
            exact key N (Nat.le_refl _)
          have hstep := hi.step
          rw [hheap] at hstep
          refine ⟨m1, ⟨hstep, ?_⟩, ⟨?_, ?_, ?_⟩, rfl⟩
          · intro r ha hge
            have no : ((∃ v b, m1 r v = some b) ∨ ∃ x, m1.d r = some x) → False := by
              intro hm
              rcases hi.dom r ha hm with h | ⟨j, hj, hTj⟩
              · have := hr.mono hG N 0 (Nat.zero_le _) (Nat.le_refl _); omega
              · obtain ⟨o', _, ho'⟩ := hr.step j (hi.lt j hj)
                have h1 := (opD_chk hG ho').2.1 r hTj
                have h2 := hr.mono hG N (j + 1) (by have := hi.lt j hj; omega) (Nat.le_refl _)
                omega
            refine ⟨fun v => ?_, ?_⟩
            · cases hm : m1 r v with
              | none => rfl
              | some b => exact (no (.inl ⟨v, b, hm⟩)).elim
            · cases hm : m1.d r with
              | none => rfl
              | some x => exact (no (.inr ⟨x, hm⟩)).elim
          · have : ∀ q, q ≤ N → (X q).n = (X 0).n := by
              intro q
              induction q with
              | zero => intro _; rfl
              | succ q ih =>
                intro hq
                obtain ⟨o', _, ho'⟩ := hr.step q (by omega)
                rw [(opD_chk hG ho').2.2.2.2.1, ih (by omega)]
            rw [this N (Nat.le_refl _)]
            exact hi.size
          · intro t y hy
            refine hi.tm t y ?_
            have key : ∀ q, q ≤ N → lastOf (fun k => (X k).tm.get t) (dstIs ops t) (fun j => listed.getD j false) q = (X q).tm.get t := by
              intro q
              induction q with
              | zero => intro _; rfl
              | succ q ih =>
                intro hq
                obtain ⟨o', hl', ho'⟩ := hr.step q (by omega)
                have hoq : ops[q]? = some o' := by simpa using hl'
                simp only [lastOf]
                by_cases hd : dstIs ops t q = true
                · rw [if_pos (by rw [hall q (by omega), hd]; rfl)]
                · rw [if_neg (by simp [hd]), ih (by omega)]
                  exact ((opD_chk hG ho').2.2.2.2.2.2.1 t (fun he => hd ((dstIs_ok hoq).2 he))).symm
            rw [key N (Nat.le_refl _)]
            exact hy
          · have hdx : ∀ q, q ≤ N → (X q).defers = (X 0).defers := by
              intro q
              induction q with
              | zero => intro _; rfl
              | succ q ih =>
                intro hq
                obtain ⟨o', _, ho'⟩ := hr.step q (by omega)
                rw [(opD_chk hG ho').2.2.2.2.2.1, ih (by omega)]
            rw [hdx N (Nat.le_refl _), hr.x0, hi.defers]
            exact denD_mono hi.step.ext hT.defers
        · have : N < ops.size := by
            have := (List.getElem?_eq_some_iff.1 h3).1
            simpa using this
          omega
      | succ fuel ih =>
        intro listed m1 a1 w1 hls hcnt hi
        have hlist : ∀ j, j < ops.size → (listed.getD j true = listed.getD j false) := by
          intro j hj
          simp only [Array.getD_eq_getD_getElem?, Array.getElem?_eq_getElem (show j < listed.size by omega)]
          rfl
        refine ⟨?_, ?_⟩
        · intro hrd
          by_cases hall : ∀ j, j < ops.size → listed.getD j false = true
          · have hz : (List.range ops.size).countP (fun j => !listed.getD j false) = 0 := by
              rw [List.countP_eq_zero]
              intro j hj
              rw [hall j (List.mem_range.1 hj)]
              simp
            have := ih listed m1 a1 w1 hls (by omega) hi
            cases fuel with
            | zero => exact this.2
            | succ f => exact this.1 hrd
          · exfalso
            have hex : ∃ j, j < ops.size ∧ listed.getD j false = false := by
              apply Classical.byContradiction
              intro hno
              apply hall
              intro j hj
              cases hq : listed.getD j false with
              | true => rfl
              | false => exact absurd ⟨j, hj, hq⟩ hno
            have hmin : ∀ n, ∀ j, j ≤ n → j < ops.size → listed.getD j false = false → False := by
              intro n
              induction n using Nat.strongRecOn with
              | _ n ihn =>
                intro j hjn hj hq
                have hjo : ops[j]? = some ops[j] := Array.getElem?_eq_getElem hj
                have : j ∈ Region.ready .any ops listed := by
                  refine mem_ready.2 ⟨by rw [hlist j hj]; exact hq, _, hjo, fun e he hb => ?_⟩
                  have hlt := hed j _ hjo e he hb
                  cases hq2 : listed.getD e.on false with
                  | true => rfl
                  | false => exact (ihn e.on (by omega) e.on (Nat.le_refl _) (by omega) hq2).elim
                rw [hrd] at this
                cases this
            obtain ⟨j, hj, hq⟩ := hex
            exact hmin j j (Nat.le_refl _) hj hq
        · intro i hmem
          obtain ⟨hq, o, ho, hpre⟩ := mem_ready.1 hmem
          have his := (Array.getElem?_eq_some_iff.1 ho).1
          have hS : listed.getD i false = false := by rw [← hlist i his]; exact hq
          by_cases hiN : i < N
          · refine hi.next hN hE hG hst hr hA ho hiN hS hpre (S' := fun j => (listed.setIfInBounds i true).getD j false) (fun j => getD_set (by omega) j) ?_
            intro m2 a2 w2 hi2
            refine ih _ m2 a2 w2 (by simp [hls]) ?_ hi2
            have := countP_lt (fun j => !listed.getD j false) (fun j => !(listed.setIfInBounds i true).getD j false) (fun j hj => by
              rw [getD_set (by omega)] at hj
              simp at hj ⊢
              exact hj.1) i (by rw [hS]; rfl) (by rw [getD_set (by omega)]; simp) ops.size his
            omega
          · rcases hr.fin with ⟨h1, h2, h3, h4, h5⟩ | ⟨v, o', rfl, h2, h3, h4, h5, h6⟩
            · simp at h2; omega
            · have hcl : ∀ j, (pm ops i).testBit j = true → listed.getD j false = true := closed_pm hsz (fun j => listed.getD j false = true) hi.closed i o ho hpre
              by_cases hiN2 : i = N
              · subst hiN2
                have hoo : o' = o := by
                  have : ops[i]? = some o' := by simpa using h3
                  rw [ho] at this; exact (Option.some.inj this).symm
                subst hoo
                have hall : ∀ j, j < i → listed.getD j false = true := by
                  intro j hj
                  refine hcl j ?_
                  have : pm ops i = (1 <<< i) - 1 := by simpa [pm] using h5
                  rw [this, Nat.shiftLeft_eq, Nat.one_mul, Nat.testBit_two_pow_sub_one]
                  simpa using hj
                obtain ⟨hag, hfr, hlook, _, _⟩ := hi.look hG hst hr hA ho (by omega) hS hpre
                have hrel := hi.rel hG hst hr hA (by omega) hag
                obtain ⟨c1, c2, c3, c4, c5, c6, c7, c8⟩ := opD_chk hG h4
                have hxx := c8 v rfl
                subst hxx
                have hsub := hr.sub i (by omega)
                refine opD_ok hN hE ho h4 (A := bit (L i).A) ⟨fun _ h => h, fun p hp => hA.2 p ((hr.sub i (by omega)).2.2 p hp)⟩ hrel hfr hlook (fun hn => by cases hn) (fun v' hv m' w' hok => ?_)
                cases hv
                have hheap : ∀ r, lastOf (fun k => (Sq k).heap.get r) (fun k => (L k).T.testBit r) (fun j => listed.getD j false) i = (Sq i).heap.get r := by
                  intro r
                  have key : ∀ q, q ≤ i → lastOf (fun k => (Sq k).heap.get r) (fun k => (L k).T.testBit r) (fun j => listed.getD j false) q = (Sq q).heap.get r := by
                    intro q
                    induction q with
                    | zero => intro _; rfl
                    | succ q ih =>
                      intro hq
                      simp only [lastOf]
                      by_cases ht : (L q).T.testBit r = true
                      · rw [if_pos (by rw [hall q (by omega), ht]; rfl)]
                      · rw [if_neg (by simp [ht]), ih (by omega)]
                        obtain ⟨o', _, ho'⟩ := hr.step q (by omega)
                        exact ((opD_chk hG ho').2.2.2.1 r ht).symm
                  exact key i (Nat.le_refl _)
                have hmerge := Step.merge (A := A) (Ai := bit (L i).A) (Ti := bit (L i).T) (g' := st'.heap.get) hi.step.rel hok.step (fun r hr' => hA.1 r (hsub.1 r hr')) c3 (fun r hr' => (hag r hr').symm) (fun r _ => rfl) (fun r hT => by rw [c4 r hT]; exact (hheap r).symm)
                refine ⟨m', ⟨(hi.step.trans hmerge).more (fun r hr' => hr'.elim (fun q => q) (hsub.2.1 r)), ?_⟩, ⟨?_, ?_, ?_⟩, rfl⟩
                · intro r ha hge
                  have no : ((∃ v b, m' r v = some b) ∨ ∃ x, m'.d r = some x) → False := by
                    intro hm
                    by_cases hT : bit (L i).T r
                    · have := c2 r hT; omega
                    · rw [hok.step.dkeep r hT] at hm
                      simp only [hok.step.mkeep r hT] at hm
                      rcases hi.dom r ha hm with h | ⟨j, hj, hTj⟩
                      · have := hr.mono hG i 0 (Nat.zero_le _) (Nat.le_refl _); omega
                      · obtain ⟨o', _, ho'⟩ := hr.step j (hi.lt j hj)
                        have h1 := (opD_chk hG ho').2.1 r hTj
                        have h2 := hr.mono hG i (j + 1) (by have := hi.lt j hj; omega) (Nat.le_refl _)
                        omega
                  refine ⟨fun v => ?_, ?_⟩
                  · cases hm : m' r v with
                    | none => rfl
                    | some b => exact (no (.inl ⟨v, b, hm⟩)).elim
                  · cases hm : m'.d r with
                    | none => rfl
                    | some x => exact (no (.inr ⟨x, hm⟩)).elim
                · exact hlook.1
                · intro t y hy
                  have key : ∀ q, q ≤ i → lastOf (fun k => (X k).tm.get t) (dstIs ops t) (fun j => listed.getD j false) q = (X q).tm.get t := by
                    intro q
                    induction q with
                    | zero => intro _; rfl
                    | succ q ih =>
                      intro hq
                      obtain ⟨o', hl', ho'⟩ := hr.step q (by omega)
                      have hoq : ops[q]? = some o' := by simpa using hl'
                      simp only [lastOf]
                      by_cases hd : dstIs ops t q = true
                      · rw [if_pos (by rw [hall q (by omega), hd]; rfl)]
                      · rw [if_neg (by simp [hd]), ih (by omega)]
                        exact ((opD_chk hG ho').2.2.2.2.2.2.1 t (fun he => hd ((dstIs_ok hoq).2 he))).symm
                  obtain ⟨u, hu, hg⟩ := hi.tm t y (by rw [key i (Nat.le_refl _)]; exact hy)
                  exact ⟨u, AV.den_mono hok.ext y hu, hg⟩
                · have hdx : ∀ q, q ≤ i → (X q).defers = (X 0).defers := by
                    intro q
                    induction q with
                    | zero => intro _; rfl
                    | succ q ih =>
                      intro hq
                      obtain ⟨o', _, ho'⟩ := hr.step q (by omega)
                      rw [(opD_chk hG ho').2.2.2.2.2.1, ih (by omega)]
                  rw [hdx i (Nat.le_refl _), hr.x0, hi.defers]
                  exact denD_mono (hi.step.ext.trans hok.ext) hT.defers
              · exfalso
                have hlen : (aheads ops.toList 0 .nil).length = ops.size := by rw [aheads_length]; simp
                have h7 := h6 i (by omega) (by omega)
                have := hcl N (by simpa [pm] using h7)
                have := hi.lt N this
                omega
    refine main ops.size _ m a _ (by simp) ?_ ⟨?_, ?_, ?_, ?_, ?_, ?_, rfl⟩
    · exact Nat.le_trans List.countP_le_length (by simp)
    · intro j hj
      simp [Array.getD_eq_getD_getElem?, Array.getElem?_replicate] at hj
      split at hj <;> simp at hj
    · intro j o hj
      simp [Array.getD_eq_getD_getElem?, Array.getElem?_replicate] at hj
      split at hj <;> simp at hj
    · have : (fun r => lastOf (fun k => (Sq k).heap.get r) (fun k => (L k).T.testBit r) (fun j => (Array.replicate ops.size false).getD j false) N) = st.heap.get := by
        funext r
        rw [lastOf_none N (fun j hj => by
          simp only [Array.getD_eq_getD_getElem?, Array.getElem?_replicate]
          split <;> rfl), hr.s0]
      rw [this]
      exact step_drew _ hR
    · intro r ha hb
      left
      rw [hr.s0]
      rcases Nat.lt_or_ge r st.next with hlt | hge
      · exact hlt
      · rcases hb with ⟨v, b, hb⟩ | ⟨x, hx⟩
        · rw [(hF r ha hge).1 v] at hb; cases hb
        · rw [(hF r ha hge).2] at hx; cases hx
    · rw [hr.x0]; exact hT.size
    · intro t y hy
      rw [lastOf_none N (fun j hj => by
        simp only [Array.getD_eq_getD_getElem?, Array.getElem?_replicate]
        split <;> rfl), hr.x0] at hy
      exact hT.get t y hy

end Go.Proofs.Ytfcdbknmajfkaaa.eng
