/- The engine: new things of which something is known. -/
import Derived.Test.YtfcdbknmajfkaaaEng8
import Derived.Test.YtfcdbknmajfkaaaAfter
namespace Go.Proofs.Ytfcdbknmajfkaaa.eng
open Go Go.RowKit
variable {W0 : Base}
set_option linter.unusedVariables false
set_option linter.unusedSimpArgs false

theorem Ok.rel {A : Nat → Prop} {m m' : Map} {st st' : St} {w w' : World} {lg : Log} (h : Ok W0 A m st w m' st' lg w') : Rel W0 A m' st'.heap.get w' := h.step.rel
theorem Ok.ext {A : Nat → Prop} {m m' : Map} {st st' : St} {w w' : World} {lg : Log} (h : Ok W0 A m st w m' st' lg w') : m.Le m' := h.step.ext

/-- A thing; whether it may live on in what is answered. -/
def datRoot (e : SX × Bool) : ARoot := { cells := [], elem := 0, esz := 0, ro := e.2, opn := false, vers := [], dat := some e.1 }
def newDats : List (SX × Bool) → Nat → T ARoot → T ARoot
  | [], _, h => h
  | R :: Rs, n, h => newDats Rs (n + 1) (T.set 24 h n (some (datRoot R)))
theorem newDats_get : ∀ (Rs : List (SX × Bool)) (n : Nat) (h : T ARoot) (r : Nat), n + Rs.length < 16777215 → (newDats Rs n h).get r = if n ≤ r ∧ r < n + Rs.length then (Rs[r - n]?).map datRoot else h.get r
  | [], n, h, r, _ => by
    have : ¬ (n ≤ r ∧ r < n + 0) := by omega
    simp only [newDats, List.length_nil]
    rw [if_neg this]
  | R :: Rs, n, h, r, hb => by
    simp only [List.length_cons] at hb ⊢
    rw [newDats, newDats_get Rs (n + 1) _ r (by omega), T.get_set _ _ _ _ _ (show n + 1 < 16777216 by omega)]
    by_cases h1 : r = n
    · subst h1
      have : ¬ (r + 1 ≤ r ∧ r < r + 1 + Rs.length) := by omega
      rw [if_neg this, if_pos rfl, if_pos (by omega)]
      simp
    · by_cases h2 : n + 1 ≤ r ∧ r < n + 1 + Rs.length
      · rw [if_pos h2, if_pos (by omega), show r - n = (r - (n + 1)) + 1 by omega]
        simp
      · rw [if_neg h2, if_neg h1, if_neg (by omega)]
def maskFrom (n k : Nat) : Nat := ((1 <<< k) - 1) <<< n
theorem maskFrom_bit (n k r : Nat) : bit (maskFrom n k) r ↔ n ≤ r ∧ r < n + k := by
  simp only [bit, maskFrom, Nat.testBit_shiftLeft, Nat.one_shiftLeft, Nat.testBit_two_pow_sub_one, Bool.and_eq_true, decide_eq_true_eq]
  omega

/-- Such things are put down anew. -/
def St.dats (st : St) (es : List (SX × Bool)) : St := { st with heap := newDats es st.next st.heap, next := st.next + es.length }
/-- Where an old thing hangs on. -/
def Hangs (A : Nat → Prop) (m : Map) (st : St) (k : Nat) : Prop := ∃ r o e v fp, A r ∧ st.heap.get r = some o ∧ o.dat = some e ∧ m.d r = some (v, fp) ∧ fp k

theorem addDats {A : Nat → Prop} {m : Map} {st : St} {w w' : World} (hR : Rel W0 A m st.heap.get w) (hF : Fresh A m st.next) (hex : Ex w w') (es : List (SX × Bool)) (us : List Value) (fps : Nat → Nat → Prop) {lg : Log} (hlT : lg.T = maskFrom st.next es.length)
    (hul : us.length = es.length) (hlt : st.next + es.length < 16777215) (hAn : ∀ r, st.next ≤ r → r < st.next + es.length → A r)
    (h : ∀ (i : Nat) (e : SX × Bool) (u : Value), es[i]? = some e → us[i]? = some u → u.oneCell' = true ∧ (∀ k, fps i k → k < w'.heap.size ∧ (e.2 = true → W0.fp k ∨ W0.heap.size ≤ k) ∧ (k < w.heap.size → Hangs A m st k)) ∧ ∀ w2 : World, (∀ k, fps i k → w2.heap[k]? = w'.heap[k]?) → W0.know e.1 w2 u) :
    ∃ m', Ok W0 A m st w m' (st.dats es) lg w' ∧ (∀ i u, us[i]? = some u → m'.d (st.next + i) = some (u, fps i)) ∧ (∀ r, r < st.next → m'.d r = m.d r) := by
  let m' : Map := ⟨m.f, fun r => if st.next ≤ r ∧ r < st.next + es.length then some (us.getD (r - st.next) undef, fps (r - st.next)) else m.d r, m.s⟩
  have hin : ∀ r, st.next ≤ r ∧ r < st.next + es.length → m'.d r = some (us.getD (r - st.next) undef, fps (r - st.next)) := fun r h1 => by
    show (if st.next ≤ r ∧ r < st.next + es.length then _ else _) = _
    rw [if_pos h1]
  have hout : ∀ r, ¬ (st.next ≤ r ∧ r < st.next + es.length) → m'.d r = m.d r := fun r h1 => by
    show (if st.next ≤ r ∧ r < st.next + es.length then _ else _) = _
    rw [if_neg h1]
  have hT : ∀ r, bit lg.T r ↔ (st.next ≤ r ∧ r < st.next + es.length) := fun r => by rw [hlT]; exact maskFrom_bit _ _ _
  have hg := newDats_get es st.next st.heap
  have hgin : ∀ r o, st.next ≤ r ∧ r < st.next + es.length → (newDats es st.next st.heap).get r = some o → ∃ R, es[r - st.next]? = some R ∧ o = datRoot R := fun r o hr ho => by
    rw [hg r hlt, if_pos hr, Option.map_eq_some_iff] at ho
    obtain ⟨R, hR', rfl⟩ := ho
    exact ⟨R, hR', rfl⟩
  have hgout : ∀ r, ¬ (st.next ≤ r ∧ r < st.next + es.length) → (newDats es st.next st.heap).get r = st.heap.get r := fun r hr => by rw [hg r hlt, if_neg hr]
  have hle : m.Le m' := ⟨fun _ _ _ h => h, fun r x hx => by
    by_cases hr : st.next ≤ r ∧ r < st.next + es.length
    · rw [(hF r (hAn r hr.1 hr.2) hr.1).2] at hx; cases hx
    · rw [hout r hr]; exact hx, fun _ _ h => h⟩
  have hvers : ∀ r o v n, (newDats es st.next st.heap).get r = some o → (v, n) ∈ o.vers → ¬ (st.next ≤ r ∧ r < st.next + es.length) ∧ st.heap.get r = some o := fun r o v n ho hv => by
    by_cases hr : st.next ≤ r ∧ r < st.next + es.length
    · obtain ⟨R, _, rfl⟩ := hgin r o hr ho
      simp [datRoot] at hv
    · rw [hgout r hr] at ho
      exact ⟨hr, ho⟩
  have hfact : ∀ r, st.next ≤ r ∧ r < st.next + es.length → ∃ e u, es[r - st.next]? = some e ∧ us[r - st.next]? = some u ∧ us.getD (r - st.next) undef = u := fun r hr => by
    have h1 : r - st.next < es.length := by omega
    have h2 : r - st.next < us.length := by omega
    exact ⟨_, _, List.getElem?_eq_getElem h1, List.getElem?_eq_getElem h2, by simp [List.getD, h2]⟩
  have hrel : Rel W0 A m' (newDats es st.next st.heap).get w' := by
    refine ⟨?_, ?_, ?_, Nat.le_trans hR.size0 hex.size, fun k hk hm => (hex.block k (Nat.lt_of_lt_of_le hk hR.size0)).trans (hR.amb k hk hm), ?_, ?_, ?_, hR.sv, ⟨hex.os.trans hR.same.1, hex.tape.trans hR.same.2.1, hex.output.trans hR.same.2.2⟩, ?_, fun r o e v n b ha ho hs hv hb => by
      obtain ⟨_, ho'⟩ := hvers r o v n ho hv
      exact (hR.row r o e v n b ha ho' hs hv hb).mono (hex.block b.1 (hR.lt ha ho' hv hb))⟩
    · intro r o ha ho v' n hv'
      obtain ⟨_, ho'⟩ := hvers r o v' n ho hv'
      obtain ⟨b, hb, hB⟩ := hR.blk r o ha ho' v' n hv'
      exact ⟨b, hb, hB.mono hle (hex.block b.1 (hR.lt ha ho' hv' hb))⟩
    · intro r r' o o' v1 n1 v2 n2 b b' ha ha' ho ho' hv1 hv2 hb hb' he
      obtain ⟨_, ho1⟩ := hvers r o v1 n1 ho hv1
      obtain ⟨_, ho2⟩ := hvers r' o' v2 n2 ho' hv2
      exact hR.inj r r' o o' v1 n1 v2 n2 b b' ha ha' ho1 ho2 hv1 hv2 hb hb' he
    · intro r o v1 n1 rest ha ho hv1 v2 hlt2
      obtain ⟨_, ho1⟩ := hvers r o v1 n1 ho (by rw [hv1]; simp)
      exact hR.top r o v1 n1 rest ha ho1 hv1 v2 hlt2
    · intro r o v1 n1 b ha ho hv1 hb
      obtain ⟨_, ho1⟩ := hvers r o v1 n1 ho hv1
      exact hR.abv r o v1 n1 b ha ho1 hv1 hb
    · intro r o R ha ho hd
      by_cases hr : st.next ≤ r ∧ r < st.next + es.length
      · obtain ⟨R', hR', rfl⟩ := hgin r o hr ho
        simp only [datRoot, Option.some.injEq] at hd
        subst hd
        obtain ⟨e, u, he, hu, hgu⟩ := hfact r hr
        rw [hR'] at he
        cases he
        obtain ⟨g1, g2, g3⟩ := h _ _ _ hR' hu
        rw [hin r hr, hgu]
        exact ⟨u, _, rfl, g1, fun k hk => (g2 k hk).1, g3⟩
      · rw [hgout r hr] at ho
        obtain ⟨v1, fp, hm, h1, h2, h3⟩ := hR.dat r o R ha ho hd
        exact ⟨v1, fp, by rw [hout r hr]; exact hm, h1, fun k hk => Nat.lt_of_lt_of_le (h2 k hk) hex.size, fun w2 hw2 => h3 w2 (fun k hk => (hw2 k hk).trans (hex.block k (h2 k hk)))⟩
    · intro r o R v1 fp r' o' u n b ha ha' ho hd hm ho' hu hb hfp
      obtain ⟨_, ho2⟩ := hvers r' o' u n ho' hu
      by_cases hr : st.next ≤ r ∧ r < st.next + es.length
      · obtain ⟨e, q, he, hq, hgu⟩ := hfact r hr
        rw [hin r hr] at hm
        cases hm
        obtain ⟨_, g2, _⟩ := h _ _ _ he hq
        obtain ⟨_, _, g4⟩ := g2 _ hfp
        obtain ⟨r3, o3, e3, v3, fp3, a3, h3, d3, m3, k3⟩ := g4 (hR.lt ha' ho2 hu hb)
        exact hR.disj r3 o3 e3 v3 fp3 r' o' u n b a3 ha' h3 d3 m3 ho2 hu hb k3
      · rw [hgout r hr] at ho
        rw [hout r hr] at hm
        exact hR.disj r o R v1 fp r' o' u n b ha ha' ho hd hm ho2 hu hb hfp
    · intro r o R v1 fp ha ho hd hm hro k hk
      by_cases hr : st.next ≤ r ∧ r < st.next + es.length
      · obtain ⟨e, q, he, hq, hgu⟩ := hfact r hr
        obtain ⟨R', hR', rfl⟩ := hgin r o hr ho
        rw [he] at hR'
        cases hR'
        rw [hin r hr] at hm
        cases hm
        obtain ⟨_, g2, _⟩ := h _ _ _ he hq
        exact (g2 _ hk).2.1 hro
      · rw [hgout r hr] at ho
        rw [hout r hr] at hm
        exact hR.fpb r o R v1 fp ha ho hd hm hro k hk
  refine ⟨m', ⟨⟨hle, hrel, fun _ _ _ => rfl, fun r hr => hout r (fun h => hr ((hT r).2 h)), fun r hr => hgout r (fun h => hr ((hT r).2 h)), hex.os, hex.tape, hex.output, hex.size, fun k hk _ => hex.block k hk, ?_, ?_⟩, ?_⟩, ?_, ?_⟩
  · intro r o v1 n1 b ht ho hv1
    exact absurd ((hT r).1 ht) (hvers r o v1 n1 ho hv1).1
  · intro r o R v1 fp ha ht ho hd hm k hk hklt
    have hr := (hT r).1 ht
    obtain ⟨e, q, he, hq, hgu⟩ := hfact r hr
    rw [hin r hr] at hm
    cases hm
    obtain ⟨_, g2, _⟩ := h _ _ _ he hq
    exact (g2 _ hk).2.2 hklt
  · intro r ha hr
    have hr' : st.next + es.length ≤ r := hr
    obtain ⟨f1, f2⟩ := hF r ha (by omega)
    exact ⟨f1, by rw [hout r (by omega)]; exact f2⟩
  · intro i u hu
    have hi : i < us.length := (List.getElem?_eq_some_iff.1 hu).1
    rw [hin _ ⟨by omega, by omega⟩]
    simp only [Nat.add_sub_cancel_left]
    simp [List.getD, hu]
  · intro r hr
    exact hout r (by omega)

/-- A row hangs on the block where it lies. -/
theorem fp_has {fp : Nat → Prop} {w : World} {b off n cap : Nat} {p : PV} (h : ∀ w2 : World, (∀ k, fp k → w2.heap[k]? = w.heap[k]?) → Reads w2 p (.slice (some ⟨b, off, none⟩) n cap)) {cs : List PV} (hp : p = .row n cs) (hne : cs ≠ []) : fp b := by
  refine Classical.byContradiction fun hno => ?_
  let w2 : World := { w with heap := w.heap.setIfInBounds b (.cells #[] 0) }
  have h2 := h w2 (fun k hk => by
    have : b ≠ k := fun e => hno (e ▸ hk)
    show (w.heap.setIfInBounds b _)[k]? = _
    rw [Array.getElem?_setIfInBounds_ne this])
  rw [hp] at h2
  simp only [Reads] at h2
  obtain ⟨a, c, he, _, _, h3⟩ := h2
  rcases h3 with h3 | ⟨b', off', ha, h3⟩
  · exact hne h3
  · rw [ha] at he
    simp only [Value.slice.injEq, Option.some.injEq, Addr.mk.injEq] at he
    obtain ⟨⟨rfl, rfl, _⟩, _, _⟩ := he
    cases cs with
    | nil => exact hne rfl
    | cons c cs =>
      simp only [ReadsL] at h3
      obtain ⟨⟨u, hu, _⟩, _⟩ := h3
      simp only [World.cell?, w2] at hu
      by_cases hb : b < w.heap.size
      · simp [Array.getElem?_setIfInBounds, hb] at hu
      · simp [Array.getElem?_setIfInBounds, hb] at hu
end Go.Proofs.Ytfcdbknmajfkaaa.eng
