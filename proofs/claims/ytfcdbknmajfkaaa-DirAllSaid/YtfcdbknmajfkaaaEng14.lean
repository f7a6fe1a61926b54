/- The engine: operations whose order is open, held: one. -/
import Derived.Test.YtfcdbknmajfkaaaEng13
namespace Go.Proofs.Ytfcdbknmajfkaaa.eng
open Go
variable {W0 : Base}
set_option linter.unusedVariables false
set_option linter.unusedSimpArgs false

theorem step_drew {A Tc : Nat → Prop} {m : Map} {g : Heap} {w : World} (n : Nat) (h : Rel W0 A m g w) : Step W0 A Tc m g w m g { w with drawn := n } :=
  ⟨Map.Le.refl m, ⟨fun r o ha ho v k hv => h.blk r o ha ho v k hv, h.inj, h.top, h.size0, h.amb, h.abv, fun r o R ha ho hd => h.dat r o R ha ho hd, h.disj, h.sv, h.same, h.fpb, fun r o e v n b ha ho hs hv hb => h.row r o e v n b ha ho hs hv hb⟩, fun _ _ _ => rfl, fun _ _ => rfl, fun _ _ => rfl, rfl, rfl, rfl, Nat.le_refl _, fun _ _ _ => rfl, fun r o v n b _ ho hv hb _ => ⟨o, v, n, b, ho, hv, hb, rfl⟩, fun r o R v fp ha _ ho hd hm k hk _ => ⟨r, o, R, v, fp, ha, ho, hd, hm, hk⟩⟩

/-- What is so of a part of the names is so of all. -/
theorem Step.merge {A Ai Ti : Nat → Prop} {m m' : Map} {g gi gi' g' : Heap} {w w' : World} (hR : Rel W0 A m g w) (h : Step W0 Ai Ti m gi w m' gi' w') (hAi : ∀ r, Ai r → A r) (hTi : ∀ r, Ti r → Ai r) (hg : ∀ r, Ai r → gi r = g r)
    (h1 : ∀ r, Ti r → g' r = gi' r) (h2 : ∀ r, ¬ Ti r → g' r = g r) : Step W0 A Ti m g w m' g' w' := by
  have hkeep : ∀ r o v n b, A r → ¬ Ti r → g r = some o → (v, n) ∈ o.vers → m r v = some b → w'.heap[b.1]? = w.heap[b.1]? := by
    intro r o v n b ha hn ho hv hb
    refine h.keep b.1 (hR.lt ha ho hv hb) ?_
    intro r2 o2 v2 n2 b2 ht2 ho2 hv2 hb2 he
    rw [hg r2 (hTi r2 ht2)] at ho2
    exact hn (hR.inj r2 r o2 o v2 n2 v n b2 b (hAi r2 (hTi r2 ht2)) ha ho2 ho hv2 hv hb2 hb he ▸ ht2)
  have cross : ∀ r r' o o' v n v' n' b b', A r → A r' → Ti r → ¬ Ti r' → gi' r = some o → g r' = some o' → (v, n) ∈ o.vers → (v', n') ∈ o'.vers → m' r v = some b → m r' v' = some b' → b.1 = b'.1 → False := by
    intro r r' o o' v n v' n' b b' ha ha' ht hn' ho ho' hv hv' hb hb' he
    have hlt := hR.lt ha' ho' hv' hb'
    obtain ⟨o0, v0, n0, b0, ho0, hv0, hb0, he0⟩ := h.own r o v n b ht ho hv hb (he ▸ hlt)
    rw [hg r (hTi r ht)] at ho0
    exact hn' (hR.inj r r' o0 o' v0 n0 v' n' b0 b' ha ha' ho0 ho' hv0 hv' hb0 hb' (he0.trans he) ▸ ht)
  refine ⟨h.ext, ⟨?_, ?_, ?_, h.rel.size0, h.rel.amb, ?_, ?_, ?_, h.rel.sv, h.rel.same, ?_, fun r o e v n b ha ho hs hv hb => ?_⟩, h.mkeep, h.dkeep, fun r hr => h2 r hr, h.os, h.tape, h.output, h.size, ?_, ?_, ?_⟩
  · intro r o ha ho v n hv
    by_cases ht : Ti r
    · rw [h1 r ht] at ho
      exact h.rel.blk r o (hTi r ht) ho v n hv
    · rw [h2 r ht] at ho
      obtain ⟨b, hb, hB⟩ := hR.blk r o ha ho v n hv
      exact ⟨b, h.ext.1 _ _ _ hb, hB.mono h.ext (hkeep r o v n b ha ht ho hv hb)⟩
  · intro r r' o o' v n v' n' b b' ha ha' ho ho' hv hv' hb hb' he
    by_cases ht : Ti r
    · by_cases ht' : Ti r'
      · rw [h1 r ht] at ho
        rw [h1 r' ht'] at ho'
        exact h.rel.inj r r' o o' v n v' n' b b' (hTi r ht) (hTi r' ht') ho ho' hv hv' hb hb' he
      · rw [h1 r ht] at ho
        rw [h2 r' ht'] at ho'
        rw [h.mkeep r' ht'] at hb'
        exact (cross r r' o o' v n v' n' b b' ha ha' ht ht' ho ho' hv hv' hb hb' he).elim
    · by_cases ht' : Ti r'
      · rw [h2 r ht] at ho
        rw [h1 r' ht'] at ho'
        rw [h.mkeep r ht] at hb
        exact (cross r' r o' o v' n' v n b' b ha' ha ht' ht ho' ho hv' hv hb' hb he.symm).elim
      · rw [h2 r ht] at ho
        rw [h2 r' ht'] at ho'
        rw [h.mkeep r ht] at hb
        rw [h.mkeep r' ht'] at hb'
        exact hR.inj r r' o o' v n v' n' b b' ha ha' ho ho' hv hv' hb hb' he
  · intro r o v n rest ha ho hv v' hlt
    by_cases ht : Ti r
    · rw [h1 r ht] at ho
      exact h.rel.top r o v n rest (hTi r ht) ho hv v' hlt
    · rw [h2 r ht] at ho
      rw [h.mkeep r ht]
      exact hR.top r o v n rest ha ho hv v' hlt
  · intro r o v n b ha ho hv hb
    by_cases ht : Ti r
    · rw [h1 r ht] at ho
      exact h.rel.abv r o v n b (hTi r ht) ho hv hb
    · rw [h2 r ht] at ho
      rw [h.mkeep r ht] at hb
      exact hR.abv r o v n b ha ho hv hb
  · intro r o R ha ho hd
    by_cases ht : Ti r
    · rw [h1 r ht] at ho
      exact h.rel.dat r o R (hTi r ht) ho hd
    · rw [h2 r ht] at ho
      obtain ⟨v, fp, hmv, hone, hfp, hR2⟩ := hR.dat r o R ha ho hd
      refine ⟨v, fp, h.ext.2.1 _ _ hmv, hone, fun k hk => Nat.lt_of_lt_of_le (hfp k hk) h.size, fun w2 hw2 => hR2 w2 (fun k hk => (hw2 k hk).trans (h.keep k (hfp k hk) ?_))⟩
      intro r2 o2 v2 n2 b2 ht2 ho2 hv2 hb2 he
      rw [hg r2 (hTi r2 ht2)] at ho2
      exact hR.disj r o R v fp r2 o2 v2 n2 b2 ha (hAi r2 (hTi r2 ht2)) ho hd hmv ho2 hv2 hb2 (he ▸ hk)
  · intro r o R v fp r' o' u n b ha ha' ho hd hmv ho' hu hb hfpb
    by_cases ht : Ti r
    · rw [h1 r ht] at ho
      by_cases ht' : Ti r'
      · rw [h1 r' ht'] at ho'
        exact h.rel.disj r o R v fp r' o' u n b (hTi r ht) (hTi r' ht') ho hd hmv ho' hu hb hfpb
      · rw [h2 r' ht'] at ho'
        rw [h.mkeep r' ht'] at hb
        obtain ⟨r2, o2, R2, v2, fp2, ha2, ho2, hd2, hm2, hq2⟩ := h.dfp r o R v fp (hTi r ht) ht ho hd hmv b.1 hfpb (hR.lt ha' ho' hu hb)
        rw [hg r2 ha2] at ho2
        exact hR.disj r2 o2 R2 v2 fp2 r' o' u n b (hAi r2 ha2) ha' ho2 hd2 hm2 ho' hu hb hq2
    · rw [h2 r ht] at ho
      rw [h.dkeep r ht] at hmv
      obtain ⟨v', fp', hmv', hone, hfp, hR2⟩ := hR.dat r o R ha ho hd
      rw [hmv] at hmv'
      cases hmv'
      by_cases ht' : Ti r'
      · rw [h1 r' ht'] at ho'
        obtain ⟨o0, v0, n0, b0, ho0, hv0, hb0, he0⟩ := h.own r' o' u n b ht' ho' hu hb (hfp _ hfpb)
        rw [hg r' (hTi r' ht')] at ho0
        exact hR.disj r o R v fp r' o0 v0 n0 b0 ha ha' ho hd hmv ho0 hv0 hb0 (he0 ▸ hfpb)
      · rw [h2 r' ht'] at ho'
        rw [h.mkeep r' ht'] at hb
        exact hR.disj r o R v fp r' o' u n b ha ha' ho hd hmv ho' hu hb hfpb
  · intro r o R v fp ha ho hd hmv
    by_cases ht : Ti r
    · rw [h1 r ht] at ho
      exact h.rel.fpb r o R v fp (hTi r ht) ho hd hmv
    · rw [h2 r ht] at ho
      rw [h.dkeep r ht] at hmv
      exact hR.fpb r o R v fp ha ho hd hmv
  · by_cases ht : Ti r
    · rw [h1 r ht] at ho
      exact h.rel.row r o e v n b (hTi r ht) ho hs hv hb
    · rw [h2 r ht] at ho
      rw [h.mkeep r ht] at hb
      exact (hR.row r o e v n b ha ho hs hv hb).mono (hkeep r o v n b ha ht ho hv hb)
  · intro k hk hno
    refine h.keep k hk ?_
    intro r o v n b ht ho hv hb
    rw [hg r (hTi r ht)] at ho
    exact hno r o v n b ht ho hv hb
  · intro r o v n b ht ho hv hb hlt
    rw [h1 r ht] at ho
    obtain ⟨o0, v0, n0, b0, ho0, hv0, hb0, he0⟩ := h.own r o v n b ht ho hv hb hlt
    rw [hg r (hTi r ht)] at ho0
    exact ⟨o0, v0, n0, b0, ho0, hv0, hb0, he0⟩
  · intro r o R v fp ha ht ho hd hmv k hk hlt
    rw [h1 r ht] at ho
    obtain ⟨r2, o2, R2, v2, fp2, ha2, ho2, hd2, hm2, hq2⟩ := h.dfp r o R v fp (hTi r ht) ht ho hd hmv k hk hlt
    rw [hg r2 ha2] at ho2
    exact ⟨r2, o2, R2, v2, fp2, hAi r2 ha2, ho2, hd2, hm2, hq2⟩

/-! What is put off does not look at what was put off ahead. -/
theorem eval_defers (a : Act) (ds : List Deferred) : ({ a with defers := ds } : Act).eval = a.eval := by
  funext x; cases x <;> rfl
theorem wpOp_defers {P : Program} {ops : Array Oper} {i : Nat} {a : Act} {w : World} {K : Act → World → Prop} {Q : Exit → Act → World → Prop}
    (h : wpOp P ops (fun e a' w' => Q e { a' with defers := a'.defers ++ a.defers } w') i (fun a' w' => K { a' with defers := a'.defers ++ a.defers } w') { a with defers := [] } w) : wpOp P ops Q i K a w := by
  have ha : ({ ({ a with defers := [] } : Act) with defers := ({ a with defers := [] } : Act).defers ++ a.defers } : Act) = a := rfl
  have hput : ∀ dst v, ({ (({ a with defers := [] } : Act).put dst v) with defers := (({ a with defers := [] } : Act).put dst v).defers ++ a.defers } : Act) = a.put dst v := fun dst v => by cases dst <;> rfl
  have hputd : ∀ dst v d, ({ (({ ({ a with defers := [] } : Act) with defers := [d] } : Act).put dst v) with defers := (({ ({ a with defers := [] } : Act) with defers := [d] } : Act).put dst v).defers ++ a.defers } : Act) = ({ a with defers := d :: a.defers } : Act).put dst v := fun dst v d => by cases dst <;> rfl
  have hL : LetsOut (fun e a' w' => Q e { a' with defers := a'.defers ++ a.defers } w') → LetsOut Q := fun ⟨b, w, hq⟩ => ⟨_, w, hq⟩
  unfold wpOp at *
  split
  · rename_i hn; rw [hn] at h; exact h
  · rename_i o ho
    rw [ho] at h
    simp only at h
    split
    · rename_i hw
      rw [if_pos hw] at h
      rcases h with h | ⟨hask, hl⟩
      · left
        unfold Oper.wp at *
        rw [eval_defers] at h
        generalize (execOp a.eval o).run P w = r at h ⊢
        cases r with
        | ok n w' =>
          cases n <;> simp only [Oper.upon] at h ⊢
          case value v => rw [hput] at h; exact h
          case skip => rw [hput] at h; exact h
          case defer d => have := hputd o.dst undef d; rw [this] at h; exact h
          case enter f args =>
            refine Calls.mono h fun e w'' he => ?_
            cases e with
            | returned v => simp only at he; rw [hput] at he; exact he
            | panicked c => exact he
            | outgrown => exact hL he
          case row row args => exact Rows.mono h fun v w'' he => by rw [hput] at he; exact he
        | halt x w' => cases x <;> simp only [Oper.upon] at h ⊢; exact h
      · right
        refine ⟨?_, hL hl⟩
        unfold Oper.asks at *
        rw [eval_defers] at hask
        exact hask
    · rename_i hw
      rw [if_neg hw] at h
      rw [hput] at h
      exact h

theorem keepTm_get (t : T AV) : ∀ (ks : List Tmp) (acc : T AV) (k : Nat) (y : AV), (keepTm t ks acc).get k = some y → acc.get k = some y ∨ (k ∈ ks ∧ t.get k = some y)
  | [], acc, k, y, h => .inl h
  | q :: ks, acc, k, y, h => by
    simp only [keepTm] at h
    rcases keepTm_get t ks _ k y h with h | ⟨h1, h2⟩
    · cases hb : Nat.blt (q + 1) 16777216 with
      | false => simp only [hb, cond_false] at h; exact .inl h
      | true =>
        simp only [hb, cond_true] at h
        split at h
        · rename_i z hz
          have hlt : q + 1 < 16777216 := by simpa using hb
          rw [T.get_set _ _ _ _ _ (show q + 1 < 2 ^ 24 from hlt)] at h
          by_cases e : k = q
          · rw [if_pos e] at h
            cases h
            subst e
            exact .inr ⟨by simp, hz⟩
          · rw [if_neg e] at h
            exact .inl h
        · exact .inl h
    · exact .inr ⟨by simp [h1], h2⟩

/-- Where an operation looks, the slots by names read as the slots. -/
def Looked (m : Map) (ops : Array Oper) (o : Oper) (x : AAct) (a : Act) : Prop := a.tmps.size = x.n ∧ ∀ t y, t ∈ o.looksAt ops → x.tm.get t = some y → ∃ v, y.den m = some v ∧ a.tmps[t]? = some v
theorem seen_ok {m : Map} {ops : Array Oper} {o : Oper} {x : AAct} {a : Act} (h : Looked m ops o x a) : TRel m (seen ops o x) { a with defers := [] } := by
  refine ⟨h.1, ?_, rfl⟩
  intro t y hy
  simp only [seen] at hy
  rcases keepTm_get _ _ _ _ _ hy with hy | ⟨h1, h2⟩
  · simp [T.get] at hy
  · exact h.2 t y h1 h2

theorem opD_ok {P : Program} (hN : GoodP P) {E : Eng} (hE : CallOk P E.call) {ops : Array Oper} {o : Oper} {i : Nat} (hi : ops[i]? = some o) {x x' : AAct} {st st' : St} {pv : Option Value} {lg : Log} (h : opD P E ops o x st = some (pv, x', st', lg))
    {A : Nat → Prop} {m : Map} {a : Act} {w : World} (hA : lg.Fits W0 A) (hR : Rel W0 A m st.heap.get w) (hF : Fresh A m st.next) (hT : Looked m ops o x a) {K : Act → World → Prop} {Q : Exit → Act → World → Prop}
    (hK : pv = none → ∀ m' a' w', Ok W0 A m st w m' st' lg w' → a'.defers = a.defers → a'.tmps.size = a.tmps.size → (∀ t, o.dst ≠ some t → a'.tmps[t]? = a.tmps[t]?) → (∀ t y, o.dst = some t → x'.tm.get t = some y → ∃ v, y.den m' = some v ∧ a'.tmps[t]? = some v) → K a' w')
    (hQ : ∀ v, pv = some v → ∀ m' w', Ok W0 A m st w m' st' lg w' → Q (.panic [{ v, recovered := false }]) a w') : wpOp P ops Q i K a w := by
  simp only [opD, Option.bind_eq_some_iff] at h
  obtain ⟨⟨pv1, x1, st1, l1⟩, hop, h⟩ := h
  cases hc : (Nat.ble st.next st1.next && Nat.beq (l1.T >>> st1.next) 0 && Nat.beq (l1.T ||| l1.A) l1.A && x1.defers.isEmpty) with
  | false => simp [hc] at h
  | true =>
    simp only [hc, cond_true] at h
    simp only [Bool.and_eq_true, List.isEmpty_iff] at hc
    have hTs := seen_ok hT
    refine wpOp_defers ?_
    cases pv1 with
    | some v =>
      simp only [Option.some.injEq, Prod.mk.injEq] at h
      obtain ⟨rfl, rfl, rfl, rfl⟩ := h
      refine opA_ok hN hE hi hop hA hR hF hTs (fun hn => by cases hn) (fun v' hv m' w' hok hT' => ?_)
      cases hv
      exact hQ v rfl m' w' hok
    | none =>
      have fin : pv = none ∧ st' = st1 ∧ lg = l1 ∧ (∀ t y, o.dst = some t → x'.tm.get t = some y → x1.tm.get t = some y) := by
        cases hd : o.dst with
        | none =>
          simp only [hd, Option.some.injEq, Prod.mk.injEq] at h
          obtain ⟨rfl, rfl, rfl, rfl⟩ := h
          exact ⟨rfl, rfl, rfl, fun t y ht => by cases ht⟩
        | some d =>
          simp only [hd, Option.bind_eq_some_iff, Option.map_eq_some_iff] at h
          obtain ⟨y, hy, x2, hx2, he⟩ := h
          cases he
          refine ⟨rfl, rfl, rfl, fun t z ht hz => ?_⟩
          cases ht
          simp only [AAct.put] at hx2
          cases hb : (Nat.blt d x.n && Nat.blt (d + 1) 16777216) with
          | false => simp [hb] at hx2
          | true =>
            simp only [hb, cond_true, Option.some.injEq] at hx2
            simp only [Bool.and_eq_true, Nat.blt_eq] at hb
            subst hx2
            rw [T.get_set _ _ _ _ _ (show d + 1 < 2 ^ 24 from hb.2)] at hz
            simp at hz
            subst hz
            exact hy
      obtain ⟨rfl, rfl, rfl, hx'⟩ := fin
      refine opA_ok hN hE hi hop hA hR hF hTs (fun _ m' a' w' hok hT' hput => ?_) (fun v' hv => by cases hv)
      obtain ⟨v, hv⟩ := hput
      have hd0 : a'.defers = [] := by
        have := hT'.defers
        rw [hc.2] at this
        simpa [denD] using this.symm
      refine hK rfl m' _ w' hok (by simp [hd0]) ?_ ?_ ?_
      · simp only [hv]
        cases o.dst <;> simp [Act.put]
      · intro t ht
        simp only [hv]
        cases hdst : o.dst with
        | none => rfl
        | some d =>
          have hne : d ≠ t := fun e => ht (by rw [hdst, e])
          simp only [Act.put]
          rw [Array.getElem?_setIfInBounds_ne hne]
      · intro t y ht hy
        exact hT'.get t y (hx' t y ht hy)

/-! The orders. -/
theorem foldl_bit (t : T Nat) : ∀ (es : List Edge) (s i : Nat), (es.foldl (fun s e => cond (Region.binds .any e) (s ||| (1 <<< e.on) ||| ((t.get e.on).getD 0)) s) s).testBit i = true →
    s.testBit i = true ∨ ∃ e ∈ es, Region.binds .any e = true ∧ (i = e.on ∨ ((t.get e.on).getD 0).testBit i = true)
  | [], s, i, h => .inl h
  | e :: es, s, i, h => by
    simp only [List.foldl_cons] at h
    rcases foldl_bit t es _ i h with h | ⟨e', he', hb, hi⟩
    · cases hbd : Region.binds .any e with
      | false => simp only [hbd, cond_false] at h; exact .inl h
      | true =>
        simp only [hbd, cond_true, Nat.testBit_or, Bool.or_eq_true] at h
        rcases h with (h | h) | h
        · exact .inl h
        · exact .inr ⟨e, by simp, hbd, .inl ((bit_one e.on i).1 h)⟩
        · exact .inr ⟨e, by simp, hbd, .inr h⟩
    · exact .inr ⟨e', by simp [he'], hb, hi⟩
theorem aheads_spec : ∀ (l : List Oper) (i : Nat) (t : T Nat), i + l.length < 16777215 → ∀ (k : Nat) (o : Oper), l[k]? = some o → ∃ t', (aheads l i t)[k]? = some (aheadOf o t') ∧ ∀ q, t'.get q = if i ≤ q ∧ q < i + k then (aheads l i t)[q - i]? else t.get q
  | [], i, t, _, k, o, h => by simp at h
  | p :: l, i, t, hb, 0, o, h => by
    simp at h
    subst h
    refine ⟨t, rfl, fun q => ?_⟩
    have : ¬ (i ≤ q ∧ q < i + 0) := by omega
    rw [if_neg this]
  | p :: l, i, t, hb, k + 1, o, h => by
    simp only [List.getElem?_cons_succ] at h
    simp only [List.length_cons] at hb
    obtain ⟨t', h1, h2⟩ := aheads_spec l (i + 1) (T.set 24 t i (some (aheadOf p t))) (by omega) k o h
    refine ⟨t', by simpa [aheads] using h1, fun q => ?_⟩
    rw [h2 q, T.get_set _ _ _ _ _ (show i + 1 < 2 ^ 24 by show i + 1 < 16777216; omega)]
    by_cases h3 : q = i
    · subst h3
      have : ¬ (q + 1 ≤ q ∧ q < q + 1 + k) := by omega
      rw [if_neg this, if_pos rfl, if_pos (by omega)]
      simp [aheads]
    · by_cases h4 : i + 1 ≤ q ∧ q < i + 1 + k
      · rw [if_pos h4, if_pos (by omega)]
        simp only [aheads]
        rw [show q - i = (q - (i + 1)) + 1 by omega]
        simp
      · rw [if_neg h4, if_neg h3, if_neg (by omega)]
def pm (ops : Array Oper) (j : Nat) : Nat := (aheads ops.toList 0 .nil).getD j 0
theorem pm_spec {ops : Array Oper} (hs : ops.size < 16777215) {j i : Nat} {o : Oper} (ho : ops[j]? = some o) (h : (pm ops j).testBit i = true) : ∃ e ∈ o.after, Region.binds .any e = true ∧ (i = e.on ∨ (e.on < j ∧ (pm ops e.on).testBit i = true)) := by
  obtain ⟨t', h1, h2⟩ := aheads_spec ops.toList 0 .nil (by simpa using hs) j o (by simpa using ho)
  have : pm ops j = aheadOf o t' := by simp [pm, List.getD, h1]
  rw [this, aheadOf] at h
  rcases foldl_bit t' _ _ _ h with h | ⟨e, he, hb, hi⟩
  · simp at h
  · refine ⟨e, by simpa using he, hb, hi.imp_right fun hi => ?_⟩
    rw [h2 e.on] at hi
    by_cases hlt : 0 ≤ e.on ∧ e.on < 0 + j
    · rw [if_pos hlt] at hi
      exact ⟨by omega, by simpa [pm, List.getD] using hi⟩
    · rw [if_neg hlt] at hi
      simp [T.get] at hi

theorem apartFrom_ok {ops : Array Oper} {o : Oper} {m : Nat} : ∀ (l : List Oper) (i : Nat), apartFrom ops o m l i = true → ∀ k p, l[k]? = some p → m.testBit (i + k) = true ∨ (p.apart ops o = true ∧ o.apart ops p = true)
  | [], i, h, k, p, hp => by simp at hp
  | q :: l, i, h, k, p, hp => by
    simp only [apartFrom, Bool.and_eq_true, Bool.or_eq_true] at h
    cases k with
    | zero => simp at hp; subst hp; exact h.1
    | succ k =>
      simp only [List.getElem?_cons_succ] at hp
      have := apartFrom_ok l (i + 1) h.2 k p hp
      rwa [show i + 1 + k = i + (k + 1) by omega] at this
theorem statGo_ok {ops : Array Oper} : ∀ (l : List Oper) (i : Nat) (ms : List Nat) (pre : List Oper), pre.length = i → statGo ops l i ms pre = true → ∀ k o, l[k]? = some o → (∀ e ∈ o.after, Region.binds .any e = true → e.on < i + k) ∧
    (∀ q p, (pre ++ l)[q]? = some p → q < i + k → (ms.getD k 0).testBit q = true ∨ (p.apart ops o = true ∧ o.apart ops p = true))
  | [], i, ms, pre, hp, h, k, o, ho => by simp at ho
  | p :: l, i, [], pre, hp, h, k, o, ho => by simp [statGo] at h
  | p :: l, i, m :: ms, pre, hp, h, k, o, ho => by
    simp only [statGo, Bool.and_eq_true] at h
    obtain ⟨⟨⟨h1, h2⟩, h3⟩, h4⟩ := h
    cases k with
    | zero =>
      simp at ho
      subst ho
      refine ⟨fun e he hb => ?_, fun q p' hq hlt => ?_⟩
      · have := Array.all_eq_true_iff_forall_mem.1 h1 e he
        simp [hb] at this
        simpa using this
      · have hq' : pre[q]? = some p' := by rwa [List.getElem?_append_left (by omega)] at hq
        have := apartFrom_ok pre 0 h3 q p' hq'
        simpa using this
    | succ k =>
      simp only [List.getElem?_cons_succ] at ho
      obtain ⟨g1, g2⟩ := statGo_ok l (i + 1) ms (pre ++ [p]) (by simp [hp]) h4 k o ho
      refine ⟨fun e he hb => by have := g1 e he hb; omega, fun q p' hq hlt => ?_⟩
      have := g2 q p' (by simpa using hq) (by omega)
      simpa using this
theorem statOk_ok {ops : Array Oper} (h : statOk ops = true) : ops.size < 16777215 ∧ (∀ j o, ops[j]? = some o → ∀ e ∈ o.after, Region.binds .any e = true → e.on < j) ∧
    (∀ i j p o, i < j → ops[i]? = some p → ops[j]? = some o → (pm ops j).testBit i = true ∨ (p.apart ops o = true ∧ o.apart ops p = true)) := by
  simp only [statOk, Bool.and_eq_true, Nat.blt_eq] at h
  have h1 := statGo_ok ops.toList 0 _ [] rfl h.1
  refine ⟨by omega, fun j o ho e he hb => ?_, fun i j p o hij hp ho => ?_⟩
  · have := (h1 j o (by simpa using ho)).1 e he hb
    omega
  · exact (h1 j o (by simpa using ho)).2 i p (by simpa using hp) (by omega)

theorem closed_pm {ops : Array Oper} (hs : ops.size < 16777215) (S : Nat → Prop) (hc : ∀ j o, S j → ops[j]? = some o → ∀ e ∈ o.after, Region.binds .any e = true → S e.on) :
    ∀ j o, ops[j]? = some o → (∀ e ∈ o.after, Region.binds .any e = true → S e.on) → ∀ i, (pm ops j).testBit i = true → S i := by
  intro j
  induction j using Nat.strongRecOn with
  | _ j ih =>
    intro o ho hd i hi
    obtain ⟨e, he, hb, h⟩ := pm_spec hs ho hi
    rcases h with rfl | ⟨hlt, h⟩
    · exact hd e he hb
    · have hlt' : e.on < ops.size := Nat.lt_trans hlt (Array.getElem?_eq_some_iff.1 ho).1
      have hq : ops[e.on]? = some ops[e.on] := Array.getElem?_eq_getElem hlt'
      exact ih e.on hlt _ hq (fun e' he' hb' => hc e.on _ (hd e he hb) hq e' he' hb') i h

/-- What a place holds behind some of the operations: what the last of them that turned it left. -/
def lastOf {β : Type} (c : Nat → β) (tch S : Nat → Bool) : Nat → β
  | 0 => c 0
  | k + 1 => if S k && tch k then c (k + 1) else lastOf c tch S k
theorem lastOf_below {β : Type} {c : Nat → β} {tch S : Nat → Bool} (hc : ∀ k, tch k = false → c (k + 1) = c k) : ∀ i, (∀ j, j < i → tch j = true → S j = true) → lastOf c tch S i = c i
  | 0, _ => rfl
  | i + 1, h => by
    simp only [lastOf]
    by_cases ht : tch i = true
    · rw [if_pos (by rw [h i (by omega) ht, ht]; rfl)]
    · rw [if_neg (by simp [ht])]
      rw [lastOf_below hc i (fun j hj => h j (by omega)), hc i (by simpa using ht)]
theorem lastOf_above {β : Type} {c : Nat → β} {tch S : Nat → Bool} (i : Nat) : ∀ n, i ≤ n → (∀ j, i ≤ j → j < n → tch j = true → S j = false) → lastOf c tch S n = lastOf c tch S i := by
  intro n
  induction n with
  | zero => intro h _; rw [show i = 0 by omega]
  | succ n ih =>
    intro h hn
    by_cases he : i = n + 1
    · rw [he]
    · simp only [lastOf]
      rw [if_neg]
      · exact ih (by omega) (fun j h1 h2 => hn j h1 (by omega))
      · by_cases ht : tch n = true
        · rw [hn n (by omega) (by omega) ht]; simp
        · simp [ht]
theorem lastOf_same {β : Type} {c : Nat → β} {tch S S' : Nat → Bool} : ∀ n, (∀ j, j < n → tch j = true → S j = S' j) → lastOf c tch S n = lastOf c tch S' n
  | 0, _ => rfl
  | n + 1, h => by
    simp only [lastOf]
    rw [lastOf_same n (fun j hj => h j (by omega))]
    by_cases ht : tch n = true
    · rw [h n (by omega) ht]
    · simp [ht]
theorem lastOf_none {β : Type} {c : Nat → β} {tch S : Nat → Bool} : ∀ n, (∀ j, j < n → S j = false) → lastOf c tch S n = c 0
  | 0, _ => rfl
  | n + 1, h => by
    simp only [lastOf]
    rw [h n (by omega)]
    simpa using lastOf_none n (fun j hj => h j (by omega))

end Go.Proofs.Ytfcdbknmajfkaaa.eng
