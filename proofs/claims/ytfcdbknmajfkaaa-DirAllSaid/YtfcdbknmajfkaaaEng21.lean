/- The engine: from a state by names to a shape, held; pieces of code, loops, contracts. -/
import Derived.Test.YtfcdbknmajfkaaaEng20
namespace Go.Proofs.Ytfcdbknmajfkaaa.eng
open Go Go.RowKit
variable {W0 : Base}
set_option linter.unusedVariables false
set_option linter.unusedSimpArgs false

theorem leafDats_at : ∀ (ks : List (Option Bool)) (i j : Nat) (b : Bool), ks[j]? = some (some b) → (leafDats ks i)[(ks.take j).countP (·.isSome)]? = some (.var (i + j), b)
  | [], i, j, b, h => by simp at h
  | some b' :: ks, i, j, b, h => by
    cases j with
    | zero => simp at h; subst h; simp [leafDats]
    | succ j =>
      have := leafDats_at ks (i + 1) j b (by simpa using h)
      simp only [List.take_succ_cons, List.countP_cons, Option.isSome_some, if_true, leafDats, List.getElem?_cons_succ]
      rw [this, show i + 1 + j = i + (j + 1) by omega]
  | none :: ks, i, j, b, h => by
    cases j with
    | zero => simp at h
    | succ j =>
      have := leafDats_at ks (i + 1) j b (by simpa using h)
      simp only [List.take_succ_cons, List.countP_cons, leafDats]
      simp only [Option.isSome_none, Bool.false_eq_true, if_false, Nat.add_zero]
      rw [this, show i + 1 + j = i + (j + 1) by omega]
theorem unfillB_us {m : Map} {rho : List (Nat × Nat)} : ∀ (bs : List BoxT) (css : List (List AV)) {ls : List AV}, unfillB rho bs css = some ls → (∀ (j : Nat) (c : List AV), css[j]? = some c → ∃ vs, denL m c = some vs) → ∃ us, denL m ls = some us
  | [], [], ls, h, hd => by
    simp only [unfillB, Option.some.injEq] at h
    subst h
    exact ⟨[], rfl⟩
  | [], _ :: _, ls, h, hd => by simp [unfillB] at h
  | _ :: _, [], ls, h, hd => by simp [unfillB] at h
  | b :: bs, c :: css, ls, h, hd => by
    simp only [unfillB, Option.bind_eq_some_iff, Option.map_eq_some_iff] at h
    obtain ⟨l1, hl1, l2, hl2, rfl⟩ := h
    obtain ⟨vs, hvs⟩ := hd 0 c rfl
    obtain ⟨us1, g1⟩ := unfill_us b.cells c hl1 hvs
    obtain ⟨us2, g3⟩ := unfillB_us bs css hl2 (fun j c hc => hd (j + 1) c (by simpa using hc))
    exact ⟨us1 ++ us2, denL_append g1 g3⟩
theorem unfillB_ok {m m2 : Map} {rho : List (Nat × Nat)} (hm : ∀ j r v, rho[j]? = some (r, v) → m2 j 0 = m r v) {W : List (Nat × Nat × SX)} (ho : OwnGo m m2 rho W) : ∀ (bs : List BoxT) (css : List (List AV)) {ls : List AV}, unfillB rho bs css = some ls → (∀ (j : Nat) (c : List AV), css[j]? = some c → ∃ vs, denL m c = some vs) → (∀ t ∈ ownUsesB bs css, t ∈ W) →
    css.length = bs.length ∧ ∃ us, denL m ls = some us ∧ ∀ (ls' rest : List AV), denL m2 ls' = some us → ∃ css', fillB bs (ls' ++ rest) = some (css', rest) ∧ css'.length = bs.length ∧ ∀ (j : Nat) (c c' : List AV) (vs : List Value), css[j]? = some c → css'[j]? = some c' → denL m c = some vs → denL m2 c' = some vs
  | [], [], ls, h, hd, hW => by
    simp only [unfillB, Option.some.injEq] at h
    subst h
    refine ⟨rfl, [], rfl, fun ls' rest hl => ?_⟩
    have := denL_length hl
    have : ls' = [] := List.eq_nil_of_length_eq_zero (by simpa using this.symm)
    subst this
    exact ⟨[], rfl, rfl, fun j c c' vs h => by simp at h⟩
  | [], _ :: _, ls, h, hd, hW => by simp [unfillB] at h
  | _ :: _, [], ls, h, hd, hW => by simp [unfillB] at h
  | b :: bs, c :: css, ls, h, hd, hW => by
    simp only [unfillB, Option.bind_eq_some_iff, Option.map_eq_some_iff] at h
    obtain ⟨l1, hl1, l2, hl2, rfl⟩ := h
    obtain ⟨vs, hvs⟩ := hd 0 c rfl
    obtain ⟨us1, g1, g2⟩ := unfill_ok hm ho b.cells c hl1 hvs (fun t ht => hW t (by simp [ownUsesB, ht]))
    obtain ⟨e0, us2, g3, g4⟩ := unfillB_ok hm ho bs css hl2 (fun j c hc => hd (j + 1) c (by simpa using hc)) (fun t ht => hW t (by simp [ownUsesB, ht]))
    refine ⟨by simp [e0], us1 ++ us2, denL_append g1 g3, fun ls' rest hl => ?_⟩
    have hlen := denL_length hl
    simp only [List.length_append] at hlen
    have t1 := denL_take us1.length hl
    have t2 := denL_drop us1.length hl
    rw [List.take_left' rfl] at t1
    rw [List.drop_left' rfl] at t2
    obtain ⟨c', f1, f2⟩ := g2 _ (ls'.drop us1.length ++ rest) t1
    rw [← List.append_assoc, List.take_append_drop] at f1
    obtain ⟨css', f3, f4, f5⟩ := g4 _ rest t2
    refine ⟨c' :: css', by simp [fillB, f1, f3], by simp [f4], fun j d d' ws hd' hd2 hw => ?_⟩
    cases j with
    | zero =>
      simp at hd' hd2
      subst hd'; subst hd2
      rw [hvs] at hw; cases hw
      exact f2
    | succ j => exact f5 j d d' ws (by simpa using hd') (by simpa using hd2) hw
theorem boxesAt_ok {st : St} : ∀ {rho : List (Nat × Nat)} {bs : List BoxT} {css : List (List AV)}, boxesAt st rho bs = some css → ∀ (j : Nat) (c : List AV), css[j]? = some c → ∃ r b, rho[j]? = some r ∧ bs[j]? = some b ∧ boxOk st r b = some c
  | [], [], css, h, j, c, hj => by simp [boxesAt] at h; subst h; simp at hj
  | [], _ :: _, css, h, j, c, hj => by simp [boxesAt] at h
  | _ :: _, [], css, h, j, c, hj => by simp [boxesAt] at h
  | r :: rho, b :: bs, css, h, j, c, hj => by
    simp only [boxesAt, Option.bind_eq_some_iff, Option.map_eq_some_iff] at h
    obtain ⟨c0, hc0, css', hcs, rfl⟩ := h
    cases j with
    | zero => simp at hj; subst hj; exact ⟨r, b, rfl, rfl, hc0⟩
    | succ j =>
      obtain ⟨r', b', h1, h2, h3⟩ := boxesAt_ok hcs j c (by simpa using hj)
      exact ⟨r', b', by simpa using h1, by simpa using h2, h3⟩
theorem boxOk_ok {st : St} {rho : Nat × Nat} {b : BoxT} {c : List AV} (h : boxOk st rho b = some c) : ∃ o rest, st.heap.get rho.1 = some o ∧ o.vers = (rho.2, o.cells.length) :: rest ∧ o.elem = b.elem ∧ o.esz = b.esz ∧ o.opn = b.opn ∧ c = o.cells ∧ o.sym.isSome = b.own.isSome ∧ o.lent = b.lent := by
  simp only [boxOk, Option.bind_eq_some_iff] at h
  obtain ⟨o, ho, h⟩ := h
  split at h
  · rename_i v n rest hv
    simp only [cond_eq_ite, Bool.and_eq_true, Nat.beq_eq, beq_iff_eq] at h
    split at h
    · rename_i hc
      obtain ⟨⟨⟨⟨⟨⟨⟨rfl, rfl⟩, h3⟩, h4⟩, h5⟩, h6⟩, h7⟩, h8⟩ := hc
      simp only [Option.some.injEq] at h
      exact ⟨o, rest, ho, hv, h3, h4, h5, h.symm, h7, h8⟩
    · cases h
  · cases h

theorem ownSX_at {st : St} : ∀ {rho : List (Nat × Nat)} {bs : List BoxT} {es : List SX} {base j k : Nat} {b : BoxT}, ownSX st rho bs = some es → ownsOk bs base = true → bs[j]? = some b → b.own = some k → ∃ r e el sz, rho[j]? = some r ∧ lookS st r.1 r.2 = some (e, el, sz) ∧ base ≤ k ∧ es[k - base]? = some e
  | [], [], es, base, j, k, b, h, ho, hb, hk => by simp at hb
  | [], _ :: _, es, base, j, k, b, h, ho, hb, hk => by simp [ownSX] at h
  | _ :: _, [], es, base, j, k, b, h, ho, hb, hk => by simp [ownSX] at h
  | r :: rs, b0 :: bs, es, base, j, k, b, h, ho, hb, hk => by
    cases hb0 : b0.own with
    | none =>
      simp only [ownSX, hb0] at h
      simp only [ownsOk, hb0] at ho
      cases j with
      | zero => simp at hb; subst hb; rw [hb0] at hk; cases hk
      | succ j => obtain ⟨r', e, el, sz, h1, h2, h3, h4⟩ := ownSX_at h ho (j := j) (by simpa using hb) hk; exact ⟨r', e, el, sz, by simpa using h1, h2, h3, h4⟩
    | some k0 =>
      simp only [ownSX, hb0, Option.bind_eq_some_iff, Option.map_eq_some_iff] at h
      obtain ⟨⟨e, el, sz⟩, hl, es', hes, rfl⟩ := h
      simp only [ownsOk, hb0, Bool.and_eq_true, Nat.beq_eq] at ho
      cases j with
      | zero =>
        simp at hb; subst hb
        rw [hb0] at hk; cases hk
        exact ⟨r, e, el, sz, rfl, hl, by omega, by rw [← ho.1.1]; simp⟩
      | succ j =>
        obtain ⟨r', e', el', sz', h1, h2, h3, h4⟩ := ownSX_at hes ho.2 (j := j) (by simpa using hb) hk
        exact ⟨r', e', el', sz', by simpa using h1, h2, by omega, by rw [show k - base = (k - (base + 1)) + 1 by omega]; simpa using h4⟩
theorem ownSX_ev {B : Base} {m : Map} {st : St} {w : World} (hR : Rel B (fun _ => True) m st.heap.get w) : ∀ {rho : List (Nat × Nat)} {bs : List BoxT} {es : List SX}, ownSX st rho bs = some es → ∃ qs, evs B.s B.F es = some qs ∧ qs.length = ownsN bs
  | [], [], es, h => by simp [ownSX] at h; subst h; exact ⟨[], rfl, rfl⟩
  | [], _ :: _, es, h => by simp [ownSX] at h
  | _ :: _, [], es, h => by simp [ownSX] at h
  | r :: rs, b0 :: bs, es, h => by
    cases hb0 : b0.own with
    | none =>
      simp only [ownSX, hb0] at h
      obtain ⟨qs, h1, h2⟩ := ownSX_ev hR h
      exact ⟨qs, h1, by simp [ownsN, hb0, h2]⟩
    | some k0 =>
      simp only [ownSX, hb0, Option.bind_eq_some_iff, Option.map_eq_some_iff] at h
      obtain ⟨⟨e, el, sz⟩, hl, es', hes, rfl⟩ := h
      obtain ⟨qs, h1, h2⟩ := ownSX_ev hR hes
      obtain ⟨o, ho, hs, hv, _⟩ := lookS_ok hl
      obtain ⟨b, hb, _⟩ := hR.blk r.1 o trivial ho r.2 0 (by rw [hv]; simp)
      obtain ⟨n, cs, c, fz, g1, _⟩ := lookS_row hl hR trivial hb
      have g1' : e.ev B.s B.F = some (.row n cs) := g1
      exact ⟨.row n cs :: qs, by simp [evs, g1', h1], by simp [ownsN, hb0, h2]⟩
theorem evs_app {s : Nat → Option PV} {F : Fns} : ∀ {a b : List SX} {x y : List PV}, evs s F a = some x → evs s F b = some y → evs s F (a ++ b) = some (x ++ y)
  | [], b, x, y, h1, h2 => by simp [evs] at h1; subst h1; simpa using h2
  | e :: a, b, x, y, h1, h2 => by
    simp only [evs, Option.bind_eq_some_iff, Option.map_eq_some_iff] at h1
    obtain ⟨p, hp, ps, hps, rfl⟩ := h1
    simp [evs, hp, evs_app hps h2]
theorem evs_at {s : Nat → Option PV} {F : Fns} : ∀ {a : List SX} {x : List PV} {i : Nat} {e : SX}, evs s F a = some x → a[i]? = some e → ∃ p, e.ev s F = some p ∧ x[i]? = some p
  | [], x, i, e, h, hi => by simp at hi
  | e0 :: a, x, i, e, h, hi => by
    simp only [evs, Option.bind_eq_some_iff, Option.map_eq_some_iff] at h
    obtain ⟨p, hp, ps, hps, rfl⟩ := h
    cases i with
    | zero => simp at hi; subst hi; exact ⟨p, hp, rfl⟩
    | succ i => obtain ⟨q, h1, h2⟩ := evs_at hps (by simpa using hi); exact ⟨q, h1, by simpa using h2⟩

theorem canon_owns {sh : Shape} {path : List Nat} {x : AAct} {st : St} (h : canon sh path = some (x, st)) : ownsOk sh.boxes sh.rows.length = true := by
  unfold canon at h
  simp only [Option.bind_eq_some_iff] at h
  obtain ⟨⟨xs, r⟩, h1, ⟨css, r'⟩, h2, h⟩ := h
  simp only [cond_eq_ite, Bool.and_eq_true] at h
  split at h
  · rename_i hc; exact hc.2
  · cases h
theorem reabs {B : Base} {m : Map} {x : AAct} {st : St} {a : Act} {w : World} (h : At B m x st a w) {sh : Shape} {rho : List (Nat × Nat)} {es : List SX} {fs : List Fact} (hr : readSt sh rho x st = some (es, fs)) (hf : ∀ f ∈ fs, f.holds B) (hc : (canon sh []).isSome = true) :
    ∃ qs, evs B.s B.F es = some qs ∧ InShape B sh qs a w := by
  obtain ⟨⟨x2, st2⟩, hcan⟩ := Option.isSome_iff_exists.1 hc
  have hR := h.rel
  unfold readSt at hr
  cases hck : (x.defers.isEmpty && Nat.beq x.n sh.n && nodupN (rho.map (·.1)) && Nat.beq rho.length sh.boxes.length) with
  | false => simp [hck] at hr
  | true =>
    simp only [hck, cond_true, Option.bind_eq_some_iff] at hr
    simp only [Bool.and_eq_true, List.isEmpty_iff, Nat.beq_eq] at hck
    obtain ⟨⟨⟨hdef, hn⟩, hnd⟩, hrl⟩ := hck
    obtain ⟨ys, hys, l1, hl1, css, hcss, l2, hl2, ⟨es1, fs1⟩, hlv, os, hos, hr⟩ := hr
    obtain ⟨huo, rfl, rfl⟩ : usesOk sh.boxes (ownUses (sh.slots.map (·.2)) ys ++ ownUsesB sh.boxes css) = true ∧ es = es1 ++ os ∧ fs = fs1 ++ usesF st rho (ownUses (sh.slots.map (·.2)) ys ++ ownUsesB sh.boxes css) := by
      cases hu : usesOk sh.boxes (ownUses (sh.slots.map (·.2)) ys ++ ownUsesB sh.boxes css) with
      | false => simp [hu] at hr
      | true => simp only [hu, cond_true, Option.some.injEq, Prod.mk.injEq] at hr; exact ⟨rfl, hr.1.symm, hr.2.symm⟩
    have hfu : ∀ t ∈ ownUses (sh.slots.map (·.2)) ys ++ ownUsesB sh.boxes css, (Fact.same t.2.2 (.len (contOf st rho t.1))).holds B := fun t ht => hf _ (List.mem_append_right _ (List.mem_map.2 ⟨t, ht, rfl⟩))
    have hf1 : ∀ f ∈ fs1, f.holds B := fun f hf' => hf f (List.mem_append_left _ hf')
    have hown := canon_owns hcan
    generalize hW : ownUses (sh.slots.map (·.2)) ys ++ ownUsesB sh.boxes css = W at huo hfu
    obtain ⟨svs, s1, s2, s3⟩ := slotsOf_ok h.tm hys
    -- the boxes' cells read
    have hbox : ∀ (j : Nat) (c : List AV), css[j]? = some c → ∃ r b o rest b', rho[j]? = some r ∧ sh.boxes[j]? = some b ∧ st.heap.get r.1 = some o ∧ o.vers = (r.2, o.cells.length) :: rest ∧ o.elem = b.elem ∧ o.esz = b.esz ∧ o.opn = b.opn ∧ c = o.cells ∧ m r.1 r.2 = some b' ∧ Blk m w o b' o.cells.length ∧ ∃ vs, denL m c = some vs := by
      intro j c hj
      obtain ⟨r, b, g1, g2, g3⟩ := boxesAt_ok hcss j c hj
      obtain ⟨o, rest, g4, g5, g6, g7, g8, rfl, g9⟩ := boxOk_ok g3
      obtain ⟨b', hb', hB⟩ := hR.blk r.1 o trivial g4 r.2 o.cells.length (by rw [g5]; simp)
      obtain ⟨l, hd, _⟩ := hB.cells (P := (default : Program)) (off := 0) (k := o.cells.length) (by omega)
      simp only [cellsAt, List.drop_zero, List.take_length] at hd
      exact ⟨r, b, o, rest, b', g1, g2, g4, g5, g6, g7, g8, rfl, hb', hB, l, hd⟩
    -- what the leaves are
    have hles := hlv
    let nb := sh.boxes.length
    obtain ⟨us1, u1⟩ := unfill_us (sh.slots.map (·.2)) ys hl1 s1
    obtain ⟨us2, u2⟩ := unfillB_us sh.boxes css hl2 (fun j c hj => by
      obtain ⟨_, _, _, _, _, _, _, _, _, _, _, _, _, _, _, hv⟩ := hbox j c hj
      exact hv)
    obtain ⟨qs1, qe1, q2, q3, fps, q4⟩ := leavesSX_ok hR sh.rows (l1 ++ l2) hlv (denL_append u1 u2) hf1
    obtain ⟨qs2, qe2, q5⟩ := ownSX_ev hR hos
    obtain ⟨qs, hqs⟩ : ∃ qs, qs = qs1 ++ qs2 := ⟨_, rfl⟩
    have q1 : evs B.s B.F (es1 ++ os) = some qs := by rw [hqs]; exact evs_app qe1 qe2
    refine ⟨qs, q1, x2, st2, ?_⟩
    let us := us1 ++ us2
    let B2 := B.with qs
    let m2 : Map := ⟨fun j v => if v = 0 then (rho[j]?).bind fun r => m r.1 r.2 else none, fun k => if nb ≤ k then match (leafDats sh.rows 0)[k - nb]? with | some (.var j, _) => (us[j]?).map fun u => (u, fps j) | _ => none else none, B2.sv⟩
    have hm2 : ∀ j r v, rho[j]? = some (r, v) → m2 j 0 = m r v := fun j r v hj => by
      show (if (0 : Nat) = 0 then (rho[j]?).bind fun r => m r.1 r.2 else none) = _
      rw [if_pos rfl, hj]; rfl
    -- what is in the rows of the call's own
    have hcont : ∀ (j k : Nat) (b : BoxT), sh.boxes[j]? = some b → b.own = some k → ∃ r e el sz, rho[j]? = some r ∧ lookS st r.1 r.2 = some (e, el, sz) ∧ ∀ p, B.ev e = some p → B2.ev (.var k) = some p := fun j k b hb hk => by
      obtain ⟨r, e, el, sz, h1, h2, h3, h4⟩ := ownSX_at hos hown hb hk
      obtain ⟨p, p1, p2⟩ := evs_at qe2 h4
      refine ⟨r, e, el, sz, h1, h2, fun p' hp' => ?_⟩
      have hp'' : e.ev B.s B.F = some p' := hp'
      rw [p1] at hp''
      cases hp''
      show qs[k]? = some p
      rw [hqs, List.getElem?_append_right (by omega), q2]
      exact p2
    have hgo : OwnGo m m2 rho W := fun j k sz r v lo len u hj hc0 hjW hden => by
      have hu := List.all_eq_true.1 huo _ hjW
      simp only at hu
      split at hu
      · rename_i b hb
        split at hu
        · rename_i k' hk
          simp only [Nat.beq_eq] at hu
          subst hu
          obtain ⟨r', e, el, sz', h1, h2, h3⟩ := hcont j k' b hb hk
          rw [hj] at h1
          cases h1
          obtain ⟨n, f1, f2⟩ := hfu _ hjW
          have hce : contOf st rho j = e := by simp only [contOf, hj, h2]
          simp only [hce] at f2
          obtain ⟨bb, l, n', hb', g1, g2, rfl⟩ := sliceS_inv hR.sv hden
          rw [isC0_ok hc0] at g1
          rw [f1] at g2
          simp only [Option.some.injEq, PV.v.injEq, Value.int.injEq, true_and, Int.ofNat_inj] at g1 g2
          have hl0 : l = 0 := by omega
          subst hl0
          subst g2
          obtain ⟨k2, cs, c, fz, z1, _⟩ := lookS_row h2 hR trivial hb'
          rw [ev_len z1] at f2
          simp only [Option.some.injEq, PV.v.injEq, Value.int.injEq, true_and, Int.ofNat_inj] at f2
          subst f2
          exact wholeS (W0 := B2) (fun e => rfl) (by rw [hm2 j r v hj]; exact hb') (l := 0) rfl (ev_len (h3 _ z1))
        · cases hu
      · cases hu
    obtain ⟨us1', u1', f1⟩ := unfill_ok hm2 hgo (sh.slots.map (·.2)) ys hl1 s1 (fun t ht => by rw [← hW]; exact List.mem_append_left _ ht)
    rw [u1] at u1'; cases u1'
    obtain ⟨hbl, us2', u2', f2⟩ := unfillB_ok hm2 hgo sh.boxes css hl2 (fun j c hj => by
      obtain ⟨_, _, _, _, _, _, _, _, _, _, _, _, _, _, _, hv⟩ := hbox j c hj
      exact hv) (fun t ht => by rw [← hW]; exact List.mem_append_right _ ht)
    rw [u2] at u2'; cases u2'
    have hlnt : ∀ (j : Nat) (r : Nat × Nat) (b : BoxT) (o : ARoot), rho[j]? = some r → sh.boxes[j]? = some b → st.heap.get r.1 = some o → o.lent = b.lent := fun j r b o hr hb ho => by
      have hj : j < css.length := by rw [hbl]; exact (List.getElem?_eq_some_iff.1 hb).1
      obtain ⟨r', b', g1, g2, g3⟩ := boxesAt_ok hcss j css[j] (List.getElem?_eq_getElem hj)
      obtain ⟨o', rest, g4, _, _, _, _, _, _, g9⟩ := boxOk_ok g3
      rw [hr] at g1
      rw [hb] at g2
      cases g1
      cases g2
      rw [ho] at g4
      cases g4
      exact g9
    have husl : us.length = sh.rows.length := q3
    have hleaf : ∀ (j : Nat) (k : Option Bool) (u : Value), sh.rows[j]? = some k → us[j]? = some u → ∃ p, qs[j]? = some p ∧ Leafs B m st w k p u (fps j) := fun j k u hk hu => by
      have : j < qs1.length := by rw [q2]; exact (List.getElem?_eq_some_iff.1 hk).1
      exact ⟨qs1[j], by rw [hqs, List.getElem?_append_left this]; exact List.getElem?_eq_getElem this, q4 j k _ u hk (List.getElem?_eq_getElem this) hu⟩
    have hd2 : ∀ (j : Nat) (b : Bool) (u : Value), sh.rows[j]? = some (some b) → us[j]? = some u → m2.d (nb + (sh.rows.take j).countP (·.isSome)) = some (u, fps j) := fun j b u hk hu => by
      have := leafDats_at sh.rows 0 j b hk
      show (if nb ≤ nb + _ then _ else _) = _
      rw [if_pos (Nat.le_add_right _ _), Nat.add_sub_cancel_left, this]
      simp only [Nat.zero_add, hu, Option.map_some]
    have hden : denL m2 (leafAVs sh.rows 0 nb) = some us := leafAVs_den sh.rows 0 nb us husl (fun j u hk hu => by
      obtain ⟨p, hp, hl⟩ := hleaf j none u hk hu
      obtain ⟨v, rfl⟩ := hl.plain rfl
      have hrd := hl.reads w (fun _ _ => rfl)
      simp only [Reads] at hrd
      obtain ⟨rfl, hone⟩ := hrd
      exact ev_sym (W0 := B2) (fun e => rfl) (by simp [Base.ev, SX.ev, B2, Base.with, hp]) hone) (fun j b u hk hu => by
      obtain ⟨p, hp, hl⟩ := hleaf j _ u hk hu
      simp only [AV.den, hd2 j b u hk hu, Option.bind_some, (hl.reads w (fun _ _ => rfl)).one, cond_true])
    have hll := denL_length hden
    have t1 := denL_take us1.length hden
    have t2 := denL_drop us1.length hden
    rw [show us = us1 ++ us2 from rfl, List.take_left' rfl] at t1
    rw [show us = us1 ++ us2 from rfl, List.drop_left' rfl] at t2
    obtain ⟨xs', g1, g2⟩ := f1 _ ((leafAVs sh.rows 0 nb).drop us1.length) t1
    rw [List.take_append_drop] at g1
    obtain ⟨css', g3, g4, g5⟩ := f2 _ [] t2
    rw [List.append_nil] at g3
    have hcan0 := hcan
    unfold canon at hcan
    rw [g1] at hcan
    simp only [Option.bind_some, g3] at hcan
    cases hck2 : (([] : List AV).isEmpty && small (sh.slots.map (·.1)) && Nat.blt (sh.boxes.length + sh.rows.length) 16777215 && ownsOk sh.boxes sh.rows.length) with
    | false => simp only [hck2, cond_false] at hcan; cases hcan
    | true =>
      have hcan' := hcan
      simp only [hck2, cond_true, Option.some.injEq, Prod.mk.injEq] at hcan'
      simp only [Bool.and_eq_true, Nat.blt_eq] at hck2
      obtain ⟨⟨⟨_, hsm⟩, hsz⟩, _⟩ := hck2
      obtain ⟨rfl, rfl⟩ := hcan'
      have hld : (leafDats sh.rows 0).length ≤ sh.rows.length := by rw [leafDats_len]; exact List.countP_le_length
      -- the roots of the canonical state
      have hget : ∀ r o, (newDats (leafDats sh.rows 0) sh.boxes.length (boxesOf sh.boxes css' 0 .nil)).get r = some o →
          (∃ j b u p, r = nb + (sh.rows.take j).countP (·.isSome) ∧ sh.rows[j]? = some (some b) ∧ us[j]? = some u ∧ qs[j]? = some p ∧ o = datRoot (.var j, b) ∧ Leafs B m st w (some b) p u (fps j)) ∨
          (∃ b c', sh.boxes[r]? = some b ∧ css'[r]? = some c' ∧ o = boxRoot b c') := by
        intro r o ho
        rw [newDats_get _ _ _ _ (by omega)] at ho
        split at ho
        · rename_i hr
          obtain ⟨y, hy, rfl⟩ := Option.map_eq_some_iff.1 ho
          obtain ⟨j, b, h1, rfl, h3⟩ := leafDats_get sh.rows 0 _ y hy
          have hj : j < us.length := by rw [husl]; exact (List.getElem?_eq_some_iff.1 h1).1
          obtain ⟨p, hp, hl⟩ := hleaf j _ us[j] h1 (List.getElem?_eq_getElem hj)
          exact .inl ⟨j, b, us[j], p, by omega, h1, List.getElem?_eq_getElem hj, hp, by simp, hl⟩
        · rcases boxesOf_get _ _ _ _ _ _ (by omega) ho with ⟨i, b, c, h1, h2, h3, h4⟩ | ho
          · rw [Nat.zero_add] at h3
            subst h3
            exact .inr ⟨b, c, h1, h2, h4⟩
          · simp [T.get] at ho
      have hbx : ∀ r b c', sh.boxes[r]? = some b → css'[r]? = some c' → ∃ q o rest b' c vs, rho[r]? = some q ∧ st.heap.get q.1 = some o ∧ o.vers = (q.2, o.cells.length) :: rest ∧ o.elem = b.elem ∧ o.esz = b.esz ∧ o.opn = b.opn ∧ c = o.cells ∧ m q.1 q.2 = some b' ∧ Blk m w o b' o.cells.length ∧ denL m c = some vs ∧ denL m2 c' = some vs ∧ m2 r 0 = some b' := by
        intro r b c' hb hc'
        have hrl' : r < css.length := by rw [hbl]; exact (List.getElem?_eq_some_iff.1 hb).1
        obtain ⟨q, b1, o, rest, b', k1, k2, k3, k4, k5, k6, k7, k8, k9, k10, vs, k11⟩ := hbox r css[r] (List.getElem?_eq_getElem hrl')
        rw [hb] at k2
        cases k2
        exact ⟨q, o, rest, b', css[r], vs, k1, k3, k4, k5, k6, k7, k8, k9, k10, k11, g5 r _ _ vs (List.getElem?_eq_getElem hrl') hc' k11, by rw [hm2 r q.1 q.2 k1]; exact k9⟩
      have hv0 : ∀ r o v n, (newDats (leafDats sh.rows 0) sh.boxes.length (boxesOf sh.boxes css' 0 .nil)).get r = some o → (v, n) ∈ o.vers → ∃ b c', sh.boxes[r]? = some b ∧ css'[r]? = some c' ∧ o = boxRoot b c' ∧ v = 0 ∧ n = c'.length := by
        intro r o v n ho hv
        rcases hget r o ho with ⟨j, b, u, p, _, _, _, _, rfl, _⟩ | ⟨b, c', h1, h2, rfl⟩
        · simp [datRoot] at hv
        · simp only [boxRoot, List.mem_singleton, Prod.mk.injEq] at hv
          exact ⟨b, c', h1, h2, rfl, hv.1, hv.2⟩
      refine ⟨m2, hcan0, by rw [hqs, List.length_append, q2, q5], ⟨⟨?_, ?_, ?_, hR.size0, hR.amb, ?_, ?_, ?_, fun e => rfl, hR.same, ?_, ?_⟩, ?_, ⟨?_, ?_, ?_⟩⟩⟩
      · intro r o _ ho v n hv
        obtain ⟨b, c', h1, h2, rfl, rfl, rfl⟩ := hv0 r o v n ho hv
        obtain ⟨q, o, rest, b', c, vs, k1, k2, k3, k4, k5, k6, k7, k8, k9, k10, k11, k12⟩ := hbx r b c' h1 h2
        refine ⟨b', k12, ?_⟩
        obtain ⟨cc, fz, z1, z2, z3, z4, z5, z6⟩ := k9
        subst k7
        have hlc : c'.length = o.cells.length := (denL_length k11).symm.trans (denL_length k10)
        refine ⟨cc, fz, by simp only [boxRoot]; rw [← k4]; exact z1, z2, Nat.le_refl _, by omega, fun i y hi hy => ?_, ?_⟩
        · obtain ⟨v, hv1, hv2⟩ := denL_get k11 hy
          have hio : i < o.cells.length := by omega
          obtain ⟨v', hv3, hv4⟩ := z5 i o.cells[i] (by omega) (List.getElem?_eq_getElem hio)
          obtain ⟨v'', hv5, hv6⟩ := denL_get k10 (List.getElem?_eq_getElem hio)
          rw [hv3] at hv5
          cases hv5
          rw [hv2] at hv6
          cases hv6
          exact ⟨v, hv1, hv4⟩
        · simp only [boxRoot]
          rw [← k6, ← k5]
          cases ho : o.opn with
          | true => simp only [ho, cond_true] at z6 ⊢; exact z6
          | false => simp only [ho, cond_false] at z6 ⊢; omega
      · intro r r' o o' v n v' n' b1 b1' _ _ ho ho' hv hv' hb hb' he
        obtain ⟨b, c', h1, h2, rfl, rfl, rfl⟩ := hv0 r o v n ho hv
        obtain ⟨bb, cc', h1', h2', rfl, rfl, rfl⟩ := hv0 r' o' v' n' ho' hv'
        obtain ⟨q, oo, rest, b', c, vs, k1, k2, k3, k4, k5, k6, k7, k8, k9, k10, k11, k12⟩ := hbx r b c' h1 h2
        obtain ⟨q', oo', rest', b'', c'', vs', j1, j2, j3, j4, j5, j6, j7, j8, j9, j10, j11, j12⟩ := hbx r' bb cc' h1' h2'
        rw [k12] at hb
        rw [j12] at hb'
        cases hb; cases hb'
        have := hR.inj q.1 q'.1 oo oo' q.2 oo.cells.length q'.2 oo'.cells.length _ _ trivial trivial k2 j2 (by rw [k3]; simp) (by rw [j3]; simp) k8 j8 he
        exact nodupN_ok hnd r r' q.1 (by rw [List.getElem?_map, k1]; rfl) (by rw [List.getElem?_map, j1, this]; rfl)
      · intro r o v n rest _ ho hv v' hlt
        obtain ⟨b, c', h1, h2, rfl, rfl, rfl⟩ := hv0 r o v n ho (by rw [hv]; simp)
        show (if v' = 0 then _ else none) = none
        rw [if_neg (by omega)]
      · intro r o v n b1 _ ho hv hb
        obtain ⟨b, c', h1, h2, rfl, rfl, rfl⟩ := hv0 r o v n ho hv
        obtain ⟨q, oo, rest, b', c, vs, k1, k2, k3, k4, k5, k6, k7, k8, k9, k10, k11, k12⟩ := hbx r b c' h1 h2
        rw [k12] at hb
        cases hb
        have hl : oo.lent = b.lent := hlnt r q b oo k1 h1 k2
        have := hR.abv q.1 oo q.2 oo.cells.length _ trivial k2 (by rw [k3]; simp) k8
        rw [hl] at this
        exact this
      · intro r o e _ ho hd
        rcases hget r o ho with ⟨j, b, u, p, rfl, h1, h2, h3, rfl, hl⟩ | ⟨b, c', h1, h2, rfl⟩
        · simp only [datRoot, Option.some.injEq] at hd
          subst hd
          refine ⟨u, fps j, hd2 j b u h1 h2, (hl.reads w (fun _ _ => rfl)).one, hl.lt, fun w2 hw2 => ⟨p, by simp [Base.ev, SX.ev, Base.with, h3], hl.reads w2 hw2⟩⟩
        · simp [boxRoot] at hd
      · intro r o e v fp r' o' u' n b1 _ _ ho hd hm ho' hu' hb hfp
        obtain ⟨b, c', h1', h2', rfl, rfl, rfl⟩ := hv0 r' o' u' n ho' hu'
        obtain ⟨q, oo, rest, b', c, vs, k1, k2, k3, k4, k5, k6, k7, k8, k9, k10, k11, k12⟩ := hbx r' b c' h1' h2'
        rw [k12] at hb
        cases hb
        rcases hget r o ho with ⟨j, b2, u, p, rfl, h1, h2, h3, rfl, hl⟩ | ⟨b2, c2, h1, h2, rfl⟩
        · rw [hd2 j b2 u h1 h2] at hm
          cases hm
          obtain ⟨r3, o3, e3, v3, fp3, _, h3', d3, m3, k3'⟩ := hl.hangs _ hfp
          exact hR.disj r3 o3 e3 v3 fp3 q.1 oo q.2 oo.cells.length _ trivial trivial h3' d3 m3 k2 (by rw [k3]; simp) k8 k3'
        · simp [boxRoot] at hd
      · intro r o e v fp _ ho hd hm hro k hk
        rcases hget r o ho with ⟨j, b2, u, p, rfl, h1, h2, h3, rfl, hl⟩ | ⟨b2, c2, h1, h2, rfl⟩
        · rw [hd2 j b2 u h1 h2] at hm
          cases hm
          simp only [datRoot] at hro
          subst hro
          exact hl.fpb rfl k hk
        · simp [boxRoot] at hd
      · intro r o e v n b1 _ ho hs hv hb
        obtain ⟨b, c', h1, h2, rfl, rfl, rfl⟩ := hv0 r o v n ho hv
        obtain ⟨q, oo, rest, b', c, vs, k1, k2, k3, k4, k5, k6, k7, k8, k9, k10, k11, k12⟩ := hbx r b c' h1 h2
        rw [k12] at hb
        cases hb
        simp only [boxRoot, Option.map_eq_some_iff] at hs
        obtain ⟨k, hk, rfl⟩ := hs
        obtain ⟨r', e, el, sz', g1, g2, g3⟩ := hcont r k b h1 hk
        rw [k1] at g1
        cases g1
        obtain ⟨n2, cs, cc, fz, z1, z2, z3, z4, z5⟩ := lookS_row g2 hR trivial k8
        obtain ⟨o2, y1, y2, y3, y4, y5, y6, _⟩ := lookS_ok g2
        rw [k2] at y1
        cases y1
        refine ⟨n2, cs, cc, fz, g3 _ z1, ?_, z3, ?_⟩
        · simp only [boxRoot]; rw [← k4, y5]; exact z2
        · simp only [boxRoot]; rw [← k5, y6]; exact ⟨z4, z5⟩
      · intro r _ hr
        have hr' : sh.boxes.length + (leafDats sh.rows 0).length ≤ r := hr
        refine ⟨fun v => ?_, ?_⟩
        · show (if v = 0 then (rho[r]?).bind fun r => m r.1 r.2 else none) = none
          have : rho[r]? = none := List.getElem?_eq_none (by omega)
          rw [this]; simp
        · show (if nb ≤ r then _ else none) = none
          have : (leafDats sh.rows 0)[r - nb]? = none := List.getElem?_eq_none (by show _ ≤ r - sh.boxes.length; omega)
          rw [this]; simp
      · rw [h.tm.size]; exact hn
      · intro t y hy
        simp only at hy
        rcases tmOf_get _ _ _ _ _ hsm hy with ⟨i, h1, h2⟩ | hy
        · obtain ⟨v, hv1, hv2⟩ := denL_get g2 h2
          exact ⟨v, hv1, s3 i t v h1 hv2⟩
        · simp [T.get] at hy
      · have := h.tm.defers
        rw [hdef] at this
        exact this
end Go.Proofs.Ytfcdbknmajfkaaa.eng
