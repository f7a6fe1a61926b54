/- The engine: append and copy whole; literals. -/
import Derived.Test.YtfcdbknmajfkaaaEng5
namespace Go.Proofs.Ytfcdbknmajfkaaa.eng
open Go
variable {W0 : Base}
set_option linter.unusedVariables false
set_option linter.unusedSimpArgs false


/-- append's first argument: where nothing comes behind, where it has room for sure, where it has none for sure, where one cannot tell. -/
def aOnto (st : St) (e : TypeId) (i : TypeInfo) (n : Nat) (ys : List AV) : AV → Option (AV × St × Log)
  | .val (.slice none 0 0) => cond (Nat.beq n 0) (some (.val (.slice none 0 0), st, Log.no)) (aGrow st e i 0 0 n [] ys)
  | .slice r v lo sz len cap opn => cond (Nat.beq sz i.size) ((look st r v).bind fun (o, nv) => cond opn
      (cond (o.opn && Nat.beq o.esz sz && Nat.blt 0 sz && Nat.ble ((lo + len + n) * sz) nv && Nat.ble cap lo)
        (cond (Nat.beq n 0) (some (.slice r v lo sz len cap true, st, Log.sees r)) ((aPutCells st r v ((lo + len) * sz) ys).map fun (st', lg) => (.slice r v lo sz (len + n) cap true, st', lg)))
        (cond (Nat.beq lo 0 && Nat.beq cap 0 && Nat.beq o.elem e && Nat.blt 0 n && verOk o v nv len n i) (aVer st o r v len n i ys) none))
      (cond (Nat.ble (len + n) cap)
        (cond (Nat.beq n 0) (some (.slice r v lo sz len cap false, st, Log.sees r)) ((aPutCells st r v ((lo + len) * sz) ys).map fun (st', lg) => (.slice r v lo sz (len + n) cap false, st', lg)))
        (cond (Nat.ble (lo * sz + len * sz) nv) ((aGrow st e i len cap n (cellsAt o (lo * sz) (len * sz)) ys).map fun (y, st', lg) => (y, st', Log.or (Log.sees r) lg)) none))) none
  | _ => none
theorem aOnto_ok {P : Program} {st st' : St} {e t tx ty : TypeId} {i : TypeInfo} {n : Nat} {ys : List AV} {x y : AV} {lg : Log} {A : Nat → Prop} {m : Map} {w : World} {q u : Value} {vn : List Value} (h : aOnto st e i n ys x = some (y, st', lg))
    (hA : lg.Fits W0 A) (hR : Rel W0 A m st.heap.get w) (hF : Fresh A m st.next) (ht : P.underlying t = some (.slice e)) (hi : P.info? e = some i) (hx : x.den m = some q) (hn : denL m ys = some vn) (hs : SrcA P i tx u n vn w) :
    ∃ m' w' z, y.den m' = some z ∧ (Builtin.append_ #[t, tx] ty #[q, u]).run P w = .ok z w' ∧ Ok W0 A m st w m' st' lg w' := by
  unfold aOnto at h
  split at h
  · simp only [AV.den, Option.some.injEq] at hx
    subst hx
    cases hn0 : Nat.beq n 0 with
    | true =>
      simp only [hn0, cond_true, Option.some.injEq, Prod.mk.injEq] at h
      obtain ⟨rfl, rfl, rfl⟩ := h
      have : n = 0 := Nat.eq_of_beq_eq_true hn0
      subst this
      have hv : vn = [] := by have := hs.newsLen; simp at this; exact this
      subst hv
      exact ⟨m, w, _, rfl, append_nothing_A t tx ty e i ht hi none 0 0 (Nat.le_refl _) u hs, Ok.refl hR hF⟩
    | false =>
      simp only [hn0, cond_false] at h
      obtain ⟨z, hz, h1, h2, h3, m', hy, hok⟩ := aGrow_ok (vo := []) h hA hR hF rfl hn
      exact ⟨m', _, _, hy, append_grow_A w t tx ty e i z ht hi hz none 0 0 [] (run_firstCells_none _ _ _ _ _) u n vn hs h1 h2 h3, hok⟩
  · rename_i r v lo sz len cap opn
    simp only [AV.den, Option.map_eq_some_iff] at hx
    obtain ⟨b, hb, rfl⟩ := hx
    cases hsz : Nat.beq sz i.size with
    | false => simp [hsz] at h
    | true =>
      have hsz := Nat.eq_of_beq_eq_true hsz
      subst hsz
      simp only [Nat.beq_refl, cond_true, Option.bind_eq_some_iff] at h
      obtain ⟨⟨o, nv⟩, hl, h⟩ := h
      obtain ⟨ho, hv⟩ := look_ok hl
      have hsame : n = 0 → ∀ cc, len ≤ cc → (Builtin.append_ #[t, tx] ty #[.slice (some ⟨b.1, lo * i.size, none⟩) len cc, u]).run P w = .ok (.slice (some ⟨b.1, lo * i.size, none⟩) len cc) w := by
        intro h0 cc hcc
        subst h0
        have hv : vn = [] := by have := hs.newsLen; simp at this; exact this
        subst hv
        exact append_nothing_A t tx ty e i ht hi _ len cc hcc u hs
      cases opn with
      | true =>
        simp only [cond_true] at h
        cases hc : (o.opn && Nat.beq o.esz i.size && Nat.blt 0 i.size && Nat.ble ((lo + len + n) * i.size) nv && Nat.ble cap lo) with
        | true =>
          simp only [hc, cond_true] at h
          simp only [Bool.and_eq_true, Nat.beq_eq, Nat.ble_eq, Nat.blt_eq] at hc
          obtain ⟨⟨⟨⟨hop, hez⟩, hs0⟩, hle⟩, hcap⟩ := hc
          have hroom : A r → len + n ≤ b.2 - cap := by
            intro ha
            obtain ⟨b', hb', c, fz, hc, _, hnl, hnc, _, hsize⟩ := hR.blk r o ha ho v nv hv
            rw [hb] at hb'; cases hb'
            simp only [hop, cond_true, hez] at hsize
            have : (lo + len + n) * i.size ≤ b.2 * i.size := by omega
            have := Nat.le_of_mul_le_mul_right this hs0
            omega
          cases hn0 : Nat.beq n 0 with
          | true =>
            simp only [hn0, cond_true, Option.some.injEq, Prod.mk.injEq] at h
            obtain ⟨rfl, rfl, rfl⟩ := h
            have hn0 := Nat.eq_of_beq_eq_true hn0
            have ha : A r := hA.1 r (by simp [Log.sees, bit_one])
            exact ⟨m, w, _, by simp [AV.den, hb], hsame hn0 _ (by have := hroom ha; simp; omega), Ok.refl hR hF⟩
          | false =>
            simp only [hn0, cond_false, Option.map_eq_some_iff] at h
            obtain ⟨⟨s1, l1⟩, hp, he⟩ := h
            cases he
            obtain ⟨w', hrun, hok⟩ := aPutCells_ok (P := P) hp hA hR hF hb hn
            have ha : A r := by
              simp only [aPutCells, Option.bind_eq_some_iff] at hp
              obtain ⟨o', ho', hp⟩ := hp
              split at hp
              · simp only [cond_eq_ite] at hp
                split at hp
                · simp only [Option.map_eq_some_iff, Prod.mk.injEq] at hp
                  obtain ⟨_, _, _, rfl⟩ := hp
                  exact hA.1 r (by simp [Log.turns, bit_one])
                · cases hp
              · cases hp
            refine ⟨m, w', _, by simp [AV.den, hb], append_room_A P t tx ty e i ht hi _ len _ n u vn w w' hs (by have := hroom ha; simp; omega) ?_, hok⟩
            rw [addr_add, ← Nat.add_mul]
            exact hrun
        | false =>
          simp only [hc, cond_false] at h
          clear hc
          cases hc : (Nat.beq lo 0 && Nat.beq cap 0 && Nat.beq o.elem e && Nat.blt 0 n && verOk o v nv len n i) with
          | false => simp [hc] at h
          | true =>
            simp only [hc, cond_true] at h
            simp only [Bool.and_eq_true, Nat.beq_eq, Nat.blt_eq] at hc
            obtain ⟨⟨⟨⟨rfl, rfl⟩, he⟩, h0⟩, hver⟩ := hc
            obtain ⟨m', w', z, hz, hrun, hok⟩ := aVer_ok (ty := ty) h hver ho hv hb he ht hi h0 hA hR hF hn hs
            exact ⟨m', w', z, hz, by simpa using hrun, hok⟩
      | false =>
        simp only [cond_false] at h
        cases hc : Nat.ble (len + n) cap with
        | true =>
          simp only [hc, cond_true] at h
          have hle : len + n ≤ cap := Nat.le_of_ble_eq_true hc
          cases hn0 : Nat.beq n 0 with
          | true =>
            simp only [hn0, cond_true, Option.some.injEq, Prod.mk.injEq] at h
            obtain ⟨rfl, rfl, rfl⟩ := h
            have hn0 := Nat.eq_of_beq_eq_true hn0
            exact ⟨m, w, _, by simp [AV.den, hb], hsame hn0 _ (by simp; omega), Ok.refl hR hF⟩
          | false =>
            simp only [hn0, cond_false, Option.map_eq_some_iff] at h
            obtain ⟨⟨s1, l1⟩, hp, he⟩ := h
            cases he
            obtain ⟨w', hrun, hok⟩ := aPutCells_ok (P := P) hp hA hR hF hb hn
            refine ⟨m, w', _, by simp [AV.den, hb], append_room_A P t tx ty e i ht hi _ len _ n u vn w w' hs (by simp; omega) ?_, hok⟩
            rw [addr_add, ← Nat.add_mul]
            exact hrun
        | false =>
          simp only [hc, cond_false] at h
          cases hle : Nat.ble (lo * i.size + len * i.size) nv with
          | false => simp [hle] at h
          | true =>
            simp only [hle, cond_true, Option.map_eq_some_iff] at h
            obtain ⟨⟨y1, s1, l1⟩, hg, he⟩ := h
            cases he
            have ha : A r := (or_A hA).1.1 r (by simp [Log.sees, bit_one])
            obtain ⟨b', hb', hB⟩ := hR.blk r o ha ho v nv hv
            rw [hb] at hb'; cases hb'
            obtain ⟨l, hd, hll, _, _⟩ := hB.cells (P := P) (Nat.le_of_ble_eq_true hle)
            obtain ⟨l2, hd2, _, hrun2, _⟩ := Blk.cells (P := P) (w := w.drew) (show Blk m w.drew o b nv from hB) (Nat.le_of_ble_eq_true hle)
            rw [hd] at hd2; cases hd2
            obtain ⟨z, hz, h1, h2, h3, m', hy, hok⟩ := aGrow_ok (vo := l) hg (or_A hA).2 hR hF hd hn
            exact ⟨m', _, _, hy, append_grow_A w t tx ty e i z ht hi hz _ len cap l (by simpa [Builtin.firstCells] using hrun2) u n vn hs h1 h2 h3, hok.more (fun r hr => by simp only [Log.or]; exact bit_or_r hr)⟩
  · cases h

end Go.Proofs.Ytfcdbknmajfkaaa.eng
