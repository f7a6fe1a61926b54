/- The engine: what is known by other means. -/
import Derived.Test.YtfcdbknmajfkaaaEng16
import Derived.Test.YtfcdbknmajfkaaaRowE
namespace Go.Proofs.Ytfcdbknmajfkaaa.eng
open Go Go.RowKit
variable {W0 : Base}
set_option linter.unusedVariables false
set_option linter.unusedSimpArgs false

theorem step_ex {A Tc : Nat → Prop} {m : Map} {g : Heap} {w w' : World} (h : Rel W0 A m g w) (he : Ex w w') : Step W0 A Tc m g w m g w' := by
  have hsame : ∀ r o v n b, A r → g r = some o → (v, n) ∈ o.vers → m r v = some b → w'.heap[b.1]? = w.heap[b.1]? := fun r o v n b ha ho hv hb => he.block b.1 (h.lt ha ho hv hb)
  refine ⟨Map.Le.refl m, ⟨?_, h.inj, h.top, Nat.le_trans h.size0 he.size, fun k hk hm => (he.block k (Nat.lt_of_lt_of_le hk h.size0)).trans (h.amb k hk hm), h.abv, ?_, h.disj, h.sv, ⟨he.os.trans h.same.1, he.tape.trans h.same.2.1, he.output.trans h.same.2.2⟩, h.fpb, fun r o e v n b ha ho hs hv hb => (h.row r o e v n b ha ho hs hv hb).mono (hsame r o v n b ha ho hv hb)⟩, fun _ _ _ => rfl, fun _ _ => rfl, fun _ _ => rfl, he.os, he.tape, he.output, he.size, fun k hk _ => he.block k hk, fun r o v n b _ ho hv hb _ => ⟨o, v, n, b, ho, hv, hb, rfl⟩, fun r o R v fp ha _ ho hd hm k hk _ => ⟨r, o, R, v, fp, ha, ho, hd, hm, hk⟩⟩
  · intro r o ha ho v n hv
    obtain ⟨b, hb, hB⟩ := h.blk r o ha ho v n hv
    exact ⟨b, hb, hB.mono (Map.Le.refl m) (hsame r o v n b ha ho hv hb)⟩
  · intro r o R ha ho hd
    obtain ⟨v, fp, hmv, hone, hfp, hR2⟩ := h.dat r o R ha ho hd
    exact ⟨v, fp, hmv, hone, fun k hk => Nat.lt_of_lt_of_le (hfp k hk) he.size, fun w2 hw2 => hR2 w2 (fun k hk => (hw2 k hk).trans (he.block k (hfp k hk)))⟩

/-- A function of values without places. -/
def orcPlain (f0 : FuncId) (spec : List Value → Option Value) : Orc := fun f args st => cond (Nat.beq f f0) (((denL Map.empty args).bind spec).map fun v => (.ret (.val v), st, Log.no)) none
theorem orcPlain_ok {P : Program} {f0 : FuncId} {spec : List Value → Option Value} (h : ∀ vs v, spec vs = some v → ∀ w, Calls P f0 vs.toArray w fun e w' => e = .returned v ∧ Ex w w') : OrcOk P (orcPlain f0 spec) := by
  refine ⟨?_, ?_⟩
  · intro f args st r st' lg hr W0 A m w vs hA hR hF hvs
    simp only [orcPlain, cond_eq_ite] at hr
    split at hr
    · rename_i hf
      have := Nat.eq_of_beq_eq_true hf
      subst this
      simp only [Option.map_eq_some_iff, Option.bind_eq_some_iff] at hr
      obtain ⟨v, ⟨us, hus, hv⟩, he⟩ := hr
      cases he
      have := denL_mono (Map.empty_le m) args hus
      rw [hvs] at this
      cases this
      refine (h vs v hv w).mono ?_
      rintro e w' ⟨rfl, hex⟩
      exact ⟨m, ⟨step_ex hR hex, hF⟩, v, rfl, rfl⟩
    · cases hr
  · intro f args st r st' lg hr
    simp only [orcPlain, cond_eq_ite] at hr
    split at hr
    · simp only [Option.map_eq_some_iff] at hr
      obtain ⟨v, _, he⟩ := hr
      cases he
      exact Gk.refl _ _
    · cases hr
def orcOr (a b : Orc) : Orc := fun f args st => match a f args st with | some r => some r | none => b f args st
theorem orcOr_ok {P : Program} {a b : Orc} (ha : OrcOk P a) (hb : OrcOk P b) : OrcOk P (orcOr a b) := by
  refine ⟨?_, ?_⟩
  · intro f args st r st' lg hr
    simp only [orcOr] at hr
    split at hr
    · rename_i q hq
      cases hr
      exact ha.call f args st r st' lg hq
    · exact hb.call f args st r st' lg hr
  · intro f args st r st' lg hr
    simp only [orcOr] at hr
    split at hr
    · rename_i q hq
      cases hr
      exact ha.gk f args st r st' lg hq
    · exact hb.gk f args st r st' lg hr

/-- A slice's cells. -/
def sliceCells (st : St) (sz : Nat) : AV → Option (Nat × List AV × Log)
  | .val (.slice none 0 0) => some (0, [], Log.no)
  | .slice r v lo sz' len cap opn => cond (Nat.beq sz' sz) ((look st r v).bind fun (o, n) => cond (Nat.ble (lo * sz + len * sz) n && (cond opn (o.opn && Nat.beq o.esz sz && Nat.blt 0 sz && Nat.ble cap lo) (Nat.ble len cap && Nat.ble cap 9223372036854775807)))
      (some (len, cellsAt o (lo * sz) (len * sz), Log.sees r)) none) none
  | _ => none
theorem sliceCells_ok {α : Type} (E : Enc α) {st : St} {x : AV} {len : Nat} {cs : List AV} {lg : Log} {A : Nat → Prop} {m : Map} {w : World} {u : Value} {xs : List α} (h : sliceCells st E.sz x = some (len, cs, lg)) (hA : lg.Fits W0 A) (hR : Rel W0 A m st.heap.get w)
    (hx : x.den m = some u) (hxs : denL m cs = some (E.all xs)) (hl : xs.length = len) : RowE E w u xs := by
  subst hl
  unfold sliceCells at h
  split at h
  · simp only [Option.some.injEq, Prod.mk.injEq] at h
    obtain ⟨h0, rfl, rfl⟩ := h
    have : xs = [] := List.eq_nil_of_length_eq_zero h0.symm
    subst this
    simp only [AV.den, Option.some.injEq] at hx
    subst hx
    exact RowE.nil E w
  · rename_i r v lo sz' len' cap opn
    cases hs : Nat.beq sz' E.sz with
    | false => simp [hs] at h
    | true =>
      have hs := Nat.eq_of_beq_eq_true hs
      subst hs
      simp only [Nat.beq_refl, cond_true, Option.bind_eq_some_iff] at h
      obtain ⟨⟨o, n⟩, hlk, h⟩ := h
      obtain ⟨ho, hv⟩ := look_ok hlk
      cases hc : (Nat.ble (lo * E.sz + len' * E.sz) n && (cond opn (o.opn && Nat.beq o.esz E.sz && Nat.blt 0 E.sz && Nat.ble cap lo) (Nat.ble len' cap && Nat.ble cap 9223372036854775807))) with
      | false => simp [hc] at h
      | true =>
        simp only [hc, cond_true, Option.some.injEq, Prod.mk.injEq] at h
        obtain ⟨rfl, rfl, rfl⟩ := h
        have ha : A r := hA.1 r (by simp [Log.sees, bit_one])
        simp only [AV.den, Option.map_eq_some_iff] at hx
        obtain ⟨b, hb, rfl⟩ := hx
        obtain ⟨b', hb', hB⟩ := hR.blk r o ha ho v n hv
        rw [hb] at hb'; cases hb'
        simp only [Bool.and_eq_true, Nat.ble_eq] at hc
        have hB' := hB
        obtain ⟨c, fz, hcc, _, hnl, hnc, _, hsize⟩ := hB'
        obtain ⟨l, hd, hll, _, hcell⟩ := hB.cells (P := (default : Program)) hc.1
        rw [hxs] at hd
        cases hd
        have hcap : xs.length ≤ (cond opn (b.2 - cap) cap) ∧ (cond opn (b.2 - cap) cap) ≤ maxLen := by
          cases opn with
          | false => simp only [cond_false] at hc ⊢; simp only [Bool.and_eq_true, Nat.ble_eq] at hc; exact ⟨hc.2.1, hc.2.2⟩
          | true =>
            simp only [cond_true, Bool.and_eq_true, Nat.beq_eq, Nat.blt_eq, Nat.ble_eq] at hc ⊢
            obtain ⟨hc1, ⟨⟨hop, hez⟩, hpos⟩, hcl⟩ := hc
            simp only [hop, cond_true, hez] at hsize
            have : (lo + xs.length) * E.sz ≤ b.2 * E.sz := by rw [Nat.add_mul]; omega
            have := Nat.le_of_mul_le_mul_right this hpos
            unfold maxLen
            omega
        refine ⟨some ⟨b.1, lo * E.sz, none⟩, _, rfl, hcap.1, hcap.2, fun _ => ⟨b.1, lo * E.sz, rfl, (Array.getElem?_eq_some_iff.1 hcc).1, fun i u hu => hcell i u hu⟩⟩
  · cases h

def strOf : AV → Option ByteArray | .val (.string s) => some s | _ => none
def strsOf : List AV → Option (List ByteArray)
  | [] => some []
  | x :: l => (strOf x).bind fun s => (strsOf l).map (s :: ·)
end Go.Proofs.Ytfcdbknmajfkaaa.eng
