/- The engine: one operation. -/
import Derived.Test.YtfcdbknmajfkaaaEng8e
import Derived.Lib.MinMax
namespace Go.Proofs.Ytfcdbknmajfkaaa.eng
open Go Go.RowKit
variable {W0 : Base}
set_option linter.unusedVariables false
set_option linter.unusedSimpArgs false

/-! A part of a row of the call's own. -/
def aPartS (P : Program) (st : St) (t : TypeId) (x : AV) (lo hi mx : Option AV) : Option (AV × Log) := match x with
  | .sliceS r v l0 len sz => (lookS st r v).bind fun (eo, el, esz) => (aSliceS P t x lo hi mx).map fun (y, lg) => (y, (Log.sees r).or ((wantLen eo len).or lg))
  | _ => none
theorem aSliceS_c0 {P : Program} {t : TypeId} {r v sz : Nat} {l0 len : SX} {lo hi mx : Option AV} {res : AV × Log} (h : aSliceS P t (.sliceS r v l0 len sz) lo hi mx = some res) : isC0 l0 = true := by
  unfold aSliceS at h
  cases hc : isC0 l0 with
  | true => rfl
  | false =>
    exfalso
    revert h
    split <;> simp_all
theorem aPartS_ok {P : Program} {st : St} {t : TypeId} {x y : AV} {lo hi mx : Option AV} {lg : Log} {A : Nat → Prop} {m : Map} {w : World} {u : Value} {vlo vhi vmx : Option Value} (h : aPartS P st t x lo hi mx = some (y, lg)) (hA : lg.Fits W0 A)
    (hR : Rel W0 A m st.heap.get w) (hx : x.den m = some u) (hlo : denO m lo = some vlo) (hhi : denO m hi = some vhi) (hmx : denO m mx = some vmx) : ∃ v, y.den m = some v ∧ (Instr.sliceAt t u vlo vhi vmx).run P w = .ok v w := by
  unfold aPartS at h
  split at h
  · rename_i r v l0 len sz
    simp only [Option.bind_eq_some_iff, Option.map_eq_some_iff] at h
    obtain ⟨⟨eo, el, esz⟩, hl, ⟨y1, l1⟩, hs, he⟩ := h
    cases he
    have ha : A r := (or_A hA).1.1 r (by simp [Log.sees, bit_one])
    obtain ⟨n, f1, f2⟩ := (or_A (or_A hA).2).1.2 _ (List.mem_singleton.2 rfl)
    refine aSliceS_ok hs (or_A (or_A hA).2).2 hR hx hlo hhi hmx ?_
    intro b' l' n' c' he
    obtain ⟨b, l, n2, hb, h1, h2, rfl⟩ := sliceS_inv hR.sv hx
    cases he
    rw [f1] at h2
    simp only [Option.some.injEq, PV.v.injEq, Value.int.injEq, true_and, Int.ofNat_inj] at h2
    subst h2
    obtain ⟨k, cs, c, fz, g1, g2, g3, g4, g5, g6, g7, g8, g9⟩ := lookS_row hl hR ha hb
    rw [ev_len g1] at f2
    simp only [Option.some.injEq, PV.v.injEq, Value.int.injEq, true_and, Int.ofNat_inj] at f2
    subst f2
    rw [isC0_ok (aSliceS_c0 hs)] at h1
    simp only [Option.some.injEq, PV.v.injEq, Value.int.injEq, true_and] at h1
    have hl0 : l = 0 := by omega
    subst hl0
    have := maxLen_le g8
    omega
  · cases h

/-! A part of a thing. -/
def aPartD (P : Program) (st : St) (t : TypeId) (x : AV) (lo hi mx : Option AV) : Option (AV × St × Log) := match P.underlying t, x, mx with
  | some (.slice el), .dat r, none => (tySize P el).bind fun sz => (st.heap.get r).bind fun o => o.dat.bind fun e => (loX lo).bind fun le => (hiX (.len e) hi).bind fun he => cond (Nat.blt 0 sz && Nat.blt (st.next + 1) 16777215)
      (some (.dat st.next, st.dats [(.sub e le he sz, o.ro)], ⟨(1 <<< r) ||| maskFrom st.next 1, maskFrom st.next 1, [.le3 le he (.len e)]⟩)) none
  | _, _, _ => none
theorem ev_subrow {e lo hi : SX} {n a b sz : Nat} {cs : List PV} (h : W0.ev e = some (.row n cs)) (h1 : W0.ev lo = some (.v (.int .i64 (a : Int)))) (h2 : W0.ev hi = some (.v (.int .i64 (b : Int)))) (hab : a ≤ b) (hb : b ≤ n) : W0.ev (.sub e lo hi sz) = some (.row (b - a) ((cs.drop (a * sz)).take ((b - a) * sz))) := by
  have h' : e.ev W0.s W0.F = some (.row n cs) := h
  have h1' : lo.ev W0.s W0.F = some (.v (.int .i64 (a : Int))) := h1
  have h2' : hi.ev W0.s W0.F = some (.v (.int .i64 (b : Int))) := h2
  have q1 : (0 : Int) ≤ (a : Int) := by omega
  have q2 : (a : Int) ≤ (b : Int) := by omega
  have q3 : (b : Int) ≤ (n : Int) := by omega
  simp only [Base.ev, SX.ev, h', h1', h2', Option.bind_some, subPV, q1, q2, q3, decide_true, Bool.and_self, cond_true, Int.toNat_natCast]
theorem aPartD_ok {P : Program} {st st' : St} {t : TypeId} {x y : AV} {lo hi mx : Option AV} {lg : Log} {A : Nat → Prop} {m : Map} {w : World} {u : Value} {vlo vhi vmx : Option Value} (h : aPartD P st t x lo hi mx = some (y, st', lg)) (hA : lg.Fits W0 A)
    (hR : Rel W0 A m st.heap.get w) (hF : Fresh A m st.next) (hx : x.den m = some u) (hlo : denO m lo = some vlo) (hhi : denO m hi = some vhi) (hmx : denO m mx = some vmx) : ∃ m', Ok W0 A m st w m' st' lg w ∧ ∃ v, y.den m' = some v ∧ (Instr.sliceAt t u vlo vhi vmx).run P w = .ok v w := by
  unfold aPartD at h
  split at h
  · rename_i el r hu
    simp only [Option.bind_eq_some_iff] at h
    obtain ⟨sz, hs, oo, hoo, e, hr, le, hle, he, hhe, h⟩ := h
    simp only [cond_eq_ite, Bool.and_eq_true, Nat.blt_eq] at h
    split at h
    · rename_i hc
      cases h
      simp only [denO, Option.some.injEq] at hmx
      subst hmx
      obtain ⟨a, b, c, f1, f2, f3, f4, f5⟩ := hA.2 (.le3 le he (.len e)) (by simp)
      have hAr : A r := hA.1 r (bit_or_l ((bit_one _ _).2 rfl))
      have hAn : ∀ k, st.next ≤ k → k < st.next + 1 → A k := fun k h1 h2 => hA.1 k (bit_or_r ((maskFrom_bit _ _ _).2 ⟨h1, h2⟩))
      obtain ⟨oo', u0, fp, p, ho, hd, hm, hou, hlt, hfpb, hp, hrd⟩ := thing hR (Option.bind_eq_some_iff.2 ⟨oo, hoo, hr⟩) hAr
      rw [hoo] at ho
      cases ho
      simp only [AV.den, hm, Option.bind_some, hou, cond_true, Option.some.injEq] at hx
      subst hx
      have hrow : ∃ n cs, p = .row n cs := by
        have f3' := f3
        have hp' : e.ev W0.s W0.F = some p := hp
        simp only [Base.ev, SX.ev, hp', Option.bind_some] at f3'
        cases p with
        | v y => simp [lenPV] at f3'
        | row n cs => exact ⟨n, cs, rfl⟩
      obtain ⟨n, cs, rfl⟩ := hrow
      rw [ev_len hp] at f3
      simp only [Option.some.injEq, PV.v.injEq, Value.int.injEq, true_and, Int.ofNat_inj] at f3
      subst f3
      have h0 := hrd w (fun _ _ => rfl)
      simp only [Reads] at h0
      obtain ⟨aa, cap, rfl, c1, c2, _⟩ := h0
      have hbo := bounds3 (P := P) (cap := cap) (loX_ok hR.sv hle hlo f1) (hiX_ok hR.sv hhe hhi f2 (ev_len hp)) f4 f5 c1 w
      let res : Value := .slice (if cap = a then aa else aa.map (·.add (a * sz))) (b - a) (cap - a)
      have hrun : (Instr.sliceAt t (.slice aa n cap) vlo vhi none).run P w = .ok res w := by
        simp [Instr.sliceAt, Instr.slice, run_underlying hu, hbo, run_sizeOf_eng hs, res]
      have hev : W0.ev (.sub e le he sz) = some (.row (b - a) ((cs.drop (a * sz)).take ((b - a) * sz))) := ev_subrow hp f1 f2 f4 f5
      have hreads : ∀ w2 : World, (∀ k, fp k → w2.heap[k]? = w.heap[k]?) → Reads w2 (.row (b - a) ((cs.drop (a * sz)).take ((b - a) * sz))) res := fun w2 hw2 => by
        have h := hrd w2 hw2
        simp only [Reads] at h
        obtain ⟨aa', cap', he', _, _, h6⟩ := h
        cases he'
        simp only [Reads, res]
        refine ⟨_, _, rfl, by omega, by omega, ?_⟩
        by_cases hne : (cs.drop (a * sz)).take ((b - a) * sz) = []
        · exact .inl hne
        · right
          have hab : a < b := by
            rcases Nat.lt_or_ge a b with h | h
            · exact h
            · have : b - a = 0 := by omega
              rw [this] at hne
              simp at hne
          rcases h6 with h6 | ⟨blk, off, rfl, h6⟩
          · rw [h6] at hne; simp at hne
          · refine ⟨blk, off + a * sz, by rw [if_neg (by omega)]; simp [addr_add], ReadsL.of fun j q hq => ?_⟩
            have hj : j < (b - a) * sz := by
              have := (List.getElem?_eq_some_iff.1 hq).1
              simp only [List.length_take] at this
              omega
            rw [List.getElem?_take, if_pos hj, List.getElem?_drop] at hq
            have := ReadsL.at h6 hq
            rwa [← Nat.add_assoc] at this
      obtain ⟨m', hok, hd', _⟩ := addDats (lg := ⟨(1 <<< r) ||| maskFrom st.next 1, maskFrom st.next 1, [.le3 le he (.len e)]⟩) hR hF (Ex.refl w) [(.sub e le he sz, oo.ro)] [res] (fun _ => fp) rfl rfl (by simp; omega) (fun k h1 h2 => hAn k h1 (by simpa using h2)) (by
        intro j e' u' h1 h2
        match j, h1, h2 with
        | 0, h1, h2 =>
          simp only [List.getElem?_cons_zero, Option.some.injEq] at h1 h2
          subst h1
          subst h2
          exact ⟨rfl, fun k hk => ⟨hlt k hk, fun hro => hfpb hro k hk, fun _ => ⟨r, oo, e, _, fp, hAr, hoo, hd, hm, hk⟩⟩, fun w2 hw2 => ⟨_, hev, hreads w2 hw2⟩⟩
        | j + 1, h1, h2 => simp at h1)
      refine ⟨m', hok, res, ?_, hrun⟩
      have := hd' 0 res rfl
      rw [Nat.add_zero] at this
      simp only [AV.den, this, Option.bind_some]
      rfl
    · cases h
  · cases h

/-! One operation on a row of the call's own. -/
def aopC (P : Program) (o : Oper) (c : Call) (x : AAct) (st : St) : Option (AN × St × Log) := match c.callee with
  | .builtin .append => match c.argTypes.toList, c.args.toList with
    | [t, tx], [s, y] => (ev x s).bind fun a => (ev x y).bind fun b => (aAppendO P st t tx a b).map fun (z, st', lg) => (.value z, st', lg)
    | _, _ => none
  | .builtin .copy => match c.argTypes.toList, c.args.toList with
    | [t, tx], [s, y] => (ev x s).bind fun a => (ev x y).bind fun b => (aCopyS P st t tx a b).map fun (z, st', lg) => (.value z, st', lg)
    | _, _ => none
  | .builtin .len => match c.argTypes.toList, c.args.toList with
    | [t], [s] => (ev x s).bind fun a => match P.underlying t, a with
      | some (.slice _), .sliceS r v lo len sz => some (.value (.sym len), st, Log.no)
      | _, _ => none
    | _, _ => none
  | .builtin .max => match c.args.toList with
    | [s, y] => (ev x s).bind fun a => (ev x y).bind fun b => a.sx.bind fun ea => b.sx.map fun eb => (.value (.sym (.rop .max2 [ea, eb])), st, Log.says (.ok (.rop .max2 [ea, eb])))
    | _ => none
  | .builtin .min => match c.args.toList with
    | [s, y] => (ev x s).bind fun a => (ev x y).bind fun b => a.sx.bind fun ea => b.sx.map fun eb => (.value (.sym (.rop .min2 [ea, eb])), st, Log.says (.ok (.rop .min2 [ea, eb])))
    | _ => none
  | _ => none
theorem ropInts {o : ROp} (ho : o = .max2 ∨ o = .min2) {ea eb : SX} {va vb : Value} (h : (Fact.ok (.rop o [ea, eb])).holds W0) (ha : W0.ev ea = some (.v va)) (hb : W0.ev eb = some (.v vb)) : ∃ k k' x y, va = .int k x ∧ vb = .int k' y ∧ W0.ev (.rop o [ea, eb]) = some (.v (.int k (match o with | .max2 => max x y | _ => min x y))) := by
  obtain ⟨v, hv, _⟩ := h
  have ha' : ea.ev W0.s W0.F = some (.v va) := ha
  have hb' : eb.ev W0.s W0.F = some (.v vb) := hb
  have hv2 := hv
  rcases ho with rfl | rfl <;> simp only [Base.ev, SX.ev, evs, ha', hb', Option.bind_some, Option.map_some] at hv2 ⊢ <;> cases va <;> cases vb <;> simp [ropPV] at hv2 ⊢ <;> exact ⟨_, _, _, ⟨rfl, rfl⟩, _, ⟨rfl, rfl⟩, rfl, rfl⟩
def aopO (P : Program) (o : Oper) (x : AAct) (st : St) : Option (AN × St × Log) := match o.op with
  | .load t a => (ev x a).bind fun q => (aLoadS P st t q).map fun (y, lg) => (.value y, st, lg)
  | .store t a b => (ev x a).bind fun p => (ev x b).bind fun q => (aStoreS P st t p q).map fun (st', lg) => (.value (.val undef), st', lg)
  | .indexAddr t a i => (ev x a).bind fun q => (ev x i).bind fun j => (aIdxS P t q j).map fun (y, lg) => (.value y, st, lg)
  | .makeSlice t l c => (ev x l).bind fun a => (ev x c).bind fun b => (aMakeS P st t a b).map fun (y, st', lg) => (.value y, st', lg)
  | .convert s d a => (ev x a).bind fun q => match aStrO P st s d q with
    | some (y, st', lg) => some (.value y, st', lg)
    | none => (aBytesS P st s d q).map fun (y, st', lg) => (.value y, st', lg)
  | .slice t a lo hi mx => (ev x a).bind fun q => (evO x lo).bind fun l => (evO x hi).bind fun h => (evO x mx).bind fun n => match aPartS P st t q l h n with
    | some (y, lg) => some (.value y, st, lg)
    | none => (aPartD P st t q l h n).map fun (y, st', lg) => (.value y, st', lg)
  | .call c => aopC P o c x st
  | _ => none
theorem aopO_ok {P : Program} (hN : GoodP P) {o : Oper} {x : AAct} {a : Act} {st st' : St} {n : AN} {lg : Log} {A : Nat → Prop} {m : Map} {w : World} (h : aopO P o x st = some (n, st', lg)) (hA : lg.Fits W0 A) (hT : TRel m x a) (hR : Rel W0 A m st.heap.get w) (hF : Fresh A m st.next) :
    ∃ m' w', Ok W0 A m st w m' st' lg w' ∧ Meets P m' (execOp a.eval o) w w' n := by
  unfold aopO at h
  split at h
  · rename_i t y ho
    simp only [Option.bind_eq_some_iff, Option.map_eq_some_iff] at h
    obtain ⟨q, hq, ⟨z, l1⟩, hl, he⟩ := h
    cases he
    obtain ⟨v, hv, hrun⟩ := aLoadS_ok hl hA hR (ev_ok hT hq)
    exact ⟨m, w, Ok.refl hR hF, v, hv, .inl (by simp [execOp, ho, hrun])⟩
  · rename_i t y z ho
    simp only [Option.bind_eq_some_iff, Option.map_eq_some_iff] at h
    obtain ⟨p, hp, q, hq, ⟨s1, l1⟩, hs, he⟩ := h
    cases he
    obtain ⟨m', w', hrun, hok⟩ := aStoreS_ok hs hA hR hF (ev_ok hT hp) (ev_ok hT hq)
    exact ⟨m', w', hok, undef, rfl, .inr ⟨rfl, by simp [execOp, ho, hrun]⟩⟩
  · rename_i t y i ho
    simp only [Option.bind_eq_some_iff, Option.map_eq_some_iff] at h
    obtain ⟨q, hq, j, hj, ⟨z, l1⟩, hs, he⟩ := h
    cases he
    obtain ⟨v, hv, hrun⟩ := aIdxS_ok hs hA hR (ev_ok hT hq) (ev_ok hT hj)
    exact ⟨m, w, Ok.refl hR hF, v, hv, .inl (by simp [execOp, ho, hrun])⟩
  · rename_i t l c ho
    simp only [Option.bind_eq_some_iff, Option.map_eq_some_iff] at h
    obtain ⟨p, hp, q, hq, ⟨y, s1, l1⟩, hy, he⟩ := h
    cases he
    obtain ⟨m', w', v, hv, hrun, hok⟩ := aMakeS_ok hy hA hR hF (ev_ok hT hp) (ev_ok hT hq)
    exact ⟨m', w', hok, v, hv, .inl (by simp [execOp, ho, hrun])⟩
  · rename_i s d y ho
    simp only [Option.bind_eq_some_iff] at h
    obtain ⟨q, hq, h⟩ := h
    split at h
    · rename_i z s1 lg' hz
      simp only [Option.some.injEq, Prod.mk.injEq] at h
      obtain ⟨rfl, rfl, rfl⟩ := h
      obtain ⟨m', v, hv, hrun, hok⟩ := aStrO_ok hz hA hR hF (ev_ok hT hq)
      exact ⟨m', w, hok, v, hv, .inl (by simp [execOp, ho, hrun])⟩
    · simp only [Option.map_eq_some_iff] at h
      obtain ⟨⟨z, s1, l1⟩, hz, he⟩ := h
      cases he
      obtain ⟨m', w', v, hv, hrun, hok⟩ := aBytesS_ok hz hA hR hF (ev_ok hT hq)
      exact ⟨m', w', hok, v, hv, .inl (by simp [execOp, ho, hrun])⟩
  · rename_i t y lo hi mx ho
    simp only [Option.bind_eq_some_iff] at h
    obtain ⟨q, hq, l, hl, hh, hhh, k, hk, h⟩ := h
    split at h
    · rename_i z lg' hz
      simp only [Option.some.injEq, Prod.mk.injEq] at h
      obtain ⟨rfl, rfl, rfl⟩ := h
      obtain ⟨v, hv, hrun⟩ := aPartS_ok hz hA hR (ev_ok hT hq) (evO_ok hT hl) (evO_ok hT hhh) (evO_ok hT hk)
      exact ⟨m, w, Ok.refl hR hF, v, hv, .inl (by simp [execOp, ho, hrun])⟩
    · simp only [Option.map_eq_some_iff] at h
      obtain ⟨⟨z, s1, l1⟩, hz, he⟩ := h
      cases he
      obtain ⟨m', hok, v, hv, hrun⟩ := aPartD_ok hz hA hR hF (ev_ok hT hq) (evO_ok hT hl) (evO_ok hT hhh) (evO_ok hT hk)
      exact ⟨m', w, hok, v, hv, .inl (by simp [execOp, ho, hrun])⟩
  · rename_i c ho
    have hex : execOp a.eval o = (do let d ← resolve a.eval c o.type; invoke d.target d.args) := by unfold execOp; rw [ho]
    have hbu : ∀ b, c.callee = .builtin b → ∃ cs, execOp a.eval o = builtin b c.argTypes o.type cs (c.args.map a.eval) := fun b hb => by
      rw [hex]; unfold resolve; rw [hb]; exact ⟨_, rfl⟩
    unfold aopC at h
    split at h
    · rename_i hc
      obtain ⟨cs, hcs⟩ := hbu _ hc
      split at h
      · rename_i t tx s y hat har
        simp only [Option.bind_eq_some_iff, Option.map_eq_some_iff] at h
        obtain ⟨p, hp, q, hq, ⟨z, s1, l1⟩, hap, he⟩ := h
        cases he
        have e1 : c.argTypes = #[t, tx] := by apply Array.ext'; simpa using hat
        have e2 : c.args = #[s, y] := by apply Array.ext'; simpa using har
        obtain ⟨m', w', v, hv, hrun, hok⟩ := aAppendO_ok (ty := o.type) hap hA hR hF (ev_ok hT hp) (ev_ok hT hq)
        refine ⟨m', w', hok, v, hv, .inl ?_⟩
        rw [hcs, e1, e2]
        simpa [builtin] using run_v hrun
      · cases h
    · rename_i hc
      obtain ⟨cs, hcs⟩ := hbu _ hc
      split at h
      · rename_i t tx s y hat har
        simp only [Option.bind_eq_some_iff, Option.map_eq_some_iff] at h
        obtain ⟨p, hp, q, hq, ⟨z, s1, l1⟩, hap, he⟩ := h
        cases he
        have e1 : c.argTypes = #[t, tx] := by apply Array.ext'; simpa using hat
        have e2 : c.args = #[s, y] := by apply Array.ext'; simpa using har
        obtain ⟨m', w', v, hv, hrun, hok⟩ := aCopyS_ok (ty := o.type) (tx := tx) hap hA hR hF (ev_ok hT hp) (ev_ok hT hq)
        refine ⟨m', w', hok, v, hv, .inl ?_⟩
        rw [hcs, e1, e2]
        simpa [builtin] using run_v hrun
      · cases h
    · rename_i hc
      obtain ⟨cs, hcs⟩ := hbu _ hc
      split at h
      · rename_i t s hat har
        simp only [Option.bind_eq_some_iff] at h
        obtain ⟨p, hp, h⟩ := h
        split at h
        · rename_i e r v lo len sz hu
          simp only [Option.some.injEq, Prod.mk.injEq] at h
          obtain ⟨rfl, rfl, rfl⟩ := h
          have e1 : c.argTypes = #[t] := by apply Array.ext'; simpa using hat
          have e2 : c.args = #[s] := by apply Array.ext'; simpa using har
          obtain ⟨b, l, nn, hb, h1, h2, hv⟩ := sliceS_inv hR.sv (ev_ok hT hp)
          refine ⟨m, w, Ok.refl hR hF, _, ev_sym hR.sv h2 rfl, .inl ?_⟩
          rw [hcs, e1, e2]
          simp [builtin, Builtin.len_, hv, run_underlying hu, goInt]
        · cases h
      · cases h
    · rename_i hc
      obtain ⟨cs, hcs⟩ := hbu _ hc
      split at h
      · rename_i s y har
        simp only [Option.bind_eq_some_iff, Option.map_eq_some_iff] at h
        obtain ⟨p, hp, q, hq, ea, hea, eb, heb, he⟩ := h
        cases he
        have e2 : c.args = #[s, y] := by apply Array.ext'; simpa using har
        obtain ⟨k, k', xx, yy, g1, g2, g3⟩ := ropInts (.inl rfl) (hA.2 _ (List.mem_singleton.2 rfl)) (sx_ok hR.sv p hea (ev_ok hT hp)) (sx_ok hR.sv q heb (ev_ok hT hq))
        refine ⟨m, w, Ok.refl hR hF, _, ev_sym hR.sv g3 rfl, .inl ?_⟩
        rw [hcs, e2]
        simp [builtin, g1, g2, Lib.run_max_ints]
      · cases h
    · rename_i hc
      obtain ⟨cs, hcs⟩ := hbu _ hc
      split at h
      · rename_i s y har
        simp only [Option.bind_eq_some_iff, Option.map_eq_some_iff] at h
        obtain ⟨p, hp, q, hq, ea, hea, eb, heb, he⟩ := h
        cases he
        have e2 : c.args = #[s, y] := by apply Array.ext'; simpa using har
        obtain ⟨k, k', xx, yy, g1, g2, g3⟩ := ropInts (.inr rfl) (hA.2 _ (List.mem_singleton.2 rfl)) (sx_ok hR.sv p hea (ev_ok hT hp)) (sx_ok hR.sv q heb (ev_ok hT hq))
        refine ⟨m, w, Ok.refl hR hF, _, ev_sym hR.sv g3 rfl, .inl ?_⟩
        rw [hcs, e2]
        simp [builtin, g1, g2, Lib.run_min_ints]
      · cases h
    · cases h
  · cases h

/-- Where an element lies that is not known, of a row whose cells are known: it is turned into one of the other kind first. -/
def aopI (P : Program) (o : Oper) (x : AAct) (st : St) : Option (AN × St × Log) := match o.op with
  | .indexAddr t a i => (ev x a).bind fun q => (ev x i).bind fun j => (symOf st q).bind fun (q', s1, l1) => (aIdxS P t q' j).map fun (y, l2) => (.value y, s1, l1.or l2)
  | _ => none
theorem aopI_ok {P : Program} {o : Oper} {x : AAct} {a : Act} {st st' : St} {n : AN} {lg : Log} {A : Nat → Prop} {m : Map} {w : World} (h : aopI P o x st = some (n, st', lg)) (hA : lg.Fits W0 A) (hT : TRel m x a) (hR : Rel W0 A m st.heap.get w) (hF : Fresh A m st.next) :
    ∃ m' w', Ok W0 A m st w m' st' lg w' ∧ Meets P m' (execOp a.eval o) w w' n := by
  unfold aopI at h
  split at h
  · rename_i t y i ho
    simp only [Option.bind_eq_some_iff, Option.map_eq_some_iff] at h
    obtain ⟨q, hq, j, hj, ⟨q', s1, l1⟩, hsy, ⟨z, l2⟩, hs, he⟩ := h
    cases he
    obtain ⟨m', hx', hok⟩ := symOf_ok hsy (or_A hA).1 hR hF (ev_ok hT hq)
    obtain ⟨v, hv, hrun⟩ := aIdxS_ok hs (or_A hA).2 hok.rel hx' (AV.den_mono hok.ext _ (ev_ok hT hj))
    exact ⟨m', w, hok.more (fun r hr => bit_or_l hr), v, hv, .inl (by simp [execOp, ho, hrun])⟩
  · cases h
/-- One operation. -/
def aopH (P : Program) (H : Option Hint) (o : Oper) (x : AAct) (st : St) : Option (AN × St × Log) := match H with
  | some .stop => none
  | some .lazy => match aop P o x st with
    | some r => some r
    | none => match aopO P o x st with
      | some r => some r
      | none => aopS P o x st
  | some .own => match aopO P o x st with
    | some r => decB P o r
    | none => match aopI P o x st with
      | some r => decB P o r
      | none => match aop P o x st with
        | some r => decB P o r
        | none => (aopS P o x st).bind (decB P o)
  | none => match aop P o x st with
    | some r => decB P o r
    | none => match aopO P o x st with
      | some r => decB P o r
      | none => (aopS P o x st).bind (decB P o)
theorem aopH_ok {P : Program} (hN : GoodP P) {H : Option Hint} {o : Oper} {x : AAct} {a : Act} {st st' : St} {n : AN} {lg : Log} {A : Nat → Prop} {m : Map} {w : World} (h : aopH P H o x st = some (n, st', lg)) (hA : lg.Fits W0 A) (hT : TRel m x a) (hR : Rel W0 A m st.heap.get w) (hF : Fresh A m st.next) :
    ∃ m' w', Ok W0 A m st w m' st' lg w' ∧ Meets P m' (execOp a.eval o) w w' n := by
  unfold aopH at h
  split at h
  · cases h
  · split at h
    · rename_i r hr
      cases h
      exact aop_ok hN hr hA hT hR hF
    · split at h
      · rename_i r hr
        cases h
        exact aopO_ok hN hr hA hT hR hF
      · exact aopS_ok hN h hA hT hR hF
  · split at h
    · rename_i r hr
      obtain ⟨n1, s1, l1⟩ := r
      exact decB_ok h hA (fun hA1 => aopO_ok hN hr hA1 hT hR hF)
    · split at h
      · rename_i r hr
        obtain ⟨n1, s1, l1⟩ := r
        exact decB_ok h hA (fun hA1 => aopI_ok hr hA1 hT hR hF)
      · split at h
        · rename_i r hr
          obtain ⟨n1, s1, l1⟩ := r
          exact decB_ok h hA (fun hA1 => aop_ok hN hr hA1 hT hR hF)
        · simp only [Option.bind_eq_some_iff] at h
          obtain ⟨⟨n1, s1, l1⟩, hr, h⟩ := h
          exact decB_ok h hA (fun hA1 => aopS_ok hN hr hA1 hT hR hF)
  · split at h
    · rename_i r hr
      obtain ⟨n1, s1, l1⟩ := r
      exact decB_ok h hA (fun hA1 => aop_ok hN hr hA1 hT hR hF)
    · split at h
      · rename_i r hr
        obtain ⟨n1, s1, l1⟩ := r
        exact decB_ok h hA (fun hA1 => aopO_ok hN hr hA1 hT hR hF)
      · simp only [Option.bind_eq_some_iff] at h
        obtain ⟨⟨n1, s1, l1⟩, hr, h⟩ := h
        exact decB_ok h hA (fun hA1 => aopS_ok hN hr hA1 hT hR hF)
end Go.Proofs.Ytfcdbknmajfkaaa.eng
