/- The engine: hints: what an operation on unknown numbers comes to, for which something is then owed. -/
import Derived.Test.YteohdkilgigomaaEng8
namespace Go.Proofs.Yteohdkilgigomaa.eng
open Go
variable {W0 : World}
set_option linter.unusedVariables false
set_option linter.unusedSimpArgs false

inductive Hint where
  /-- the value is this one -/
  | is (y : AV)
  /-- of operands without places -/
  | pure (v : Value)
  /-- a load of what lay there ahead -/
  | amb (v : Value)
  /-- the e-th of a slice of the call's own -/
  | idx (e : Nat)
  /-- the cell, or the cells, that are loaded -/
  | cell (y : AV)
  | cells (ys : List AV)
  /-- how long a slice is of which something is known -/
  | lenD (n : Nat)
  /-- where its e-th element lies -/
  | elemD (e : Nat)
  /-- what is loaded out of it -/
  | byD (v : Value)

def LoadsTo (P : Program) (W0 : World) (t : TypeId) (u v : Value) : Prop := ∀ w : World, W0.heap.size ≤ w.heap.size → (∀ k, k < W0.heap.size → w.heap[k]? = W0.heap[k]?) → (Instr.loadAt t u).run P w = .ok v w
def owed (n : AN) (st : St) (lg : Log) (p : World → Prop) : AN × St × Log := (n, st, (Log.says p).or lg)

def hintD (P : Program) (h : Hint) (o : Oper) (x : AAct) (st : St) : Option (AN × St × Log) := match h with
  | .lenD n => match o.op with
    | .call { callee := .builtin .len, args, argTypes } => match argTypes.toList, args.toList with
      | [t], [s] => (ev x s).bind fun q => match P.underlying t, q with
        | some (.slice _), .dat r => ((st.heap.get r).bind (·.dat)).map fun R => owed (.value (.val (.int .i64 n))) st (Log.sees r) fun _ => ∀ w u, R w u → ∃ a cap, u = .slice a n cap
        | _, _ => none
      | _, _ => none
    | _ => none
  | .elemD e => match o.op with
    | .indexAddr t a i => (ev x a).bind fun q => (ev x i).bind fun j => match P.underlying t, q, j with
      | some (.slice el), .dat r, .val (.int k z) => (tySize P el).bind fun sz => ((st.heap.get r).bind (·.dat)).map fun R => owed (.value (.ptrD r e sz 0)) st (Log.sees r) fun _ => z = (e : Int) ∧ ∀ w u, R w u → ∃ b off n cap, u = .slice (some ⟨b, off, none⟩) n cap ∧ e < n
      | _, _, _ => none
    | _ => none
  | .byD v => match o.op with
    | .load t a => (ev x a).bind fun q => match q with
      | .ptrD r e sz sub => ((st.heap.get r).bind (·.dat)).map fun R => owed (.value (.val v)) st (Log.sees r) fun _ => ∀ w b off n cap, R w (.slice (some ⟨b, off, none⟩) n cap) → (Instr.loadAt t (.pointer (some ⟨b, off + (e * sz + sub), none⟩))).run P w = .ok v w
      | _ => none
    | _ => none
  | _ => none

def hintA (P : Program) (h : Hint) (o : Oper) (x : AAct) (st : St) : Option (AN × St × Log) := match h with
  | .is y => (aop P o x st).bind fun (n, st', lg) => match n with
    | .value z => some (owed (.value y) st' lg fun _ => z = y)
    | _ => none
  | .pure v => cond (Op.isSelect o.op) none (cond (plainAll x o.op.operands.toList) (some (owed (.value (.val v)) st Log.no fun _ => ∀ w, (execOp (plainD x) o).run P w = .ok (.value v) w)) none)
  | .amb v => match o.op with
    | .load t a => (plain x a).map fun u => owed (.value (.val v)) st Log.no fun W0 => LoadsTo P W0 t u v
    | _ => none
  | .idx e => match o.op with
    | .indexAddr t a i => (ev x a).bind fun q => (ev x i).bind fun j => match P.underlying t, q, j with
      | some (.slice el), .slice r v lo sz len cap opn, .val (.int k z) => cond (tySize P el == some sz) (some (owed (.value (.ptr r v (lo + e) sz 0)) st Log.no fun _ => z = (e : Int) ∧ e < len)) none
      | _, _, _ => none
    | _ => none
  | .cell y => match o.op with
    | .load t a => (ev x a).bind fun q => match q with
      | .ptr r v idx sz sub => (look st r v).bind fun (o, n) => (tyAgg P t).bind fun ag => cond ag none (some (owed (.value y) st (Log.sees r) fun _ => idx * sz + sub + 1 ≤ n ∧ o.cells[idx * sz + sub]? = some y))
      | _ => none
    | _ => none
  | .cells ys => match o.op with
    | .load t a => (ev x a).bind fun q => match q with
      | .ptr r v idx sz sub => (look st r v).bind fun (o, n) => (tyAgg P t).bind fun ag => cond ag ((tySize P t).bind fun k => some (owed (.value (.agg ys)) st (Log.sees r) fun _ => idx * sz + sub + k ≤ n ∧ cellsAt o (idx * sz + sub) k = ys)) none
      | _ => none
    | _ => none
  | h => hintD P h o x st

theorem owed_ok {n : AN} {st : St} {lg : Log} {p : World → Prop} {n' : AN} {st' : St} {lg' : Log} (h : owed n st lg p = (n', st', lg')) {A : Nat → Prop} (hA : lg'.Fits W0 A) : n' = n ∧ st' = st ∧ lg.Fits W0 A ∧ p W0 ∧ ∀ r, bit lg.T r → bit lg'.T r := by
  simp only [owed, Prod.mk.injEq] at h
  obtain ⟨rfl, rfl, rfl⟩ := h
  exact ⟨rfl, rfl, (or_A hA).2, (or_A hA).1.2 p (by simp [Log.says]), fun r hr => bit_or_r hr⟩

theorem hintD_ok {P : Program} {hh : Hint} {o : Oper} {x : AAct} {a : Act} {st st' : St} {n : AN} {lg : Log} {A : Nat → Prop} {m : Map} {w : World} (h : hintD P hh o x st = some (n, st', lg)) (hA : lg.Fits W0 A) (hT : TRel m x a) (hR : Rel W0 A m st.heap.get w) (hF : Fresh A m st.next) :
    ∃ m' w', Ok W0 A m st w m' st' lg w' ∧ Meets P m' (execOp a.eval o) w w' n := by
  have fact : ∀ r R, ((st.heap.get r).bind (·.dat)) = some R → A r → ∃ u fp, m.d r = some (u, fp) ∧ u.oneCell' = true ∧ R w u := by
    intro r R hr ha
    obtain ⟨o, ho, hd⟩ := Option.bind_eq_some_iff.1 hr
    obtain ⟨v, fp, hm, hone, _, hR2⟩ := hR.dat r o R ha ho hd
    exact ⟨v, fp, hm, hone, hR2 w (fun _ _ => rfl)⟩
  unfold hintD at h
  split at h
  · rename_i k
    split at h
    · rename_i args argTypes ho
      split at h
      · rename_i t s hat har
        simp only [Option.bind_eq_some_iff] at h
        obtain ⟨q, hq, h⟩ := h
        split at h
        · rename_i el r hu
          simp only [Option.map_eq_some_iff] at h
          obtain ⟨R, hr, h⟩ := h
          obtain ⟨rfl, rfl, hf, hp, ht⟩ := owed_ok h hA
          obtain ⟨u, fp, hm, hone, hRw⟩ := fact r R hr (hf.1 r (by simp [Log.sees, bit_one]))
          obtain ⟨aa, cap, rfl⟩ := hp w u hRw
          have hx := ev_ok hT hq
          simp only [AV.den, hm, Option.bind_some, hone, cond_true, Option.some.injEq] at hx
          have e1 : argTypes = #[t] := by apply Array.ext'; simpa using hat
          have e2 : args = #[s] := by apply Array.ext'; simpa using har
          refine ⟨m, w, Ok.refl hR hF, _, rfl, .inl ?_⟩
          simp [execOp, ho, resolve, invoke, builtin, Builtin.len_, e1, e2, ← hx, run_underlying hu, goInt]
        · cases h
      · cases h
    · cases h
  · rename_i e
    split at h
    · rename_i t q i ho
      simp only [Option.bind_eq_some_iff] at h
      obtain ⟨qv, hq, jv, hj, h⟩ := h
      split at h
      · rename_i el r k z hu
        simp only [Option.bind_eq_some_iff, Option.map_eq_some_iff] at h
        obtain ⟨sz, hs, R, hr, h⟩ := h
        obtain ⟨rfl, rfl, hf, hp, ht⟩ := owed_ok h hA
        obtain ⟨u, fp, hm, hone, hRw⟩ := fact r R (Option.bind_eq_some_iff.2 hr) (hf.1 r (by simp [Log.sees, bit_one]))
        obtain ⟨rfl, hp⟩ := hp
        obtain ⟨b, off, nn, cap, rfl, hlt⟩ := hp w u hRw
        have hx := ev_ok hT hq
        have hi := ev_ok hT hj
        simp only [AV.den, Option.some.injEq] at hi
        simp only [AV.den, hm, Option.bind_some, hone, cond_true, Option.some.injEq] at hx
        refine ⟨m, w, Ok.refl hR hF, .pointer (some ⟨b, off + (e * sz + 0), none⟩), by simp [AV.den, hm, elemAt], .inl ?_⟩
        simp [execOp, ho, Instr.indexAt, asIntOf, ← hx, ← hi, run_underlying hu, hlt, run_sizeOf_eng hs, addr_add]
      · cases h
    · cases h
  · rename_i v
    split at h
    · rename_i t q ho
      simp only [Option.bind_eq_some_iff] at h
      obtain ⟨qv, hq, h⟩ := h
      split at h
      · rename_i r e sz sub
        simp only [Option.map_eq_some_iff] at h
        obtain ⟨R, hr, h⟩ := h
        obtain ⟨rfl, rfl, hf, hp, ht⟩ := owed_ok h hA
        obtain ⟨u, fp, hm, hone, hRw⟩ := fact r R hr (hf.1 r (by simp [Log.sees, bit_one]))
        have hx := ev_ok hT hq
        simp only [AV.den, hm, Option.bind_some] at hx
        unfold elemAt at hx
        split at hx
        · rename_i b off nn cap
          simp only [Option.some.injEq] at hx
          refine ⟨m, w, Ok.refl hR hF, v, rfl, .inl ?_⟩
          simp [execOp, ho, ← hx, hp w b off _ _ hRw]
        · cases hx
      · cases h
    · cases h
  · cases h

theorem hintA_ok {P : Program} (hN : namesOk P = true) {hh : Hint} {o : Oper} {x : AAct} {a : Act} {st st' : St} {n : AN} {lg : Log} {A : Nat → Prop} {m : Map} {w : World} (h : hintA P hh o x st = some (n, st', lg)) (hA : lg.Fits W0 A) (hT : TRel m x a) (hR : Rel W0 A m st.heap.get w) (hF : Fresh A m st.next) :
    ∃ m' w', Ok W0 A m st w m' st' lg w' ∧ Meets P m' (execOp a.eval o) w w' n := by
  unfold hintA at h
  split at h
  · simp only [Option.bind_eq_some_iff] at h
    obtain ⟨⟨n1, s1, l1⟩, hop, h⟩ := h
    cases n1 with
    | value z =>
      simp only [Option.some.injEq] at h
      obtain ⟨rfl, rfl, hf, hp, ht⟩ := owed_ok h hA
      obtain ⟨m', w', hok, hm⟩ := aop_ok hN hop hf hT hR hF
      subst hp
      exact ⟨m', w', hok.more ht, hm⟩
    | _ => cases h
  · rename_i v
    cases hs : Op.isSelect o.op with
    | true => simp [hs] at h
    | false =>
      cases hpl : plainAll x o.op.operands.toList with
      | false => simp [hs, hpl] at h
      | true =>
        simp only [hs, hpl, cond_true, cond_false, Option.some.injEq] at h
        obtain ⟨rfl, rfl, hf, hp, ht⟩ := owed_ok h hA
        refine ⟨m, w, Ok.refl hR hF, v, rfl, .inl ?_⟩
        rw [← hp w]
        congr 1
        refine execOp_congr o (fun cs b he => by rw [he] at hs; simp [Op.isSelect] at hs) (fun y hy => ?_)
        simp only [plainAll, List.all_eq_true] at hpl
        obtain ⟨u, hu⟩ := Option.isSome_iff_exists.1 (hpl y (by simpa using hy))
        rw [plain_ok hT hu, plainD, hu]
        rfl
  · rename_i v
    split at h
    · rename_i t q ho
      simp only [Option.map_eq_some_iff] at h
      obtain ⟨u, hu, h⟩ := h
      obtain ⟨rfl, rfl, hf, hp, ht⟩ := owed_ok h hA
      refine ⟨m, w, Ok.refl hR hF, v, rfl, .inl ?_⟩
      have := hp w hR.size0 hR.amb
      simp [execOp, ho, plain_ok hT hu, this]
    · cases h
  · rename_i e
    split at h
    · rename_i t q i ho
      simp only [Option.bind_eq_some_iff] at h
      obtain ⟨qv, hq, jv, hj, h⟩ := h
      split at h
      · rename_i el r v lo sz len cap opn k z hu
        simp only [cond_eq_ite, beq_iff_eq] at h
        split at h
        · rename_i hs
          simp only [Option.some.injEq] at h
          obtain ⟨rfl, rfl, hf, hp, ht⟩ := owed_ok h hA
          obtain ⟨rfl, hlt⟩ := hp
          have hx := ev_ok hT hq
          have hi := ev_ok hT hj
          simp only [AV.den, Option.some.injEq] at hi
          simp only [AV.den, Option.map_eq_some_iff] at hx
          obtain ⟨b, hb, hx⟩ := hx
          refine ⟨m, w, Ok.refl hR hF, .pointer (some ⟨b.1, (lo + e) * sz + 0, none⟩), by simp [AV.den, hb], .inl ?_⟩
          have h1 : (0 : Int) ≤ (e : Int) ∧ (e : Int) < (len : Int) := by omega
          simp [execOp, ho, Instr.indexAt, asIntOf, ← hx, ← hi, run_underlying hu, hlt, run_sizeOf_eng hs, addr_add, Nat.add_mul]
        · cases h
      · cases h
    · cases h
  · rename_i y
    split at h
    · rename_i t q ho
      simp only [Option.bind_eq_some_iff] at h
      obtain ⟨qv, hq, h⟩ := h
      split at h
      · rename_i r v idx sz sub
        simp only [Option.bind_eq_some_iff] at h
        obtain ⟨⟨oo, nn⟩, hl, ag, hag, h⟩ := h
        obtain ⟨hg, hv⟩ := look_ok hl
        cases ag with
        | true => simp at h
        | false =>
          simp only [cond_false, Option.some.injEq] at h
          obtain ⟨rfl, rfl, hf, hp, ht⟩ := owed_ok h hA
          have ha : A r := hf.1 r (by simp [Log.sees, bit_one])
          have hx := ev_ok hT hq
          simp only [AV.den, Option.map_eq_some_iff] at hx
          obtain ⟨b, hb, hx⟩ := hx
          obtain ⟨b', hb', hB⟩ := hR.blk r oo ha hg v nn hv
          rw [hb] at hb'; cases hb'
          obtain ⟨u, hu, hc⟩ := hB.cell hp.1 hp.2
          refine ⟨m, w, Ok.refl hR hF, u, hu, .inl ?_⟩
          simp [execOp, ho, ← hx, Instr.loadAt, Instr.sureAddr, loadVar, run_isAgg_eng hag, hc]
      · cases h
    · cases h
  · rename_i ys
    split at h
    · rename_i t q ho
      simp only [Option.bind_eq_some_iff] at h
      obtain ⟨qv, hq, h⟩ := h
      split at h
      · rename_i r v idx sz sub
        simp only [Option.bind_eq_some_iff] at h
        obtain ⟨⟨oo, nn⟩, hl, ag, hag, h⟩ := h
        obtain ⟨hg, hv⟩ := look_ok hl
        cases ag with
        | false => simp at h
        | true =>
          simp only [cond_true, Option.bind_eq_some_iff] at h
          obtain ⟨k, hk, h⟩ := h
          simp only [Option.some.injEq] at h
          obtain ⟨rfl, rfl, hf, hp, ht⟩ := owed_ok h hA
          have ha : A r := hf.1 r (by simp [Log.sees, bit_one])
          have hx := ev_ok hT hq
          simp only [AV.den, Option.map_eq_some_iff] at hx
          obtain ⟨b, hb, hx⟩ := hx
          obtain ⟨b', hb', hB⟩ := hR.blk r oo ha hg v nn hv
          rw [hb] at hb'; cases hb'
          obtain ⟨l, hd, _, hrun, _⟩ := hB.cells (P := P) hp.1
          rw [hp.2] at hd
          refine ⟨m, w, Ok.refl hR hF, .agg l.toArray, by simp [AV.den, hd], .inl ?_⟩
          simp [execOp, ho, ← hx, Instr.loadAt, Instr.sureAddr, loadVar, run_isAgg_eng hag, run_sizeOf_eng hk, hrun]
      · cases h
    · cases h
  · exact hintD_ok h hA hT hR hF

/-- One operation, by its hint if it has one. -/
def aopH (P : Program) (H : Option Hint) (o : Oper) (x : AAct) (st : St) : Option (AN × St × Log) := match H with
  | some h => hintA P h o x st
  | none => aop P o x st
theorem aopH_ok {P : Program} (hN : namesOk P = true) {H : Option Hint} {o : Oper} {x : AAct} {a : Act} {st st' : St} {n : AN} {lg : Log} {A : Nat → Prop} {m : Map} {w : World} (h : aopH P H o x st = some (n, st', lg)) (hA : lg.Fits W0 A) (hT : TRel m x a) (hR : Rel W0 A m st.heap.get w) (hF : Fresh A m st.next) :
    ∃ m' w', Ok W0 A m st w m' st' lg w' ∧ Meets P m' (execOp a.eval o) w w' n := by
  cases H with
  | none => exact aop_ok hN h hA hT hR hF
  | some hh => exact hintA_ok hN h hA hT hR hF
end Go.Proofs.Yteohdkilgigomaa.eng
