/- The engine: operations on numbers that are not known, and on things of which something is known. -/
import Derived.Test.YtfcdbknmajfkaaaEng8a
import Derived.Laws.Small
namespace Go.Proofs.Ytfcdbknmajfkaaa.eng
open Go Go.RowKit
variable {W0 : Base}
set_option linter.unusedVariables false
set_option linter.unusedSimpArgs false

/-- A hint: none is needed now; a run may be stopped by one. -/
inductive Hint where
  | stop
  /-- rows of the call's own are to be such of which is known what is in them -/
  | own
  /-- what truth it is is not asked -/
  | lazy

theorem plain_eq {p : PV} {x : Value} (h : p.plain = some x) : p = .v x := by
  cases p <;> simp [PV.plain] at h; subst h; rfl
theorem sv_ev {e : SX} {x : Value} (h : W0.sv e = some x) : W0.ev e = some (.v x) := by
  simp only [Base.sv, Option.bind_eq_some_iff] at h
  obtain ⟨p, hp, hx⟩ := h
  rw [plain_eq hx] at hp
  exact hp
theorem ev_sv {e : SX} {x : Value} (h : W0.ev e = some (.v x)) : W0.sv e = some x := by simp [Base.sv, h, PV.plain]
theorem sym_ev {m : Map} (hs : ∀ e, m.s e = W0.sv e) {e : SX} {v : Value} (h : (AV.sym e).den m = some v) : W0.ev e = some (.v v) ∧ v.oneCell' = true := by
  simp only [AV.den, Option.bind_eq_some_iff] at h
  obtain ⟨x, hx, h⟩ := h
  cases ho : x.oneCell' with
  | false => simp [ho] at h
  | true =>
    simp only [ho, cond_true, Option.some.injEq] at h
    subst h
    rw [hs] at hx
    exact ⟨sv_ev hx, ho⟩
theorem ev_sym {m : Map} (hs : ∀ e, m.s e = W0.sv e) {e : SX} {v : Value} (h : W0.ev e = some (.v v)) (ho : v.oneCell' = true) : (AV.sym e).den m = some v := by
  simp [AV.den, hs, ev_sv h, ho]

/-! A value without places, written down. -/
mutual
def AV.sx : AV → Option SX
  | .val v => some (.con v)
  | .sym e => some e
  | .agg cs => (sxL cs).map .agg
  | _ => none
def sxL : List AV → Option (List SX)
  | [] => some []
  | c :: cs => c.sx.bind fun e => (sxL cs).map (e :: ·)
end
mutual
theorem sx_ok {m : Map} (hs : ∀ e, m.s e = W0.sv e) : ∀ (x : AV) {e : SX} {v : Value}, x.sx = some e → x.den m = some v → W0.ev e = some (.v v)
  | .val u, e, v, h, hv => by
    simp only [AV.sx, Option.some.injEq] at h
    simp only [AV.den, Option.some.injEq] at hv
    subst h; subst hv
    simp [Base.ev, SX.ev]
  | .sym q, e, v, h, hv => by
    simp only [AV.sx, Option.some.injEq] at h
    subst h
    exact (sym_ev hs hv).1
  | .agg cs, e, v, h, hv => by
    simp only [AV.sx, Option.map_eq_some_iff] at h
    obtain ⟨es, hes, rfl⟩ := h
    simp only [AV.den, Option.map_eq_some_iff] at hv
    obtain ⟨vs, hvs, rfl⟩ := hv
    obtain ⟨ps, h1, h2⟩ := sxL_ok hs cs hes hvs
    simp [Base.ev, SX.ev, h1, h2]
  | .ptr .., e, v, h, hv => by simp [AV.sx] at h
  | .slice .., e, v, h, hv => by simp [AV.sx] at h
  | .dat _, e, v, h, hv => by simp [AV.sx] at h
  | .ptrD .., e, v, h, hv => by simp [AV.sx] at h
  | .sliceS .., e, v, h, hv => by simp [AV.sx] at h
  | .ptrS .., e, v, h, hv => by simp [AV.sx] at h
  | .tuple _, e, v, h, hv => by simp [AV.sx] at h
  | .func .., e, v, h, hv => by simp [AV.sx] at h
  | .iface .., e, v, h, hv => by simp [AV.sx] at h
theorem sxL_ok {m : Map} (hs : ∀ e, m.s e = W0.sv e) : ∀ (l : List AV) {es : List SX} {vs : List Value}, sxL l = some es → denL m l = some vs → ∃ ps, evs W0.s W0.F es = some ps ∧ plainL ps = some vs
  | [], es, vs, h, hv => by
    simp only [sxL, Option.some.injEq] at h
    simp only [denL, Option.some.injEq] at hv
    subst h; subst hv
    exact ⟨[], rfl, rfl⟩
  | c :: cs, es, vs, h, hv => by
    simp only [sxL, Option.bind_eq_some_iff, Option.map_eq_some_iff] at h
    obtain ⟨e, he, es', hes, rfl⟩ := h
    simp only [denL, Option.bind_eq_some_iff, Option.map_eq_some_iff] at hv
    obtain ⟨v, hv, vs', hvs, rfl⟩ := hv
    have h1 : e.ev W0.s W0.F = some (.v v) := sx_ok hs c he hv
    obtain ⟨ps, h2, h3⟩ := sxL_ok hs cs hes hvs
    exact ⟨.v v :: ps, by simp [evs, h1, h2], by simp [plainL, PV.plain, h3]⟩
end

def tmpsOf : List Operand → Option (List Nat)
  | [] => some []
  | .tmp t :: os => (tmpsOf os).map (t :: ·)
  | .global _ :: _ => none
  | _ :: os => tmpsOf os
def envA (x : AAct) : List Nat → Option (List AV)
  | [] => some []
  | t :: ts => (x.tm.get t).bind fun y => (envA x ts).map (y :: ·)
theorem envA_ok {m : Map} {x : AAct} {a : Act} (h : TRel m x a) : ∀ {ts : List Nat} {ys : List AV}, envA x ts = some ys → denL m ys = some (ts.map fun t => a.eval (.tmp t))
  | [], ys, hy => by simp [envA] at hy; subst hy; rfl
  | t :: ts, ys, hy => by
    simp only [envA, Option.bind_eq_some_iff, Option.map_eq_some_iff] at hy
    obtain ⟨y, hy, zs, hz, rfl⟩ := hy
    obtain ⟨v, hv, hg⟩ := h.get t y hy
    have : a.eval (.tmp t) = v := by simp [Act.eval, hg]
    simp [denL, hv, envA_ok h hz, this]
theorem lookT_ok (f : Nat → Value) : ∀ (ts : List Nat) (k : Nat), k ∈ ts → lookT ts (ts.map f) k = f k
  | [], k, h => by simp at h
  | t :: ts, k, h => by
    simp only [List.map_cons, lookT, cond_eq_ite, Nat.beq_eq]
    split
    · rename_i e; rw [e]
    · rename_i e
      rcases List.mem_cons.1 h with h | h
      · exact absurd h.symm e
      · exact lookT_ok f ts k h
theorem tmpsOf_ok {a : Act} : ∀ {os : List Operand} {ts : List Nat}, tmpsOf os = some ts → ∀ o ∈ os, ∀ us : List Nat, (∀ t ∈ ts, t ∈ us) → a.eval o = envR us (us.map fun t => a.eval (.tmp t)) o
  | [], ts, h, o, ho, us, hu => by simp at ho
  | p :: os, ts, h, o, ho, us, hu => by
    cases p with
    | tmp t =>
      simp only [tmpsOf, Option.map_eq_some_iff] at h
      obtain ⟨ts', ht, rfl⟩ := h
      rcases List.mem_cons.1 ho with rfl | ho
      · rw [envR, lookT_ok (fun t => a.eval (.tmp t)) us t (hu t (by simp))]
      · exact tmpsOf_ok ht o ho us (fun t h => hu t (by simp [h]))
    | const v =>
      rcases List.mem_cons.1 ho with rfl | ho
      · rfl
      · exact tmpsOf_ok (os := os) h o ho us hu
    | func f =>
      rcases List.mem_cons.1 ho with rfl | ho
      · rfl
      · exact tmpsOf_ok (os := os) h o ho us hu
    | global g => simp [tmpsOf] at h
def symOp : Op → Bool
  | .binOp .. | .unOp .. | .convert .. | .index .. | .field .. | .slice .. => true
  | .call { callee := .builtin .len, .. } | .call { callee := .builtin .min, .. } | .call { callee := .builtin .max, .. } => true
  | _ => false
def genX (o : Oper) (x : AAct) : Option SX := cond (symOp o.op) ((tmpsOf o.op.operands.toList).bind fun ts => (envA x ts).bind fun ys => (sxL ys).map fun es => .op o.op o.type ts es) none
def scalTy (P : Program) (t : TypeId) : Bool := match P.underlying t with | some (.int _) => true | some .string => true | _ => false
def binOk : BinOp → Bool | .shl | .shr => false | _ => true
/-- What an operation makes of numbers that are not known. -/
def symX (P : Program) (o : Oper) (x : AAct) : Option SX := match o.op with
  | .binOp op t a b _ => cond (scalTy P t && binOk op) ((ev x a).bind fun qa => (ev x b).bind fun qb => qa.sx.bind fun ea => qb.sx.map fun eb => .bin op ea eb) (match P.underlying t, op with
      | some .bool, .eql => (ev x a).bind fun qa => (ev x b).bind fun qb => qa.sx.bind fun ea => qb.sx.map fun eb => .rop .eqB [ea, eb]
      | some .bool, .neq => (ev x a).bind fun qa => (ev x b).bind fun qb => qa.sx.bind fun ea => qb.sx.map fun eb => .rop .neB [ea, eb]
      | _, _ => genX o x)
  | .convert s d a => match P.underlying s, P.underlying d with
    | some (.int _), some (.int k) => (ev x a).bind fun q => q.sx.map (.conv k)
    | _, _ => genX o x
  | .index t a i => match P.underlying t with
    | some .string => (ev x a).bind fun qa => (ev x i).bind fun qi => qa.sx.bind fun ea => qi.sx.map fun ei => .sidx ea ei
    | _ => genX o x
  | .call { callee := .builtin .len, args, argTypes } => match argTypes.toList, args.toList with
    | [t], [s] => match P.underlying t with
      | some .string => (ev x s).bind fun q => q.sx.map .slen
      | _ => genX o x
    | _, _ => genX o x
  | _ => genX o x
def aSym (P : Program) (o : Oper) (x : AAct) (st : St) : Option (AN × St × Log) := (symX P o x).map fun e => (.value (.sym e), st, Log.says (.ok e))
theorem execOp_bare (ρ : Operand → Value) (o : Oper) : execOp ρ o = execOp ρ { dst := none, op := o.op, type := o.type, pos := "", after := #[], guard := none } := by
  cases o; rfl
theorem opVal_ok {P : Program} {o : Op} {ty : TypeId} {ts : List Nat} {vs : List Value} {v : Value} (h : opVal P o ty ts vs = some v) : Op.isSelect o = false ∧ pureNext P (execOp (envR ts vs) { dst := none, op := o, type := ty, pos := "", after := #[], guard := none }) = some (.inl v) := by
  unfold opVal at h
  cases hs : Op.isSelect o with
  | true => simp [hs] at h
  | false =>
    simp only [hs, cond_false] at h
    refine ⟨rfl, ?_⟩
    split at h
    · rename_i u hu
      simp only [Option.some.injEq] at h
      subst h
      exact hu
    · cases h
theorem genX_ok {P : Program} (hN : GoodP P) {o : Oper} {x : AAct} {a : Act} {e : SX} {v : Value} {A : Nat → Prop} {m : Map} {g : Heap} {w : World} (h : genX o x = some e) (hT : TRel m x a) (hR : Rel W0 A m g w) (hv : W0.ev e = some (.v v)) : (execOp a.eval o).run P w = .ok (.value v) w := by
  unfold genX at h
  cases hs : symOp o.op with
  | false => simp [hs] at h
  | true =>
    simp only [hs, cond_true, Option.bind_eq_some_iff, Option.map_eq_some_iff] at h
    obtain ⟨ts, hts, ys, hys, es, hes, he⟩ := h
    cases he
    obtain ⟨ps, h1, h2⟩ := sxL_ok hR.sv ys hes (envA_ok hT hys)
    simp only [Base.ev, SX.ev, h1, h2, Option.bind_some, Option.map_eq_some_iff] at hv
    obtain ⟨v', hv', he⟩ := hv
    cases he
    obtain ⟨hsel, hp⟩ := opVal_ok hv'
    have := execOp_congr (ρ := a.eval) (ρ' := envR ts (ts.map fun t => a.eval (.tmp t))) o (fun cs b he => by rw [he] at hsel; simp [Op.isSelect] at hsel) (fun y hy => tmpsOf_ok hts y (by simpa using hy) ts (fun _ h => h))
    rw [this, execOp_bare, hN.2, pureNext_ok _ hp w]
    rfl
theorem binPV_ok {P : Program} {op : BinOp} (hb : binOk op = true) {t : TypeId} {x y : Operand} {va vb v : Value} (h : binPV op (.v va) (.v vb) = some (.v v)) (w : World) : (do eqGuard op t x y va vb; binOp op t va vb : Sem Value).run P w = .ok v w := by
  unfold binPV at h
  split at h
  · rename_i k a k' b he1 he2
    cases he1; cases he2
    simp only [cond_eq_ite, decide_eq_true_eq] at h
    split at h
    · rename_i hk
      subst hk
      cases op <;> simp_all [eqGuard, binOp, binOk, Op.intArith, Op.intDiv, Op.intCmp]
    · cases h
  · rename_i a b he1 he2
    cases he1; cases he2
    cases op <;> simp_all [eqGuard, binOp, binOk, Op.stringOp]
    simp only [cond_eq_ite, decide_eq_true_eq] at h
    split at h
    · cases h
    · rename_i hlt
      rw [if_neg hlt]
      cases h; rfl
  · cases h
theorem boolOp_ok {P : Program} {t : TypeId} (ht : P.underlying t = some .bool) {x y : Operand} (a b : Bool) (w : World) :
    (do eqGuard .eql t x y (.bool a) (.bool b); binOp .eql t (.bool a) (.bool b) : Sem Value).run P w = .ok (.bool (a == b)) w ∧ (do eqGuard .neq t x y (.bool a) (.bool b); binOp .neq t (.bool a) (.bool b) : Sem Value).run P w = .ok (.bool (a != b)) w := by
  have h := run_equal_bool (P := P) w t a b ht
  constructor
  · simp [eqGuard, binOp, h]
  · simp [eqGuard, binOp, h]
    cases a <;> cases b <;> rfl
theorem eqB_inv {va vb v : Value} (h : ropPV .eqB [.v va, .v vb] = some (.v v)) : ∃ a b, va = .bool a ∧ vb = .bool b ∧ v = .bool (a == b) := by
  cases va <;> cases vb <;> simp [ropPV] at h
  exact ⟨_, _, rfl, rfl, h.symm⟩
theorem neB_inv {va vb v : Value} (h : ropPV .neB [.v va, .v vb] = some (.v v)) : ∃ a b, va = .bool a ∧ vb = .bool b ∧ v = .bool (a != b) := by
  cases va <;> cases vb <;> simp [ropPV] at h
  exact ⟨_, _, rfl, rfl, h.symm⟩
theorem symX_ok {P : Program} (hN : GoodP P) {o : Oper} {x : AAct} {a : Act} {e : SX} {v : Value} {A : Nat → Prop} {m : Map} {g : Heap} {w : World} (h : symX P o x = some e) (hT : TRel m x a) (hR : Rel W0 A m g w) (hv : W0.ev e = some (.v v)) : (execOp a.eval o).run P w = .ok (.value v) w := by
  unfold symX at h
  split at h
  · rename_i op t p q t' ho
    cases hb : (scalTy P t && binOk op) with
    | false =>
      simp only [hb, cond_false] at h
      split at h
      · rename_i ht
        simp only [Option.bind_eq_some_iff, Option.map_eq_some_iff] at h
        obtain ⟨qa, hqa, qb, hqb, ea, hea, eb, heb, rfl⟩ := h
        have h1 := sx_ok hR.sv qa hea (ev_ok hT hqa)
        have h2 := sx_ok hR.sv qb heb (ev_ok hT hqb)
        simp only [Base.ev] at h1 h2
        simp only [Base.ev, SX.ev, evs, h1, h2, Option.bind_some, Option.map_some] at hv
        obtain ⟨u, v', he1, he2, rfl⟩ := eqB_inv hv
        have := (boolOp_ok (P := P) ht (x := p) (y := q) u v' w).1
        simp only [execOp, ho, he1, he2]
        simp only [Sem.run_bind] at this ⊢
        rw [this]
        simp
      · rename_i ht
        simp only [Option.bind_eq_some_iff, Option.map_eq_some_iff] at h
        obtain ⟨qa, hqa, qb, hqb, ea, hea, eb, heb, rfl⟩ := h
        have h1 := sx_ok hR.sv qa hea (ev_ok hT hqa)
        have h2 := sx_ok hR.sv qb heb (ev_ok hT hqb)
        simp only [Base.ev] at h1 h2
        simp only [Base.ev, SX.ev, evs, h1, h2, Option.bind_some, Option.map_some] at hv
        obtain ⟨u, v', he1, he2, rfl⟩ := neB_inv hv
        have := (boolOp_ok (P := P) ht (x := p) (y := q) u v' w).2
        simp only [execOp, ho, he1, he2]
        simp only [Sem.run_bind] at this ⊢
        rw [this]
        simp
      · exact genX_ok hN h hT hR hv
    | true =>
      simp only [hb, cond_true, Option.bind_eq_some_iff, Option.map_eq_some_iff] at h
      obtain ⟨qa, hqa, qb, hqb, ea, hea, eb, heb, rfl⟩ := h
      have h1 := sx_ok hR.sv qa hea (ev_ok hT hqa)
      have h2 := sx_ok hR.sv qb heb (ev_ok hT hqb)
      simp only [Base.ev] at h1 h2
      simp only [Base.ev, SX.ev, h1, h2, Option.bind_some] at hv
      simp only [Bool.and_eq_true] at hb
      have := binPV_ok (P := P) hb.2 (t := t) (x := p) (y := q) hv w
      simp only [execOp, ho]
      simp only [Sem.run_bind] at this ⊢
      rw [this]
      simp
  · rename_i s d p ho
    split at h
    · rename_i k1 k hs hd
      simp only [Option.bind_eq_some_iff, Option.map_eq_some_iff] at h
      obtain ⟨q, hq, e1, he1, rfl⟩ := h
      have h1 := sx_ok hR.sv q he1 (ev_ok hT hq)
      simp only [Base.ev] at h1
      simp only [Base.ev, SX.ev, h1, Option.bind_some] at hv
      simp only [execOp, ho]
      generalize a.eval p = u at hv
      cases u <;> simp [convPV] at hv
      rename_i k2 n
      subst hv
      simp [convert, run_underlying hs, run_underlying hd, Conv.intToInt]
    · exact genX_ok hN h hT hR hv
  · rename_i t p i ho
    split at h
    · rename_i hu
      simp only [Option.bind_eq_some_iff, Option.map_eq_some_iff] at h
      obtain ⟨qa, hqa, qi, hqi, ea, hea, ei, hei, rfl⟩ := h
      have h1 := sx_ok hR.sv qa hea (ev_ok hT hqa)
      have h2 := sx_ok hR.sv qi hei (ev_ok hT hqi)
      simp only [Base.ev] at h1 h2
      simp only [Base.ev, SX.ev, h1, h2, Option.bind_some] at hv
      simp only [execOp, ho]
      generalize a.eval p = u at hv
      generalize a.eval i = v2 at hv
      cases u <;> cases v2 <;> simp only [sidxPV] at hv <;> try (cases hv; done)
      rename_i ss kd z
      simp only [Option.map_eq_some_iff, PV.v.injEq] at hv
      obtain ⟨b, hb, rfl⟩ := hv
      simp [Instr.index, asIntOf, run_underlying hu, hb]
    · exact genX_ok hN h hT hR hv
  · rename_i args argTypes ho
    split at h
    · rename_i t s hat har
      split at h
      · rename_i hu
        simp only [Option.bind_eq_some_iff, Option.map_eq_some_iff] at h
        obtain ⟨q, hq, e1, he1, rfl⟩ := h
        have h1 := sx_ok hR.sv q he1 (ev_ok hT hq)
        simp only [Base.ev] at h1
        simp only [Base.ev, SX.ev, h1, Option.bind_some] at hv
        unfold slenPV at hv
        split at hv
        · rename_i ss he
          simp only [PV.v.injEq] at he
          simp only [Option.some.injEq, PV.v.injEq] at hv
          subst hv
          have e1 : argTypes = #[t] := by apply Array.ext'; simpa using hat
          have e2 : args = #[s] := by apply Array.ext'; simpa using har
          simp [execOp, ho, resolve, invoke, builtin, Builtin.len_, e1, e2, he, run_underlying hu, goInt]
        · cases hv
      · exact genX_ok hN h hT hR hv
    · exact genX_ok hN h hT hR hv
  · exact genX_ok hN h hT hR hv
theorem aSym_ok {P : Program} (hN : GoodP P) {o : Oper} {x : AAct} {a : Act} {st st' : St} {n : AN} {lg : Log} {A : Nat → Prop} {m : Map} {w : World} (h : aSym P o x st = some (n, st', lg)) (hA : lg.Fits W0 A) (hT : TRel m x a) (hR : Rel W0 A m st.heap.get w) (hF : Fresh A m st.next) :
    ∃ m' w', Ok W0 A m st w m' st' lg w' ∧ Meets P m' (execOp a.eval o) w w' n := by
  simp only [aSym, Option.map_eq_some_iff] at h
  obtain ⟨e, he, h⟩ := h
  cases h
  obtain ⟨v, hv, hone⟩ := hA.2 _ (List.mem_singleton.2 rfl)
  exact ⟨m, w, Ok.refl hR hF, v, ev_sym hR.sv hv hone, .inl (symX_ok hN he hT hR hv)⟩

/-! Rows of which something is known. -/
def aLenD (P : Program) (o : Oper) (x : AAct) (st : St) : Option (AN × St × Log) := match o.op with
  | .call { callee := .builtin .len, args, argTypes } => match argTypes.toList, args.toList with
    | [t], [s] => (ev x s).bind fun q => match P.underlying t, q with
      | some (.slice _), .dat r => ((st.heap.get r).bind (·.dat)).map fun e => (.value (.sym (.len e)), st, (Log.sees r).or (Log.says (.ok (.len e))))
      | _, _ => none
    | _, _ => none
  | _ => none
theorem thing {A : Nat → Prop} {m : Map} {st : St} {w : World} (hR : Rel W0 A m st.heap.get w) {r : Nat} {e : SX} (hr : ((st.heap.get r).bind (·.dat)) = some e) (ha : A r) : ∃ o u fp p, st.heap.get r = some o ∧ o.dat = some e ∧ m.d r = some (u, fp) ∧ u.oneCell' = true ∧ (∀ k, fp k → k < w.heap.size) ∧ (o.ro = true → ∀ k, fp k → W0.fp k ∨ W0.heap.size ≤ k) ∧ W0.ev e = some p ∧ ∀ w2 : World, (∀ k, fp k → w2.heap[k]? = w.heap[k]?) → Reads w2 p u := by
  obtain ⟨o, ho, hd⟩ := Option.bind_eq_some_iff.1 hr
  obtain ⟨v, fp, hm, hone, hlt, hk⟩ := hR.dat r o e ha ho hd
  obtain ⟨p, hp, _⟩ := hk w (fun _ _ => rfl)
  refine ⟨o, v, fp, p, ho, hd, hm, hone, hlt, hR.fpb r o e v fp ha ho hd hm, hp, fun w2 hw2 => ?_⟩
  obtain ⟨p', hp', hr'⟩ := hk w2 hw2
  rw [hp] at hp'
  cases hp'
  exact hr'
theorem aLenD_ok {P : Program} {o : Oper} {x : AAct} {a : Act} {st st' : St} {n : AN} {lg : Log} {A : Nat → Prop} {m : Map} {w : World} (h : aLenD P o x st = some (n, st', lg)) (hA : lg.Fits W0 A) (hT : TRel m x a) (hR : Rel W0 A m st.heap.get w) (hF : Fresh A m st.next) :
    ∃ m' w', Ok W0 A m st w m' st' lg w' ∧ Meets P m' (execOp a.eval o) w w' n := by
  unfold aLenD at h
  split at h
  · rename_i args argTypes ho
    split at h
    · rename_i t s hat har
      simp only [Option.bind_eq_some_iff] at h
      obtain ⟨q, hq, h⟩ := h
      split at h
      · rename_i el r hu
        simp only [Option.map_eq_some_iff] at h
        obtain ⟨e, hr, h⟩ := h
        cases h
        obtain ⟨v, hv, hone⟩ := (or_A hA).2.2 _ (List.mem_singleton.2 rfl)
        obtain ⟨oo, u, fp, p, _, _, hm, hou, _, _, hp, hrd⟩ := thing hR hr ((or_A hA).1.1 r (by simp [Log.sees, bit_one]))
        have hx := ev_ok hT hq
        simp only [AV.den, hm, Option.bind_some, hou, cond_true, Option.some.injEq] at hx
        have e1 : argTypes = #[t] := by apply Array.ext'; simpa using hat
        have e2 : args = #[s] := by apply Array.ext'; simpa using har
        have hv2 := hv
        simp only [Base.ev, SX.ev] at hv hp
        rw [hp] at hv
        simp only [Option.bind_some] at hv
        cases p with
        | v y => simp [lenPV] at hv
        | row nn cs =>
          simp only [lenPV, Option.some.injEq, PV.v.injEq] at hv
          subst hv
          have := hrd w (fun _ _ => rfl)
          simp only [Reads] at this
          obtain ⟨aa, cap, rfl, _⟩ := this
          refine ⟨m, w, Ok.refl hR hF, _, ev_sym hR.sv hv2 hone, .inl ?_⟩
          simp [execOp, ho, resolve, invoke, builtin, Builtin.len_, e1, e2, ← hx, run_underlying hu, goInt]
      · cases h
    · cases h
  · cases h

/-- Where an element lies. -/
def aIdxD (P : Program) (o : Oper) (x : AAct) (st : St) : Option (AN × St × Log) := match o.op with
  | .indexAddr t a i => (ev x a).bind fun q => (ev x i).bind fun j => match q with
    | .dat r => match P.underlying t with
      | some (.slice el) => (tySize P el).bind fun sz => (j.sx).bind fun ie => cond (Nat.blt 0 sz) (((st.heap.get r).bind (·.dat)).map fun e => (.value (.ptrD r ie sz 0), st, (Log.sees r).or (Log.says (.idx e ie sz sz)))) none
      | _ => none
    | q => match j with
      | .sym e => match st.path with
        | n :: rest => (aIndexAddr P t q (.val (.int .i64 (n : Int)))).map fun y => (.value y, { st with path := rest }, Log.says (.at e n))
        | [] => none
      | _ => none
  | _ => none
theorem aIdxD_ok {P : Program} {o : Oper} {x : AAct} {a : Act} {st st' : St} {n : AN} {lg : Log} {A : Nat → Prop} {m : Map} {w : World} (h : aIdxD P o x st = some (n, st', lg)) (hA : lg.Fits W0 A) (hT : TRel m x a) (hR : Rel W0 A m st.heap.get w) (hF : Fresh A m st.next) :
    ∃ m' w', Ok W0 A m st w m' st' lg w' ∧ Meets P m' (execOp a.eval o) w w' n := by
  unfold aIdxD at h
  split at h
  · rename_i t q i ho
    simp only [Option.bind_eq_some_iff] at h
    obtain ⟨qv, hq, j, hj, h⟩ := h
    have hi := ev_ok hT hj
    split at h
    · rename_i r
      split at h
      · rename_i el hu
        simp only [Option.bind_eq_some_iff] at h
        obtain ⟨sz, hs, ie, hie, h⟩ := h
        cases hsz : Nat.blt 0 sz with
        | false => simp [hsz] at h
        | true =>
          simp only [hsz, cond_true, Option.map_eq_some_iff] at h
          obtain ⟨e, hr, he⟩ := h
          cases he
          have hsz' : 0 < sz := by simpa using hsz
          obtain ⟨nn, cs, k, z, h1, h2, h3, h4, h5⟩ := (or_A hA).2.2 _ (List.mem_singleton.2 rfl)
          obtain ⟨oo, u, fp, p, _, _, hm, hou, _, _, hp, hrd⟩ := thing hR hr ((or_A hA).1.1 r (by simp [Log.sees, bit_one]))
          rw [hp] at h1
          cases h1
          have hx := ev_ok hT hq
          simp only [AV.den, hm, Option.bind_some, hou, cond_true, Option.some.injEq] at hx
          have hiv := sx_ok hR.sv j hie hi
          rw [h2] at hiv
          simp only [Option.some.injEq, PV.v.injEq] at hiv
          have hrd' := hrd w (fun _ _ => rfl)
          simp only [Reads] at hrd'
          obtain ⟨aa, cap, hu2, _, _, h6⟩ := hrd'
          have hne : cs ≠ [] := by intro e; rw [e] at h5; simp at h5; omega
          rcases h6 with h6 | ⟨b, off, rfl, _⟩
          · exact absurd h6 hne
          · subst hu2
            refine ⟨m, w, Ok.refl hR hF, .pointer (some ⟨b, off + (z.toNat * sz + 0), none⟩), ?_, .inl ?_⟩
            · simp [AV.den, hm, hR.sv, ev_sv h2, natOf, elemAt]
            · simp [execOp, ho, Instr.indexAt, asIntOf, ← hx, ← hiv, run_underlying hu, h3, h4, run_sizeOf_eng hs, addr_add]
      · cases h
    · split at h
      · rename_i e
        split at h
        · rename_i k rest hpath
          simp only [Option.map_eq_some_iff] at h
          obtain ⟨y, hy, he⟩ := h
          cases he
          obtain ⟨kd, hk⟩ := hA.2 _ (List.mem_singleton.2 rfl)
          have := (sym_ev hR.sv hi).1
          rw [hk] at this
          simp only [Option.some.injEq, PV.v.injEq] at this
          have hy' : aIndexAddr P t qv (.val (.int kd (k : Int))) = some y := by
            rw [← hy]; simp [aIndexAddr, AV.int?]
          obtain ⟨v, hv, hrun⟩ := aIndexAddr_ok hy' (ev_ok hT hq) (iu := .int kd (k : Int)) rfl w
          refine ⟨m, w, ⟨Step.refl hR, hF⟩, v, hv, .inl ?_⟩
          rw [this] at hrun
          simp [execOp, ho, hrun]
        · cases h
      · cases h
  · cases h

/-! Loads. -/
def cellKinds (P : Program) : Nat → TypeId → Option (List Bool)
  | 0, _ => none
  | n + 1, t => match P.underlying t with
    | some (.struct fs) => fs.toList.foldr (fun f r => (cellKinds P n f.type).bind fun a => r.map (a ++ ·)) (some [])
    | some (.array k e) => (cellKinds P n e).map fun a => (List.replicate k a).flatten
    | some (.slice _) => some [true]
    | some .bool | some (.int _) | some (.float _) | some .string => some [false]
    | _ => none
def esD (e i : SX) (sz : Nat) : List Bool → Nat → List SX
  | [], _ => []
  | true :: ks, j => .cell e i sz j :: esD e i sz ks (j + 1)
  | false :: ks, j => esD e i sz ks (j + 1)
def factsD (e i : SX) (sz : Nat) : List Bool → Nat → List Fact
  | [], _ => []
  | true :: ks, j => factsD e i sz ks (j + 1)
  | false :: ks, j => .ok (.cell e i sz j) :: factsD e i sz ks (j + 1)
def cellsD (e i : SX) (sz : Nat) : List Bool → Nat → Nat → List AV
  | [], _, _ => []
  | true :: ks, j, nx => .dat nx :: cellsD e i sz ks (j + 1) (nx + 1)
  | false :: ks, j, nx => .sym (.cell e i sz j) :: cellsD e i sz ks (j + 1) nx
def usD (val : Nat → Value) : List Bool → Nat → List Value
  | [], _ => []
  | true :: ks, j => val j :: usD val ks (j + 1)
  | false :: ks, j => usD val ks (j + 1)
theorem usD_len (val : Nat → Value) (e i : SX) (sz : Nat) : ∀ (ks : List Bool) (j : Nat), (usD val ks j).length = (esD e i sz ks j).length
  | [], j => rfl
  | true :: ks, j => by simp [usD, esD, usD_len val e i sz ks]
  | false :: ks, j => by simp [usD, esD, usD_len val e i sz ks]
theorem usD_get (val : Nat → Value) (e i : SX) (sz : Nat) : ∀ (ks : List Bool) (j q : Nat) (x : SX) (u : Value), (esD e i sz ks j)[q]? = some x → (usD val ks j)[q]? = some u → ∃ k, j ≤ k ∧ k < j + ks.length ∧ x = .cell e i sz k ∧ u = val k
  | [], j, q, x, u, h, _ => by simp [esD] at h
  | true :: ks, j, q, x, u, h, hu => by
    cases q with
    | zero => simp [esD] at h; simp [usD] at hu; exact ⟨j, Nat.le_refl _, by simp, h.symm, hu.symm⟩
    | succ q =>
      simp only [esD, List.getElem?_cons_succ] at h
      simp only [usD, List.getElem?_cons_succ] at hu
      obtain ⟨k, h1, h2, h3, h4⟩ := usD_get val e i sz ks (j + 1) q x u h hu
      exact ⟨k, by omega, by simp; omega, h3, h4⟩
  | false :: ks, j, q, x, u, h, hu => by
    simp only [esD] at h
    simp only [usD] at hu
    obtain ⟨k, h1, h2, h3, h4⟩ := usD_get val e i sz ks (j + 1) q x u h hu
    exact ⟨k, by omega, by simp; omega, h3, h4⟩
theorem cellsD_den {m : Map} (hs : ∀ e, m.s e = W0.sv e) {e i : SX} {sz : Nat} {val : Nat → Value} (hone : ∀ k, (val k).oneCell' = true) : ∀ (ks : List Bool) (j nx : Nat), (∀ q u, (usD val ks j)[q]? = some u → ∃ fp, m.d (nx + q) = some (u, fp)) →
    (∀ f ∈ factsD e i sz ks j, f.holds W0) → (∀ k x, j ≤ k → k < j + ks.length → W0.ev (.cell e i sz k) = some (.v x) → val k = x) → denL m (cellsD e i sz ks j nx) = some ((List.range' j ks.length).map val)
  | [], j, nx, _, _, _ => rfl
  | true :: ks, j, nx, h1, h2, h3 => by
    obtain ⟨fp, hfp⟩ := h1 0 (val j) (by simp [usD])
    have ih := cellsD_den hs hone ks (j + 1) (nx + 1) (fun q u hu => by
      have := h1 (q + 1) u (by simpa [usD] using hu)
      rwa [show nx + (q + 1) = nx + 1 + q by omega] at this) (fun f hf => h2 f (by simpa [factsD] using hf)) (fun k x hk1 hk2 => h3 k x (by omega) (by simp; omega))
    simp only [cellsD, denL, AV.den]
    rw [Nat.add_zero] at hfp
    simp [hfp, hone, ih, List.range'_succ]
  | false :: ks, j, nx, h1, h2, h3 => by
    obtain ⟨x, hx, ho⟩ := h2 (.ok (.cell e i sz j)) (by simp [factsD])
    have ih := cellsD_den hs hone ks (j + 1) nx (fun q u hu => h1 q u (by simpa [usD] using hu)) (fun f hf => h2 f (by simp [factsD, hf])) (fun k x hk1 hk2 => h3 k x (by omega) (by simp; omega))
    have hv := h3 j x (Nat.le_refl _) (by simp) hx
    simp only [cellsD, denL, ev_sym hs hx ho, ih, Option.bind_some, Option.map_some, List.range'_succ, List.map_cons, List.length_cons, hv]
def aLoadD (P : Program) (t : TypeId) (st : St) : AV → Option (AV × St × Log)
  | .ptrD r i sz q => (st.heap.get r).bind fun oo => oo.dat.bind fun e => (tyAgg P t).bind fun ag => (cellKinds P 20 t).bind fun ks =>
    cond ((cond ag (tySize P t == some ks.length) (Nat.beq ks.length 1)) && Nat.blt (st.next + ks.length) 16777215)
      (some (cond ag (.agg (cellsD e i sz ks q st.next)) ((cellsD e i sz ks q st.next).headD (.val undef)), st.dats ((esD e i sz ks q).map (·, oo.ro)),
        ⟨(1 <<< r) ||| maskFrom st.next (esD e i sz ks q).length, maskFrom st.next (esD e i sz ks q).length, .idx e i sz (q + ks.length) :: factsD e i sz ks q⟩)) none
  | _ => none
theorem esD_le (e i : SX) (sz : Nat) : ∀ (ks : List Bool) (j : Nat), (esD e i sz ks j).length ≤ ks.length
  | [], j => Nat.le_refl _
  | true :: ks, j => by simp [esD, esD_le e i sz ks]
  | false :: ks, j => by have := esD_le e i sz ks (j + 1); simp [esD]; omega
theorem aLoadD_shape {P : Program} {t : TypeId} {st st' : St} {x y : AV} {lg : Log} (h : aLoadD P t st x = some (y, st', lg)) : ∃ es, st' = st.dats es ∧ st.next + es.length < 16777215 ∧ lg.T = maskFrom st.next es.length := by
  unfold aLoadD at h
  split at h
  · rename_i r i sz q
    simp only [Option.bind_eq_some_iff] at h
    obtain ⟨oo, hoo, e, hr, ag, hag, ks, hks, h⟩ := h
    cases hc : ((cond ag (tySize P t == some ks.length) (Nat.beq ks.length 1)) && Nat.blt (st.next + ks.length) 16777215) with
    | false => simp [hc] at h
    | true =>
      simp only [hc, cond_true, Option.some.injEq, Prod.mk.injEq] at h
      obtain ⟨_, rfl, rfl⟩ := h
      simp only [Bool.and_eq_true, Nat.blt_eq] at hc
      have := esD_le e i sz ks q
      exact ⟨_, rfl, by simp; omega, by simp⟩
  · cases h
theorem aLoadD_ok {P : Program} {t : TypeId} {st st' : St} {x y : AV} {lg : Log} {A : Nat → Prop} {m : Map} {w : World} {u : Value} (h : aLoadD P t st x = some (y, st', lg)) (hA : lg.Fits W0 A) (hR : Rel W0 A m st.heap.get w) (hF : Fresh A m st.next) (hx : x.den m = some u) :
    ∃ m', Ok W0 A m st w m' st' lg w ∧ ∃ v, y.den m' = some v ∧ (Instr.loadAt t u).run P w = .ok v w := by
  unfold aLoadD at h
  split at h
  · rename_i r i sz q
    simp only [Option.bind_eq_some_iff] at h
    obtain ⟨oo, hoo, e, hr, ag, hag, ks, hks, h⟩ := h
    cases hc : ((cond ag (tySize P t == some ks.length) (Nat.beq ks.length 1)) && Nat.blt (st.next + ks.length) 16777215) with
    | false => simp [hc] at h
    | true =>
      simp only [hc, cond_true, Option.some.injEq, Prod.mk.injEq] at h
      obtain ⟨hy, rfl, rfl⟩ := h
      simp only [Bool.and_eq_true, Nat.blt_eq] at hc
      have hel := esD_le e i sz ks q
      have hAr : A r := hA.1 r (bit_or_l ((bit_one _ _).2 rfl))
      have hAn : ∀ k, st.next ≤ k → k < st.next + (esD e i sz ks q).length → A k := fun k h1 h2 => hA.1 k (bit_or_r ((maskFrom_bit _ _ _).2 ⟨h1, h2⟩))
      obtain ⟨n, cs, kd, z, g1, g2, g3, g4, g5⟩ := hA.2 (.idx e i sz (q + ks.length)) (by simp)
      obtain ⟨oo', u0, fp, p, ho, hd, hm, hou, hlt, hfpb, hp, hrd⟩ := thing hR (Option.bind_eq_some_iff.2 ⟨oo, hoo, hr⟩) hAr
      rw [hoo] at ho
      cases ho
      rw [hp] at g1
      cases g1
      simp only [AV.den, hm, Option.bind_some, hR.sv, ev_sv g2, natOf] at hx
      unfold elemAt at hx
      split at hx
      · rename_i b off nn cap
        simp only [Option.some.injEq] at hx
        subst hx
        by_cases hne : cs = []
        · -- nothing is loaded
          subst hne
          simp only [List.length_nil, Nat.le_zero_eq] at g5
          have hk0 : ks = [] := List.eq_nil_of_length_eq_zero (by omega)
          subst hk0
          have hrow : Ex w w := Ex.refl _
          obtain ⟨m', hok, _, _⟩ := addDats (lg := ⟨(1 <<< r) ||| maskFrom st.next (esD e i sz [] q).length, maskFrom st.next (esD e i sz [] q).length, .idx e i sz (q + ([] : List Bool).length) :: factsD e i sz [] q⟩) hR hF hrow ((esD e i sz [] q).map (·, oo.ro)) [] (fun _ => fp) (by simp) rfl (by simp [esD] at hc ⊢; omega) (by intro k h1 h2; simp [esD] at h2; omega) (by intro i' e' u' h1; simp [esD] at h1)
          refine ⟨m', hok, ?_⟩
          cases ag with
          | false => simp at hc
          | true =>
            simp only [cond_true, beq_iff_eq] at hc
            subst hy
            refine ⟨.agg #[], by simp [cellsD, AV.den, denL], ?_⟩
            have hl := run_loadCells_list (P := P) w ⟨b, off + (z.toNat * sz + q), none⟩ [] (by simp)
            simp only [List.length_nil] at hl
            simp [Instr.loadAt, Instr.sureAddr, loadVar, run_isAgg_eng hag, run_sizeOf_eng hc.1, hl]
        · have hfb := fp_has hrd (by
            have := hrd w (fun _ _ => rfl)
            simp only [Reads] at this
            obtain ⟨a', c', he', _⟩ := this
            cases he'; rfl) hne
          have hcell : ∀ (w2 : World), (∀ k, fp k → w2.heap[k]? = w.heap[k]?) → ∀ k c, cs[z.toNat * sz + k]? = some c → ∃ v, w2.cell? ⟨b, off + (z.toNat * sz + k), none⟩ = some v ∧ Reads w2 c v := by
            intro w2 hw2 k c hk
            have := hrd w2 hw2
            simp only [Reads] at this
            obtain ⟨a', c', he', _, _, h6⟩ := this
            rcases h6 with h6 | ⟨b', off', ha, h6⟩
            · exact absurd h6 hne
            · subst ha
              cases he'
              exact ReadsL.at h6 hk
          let val : Nat → Value := fun k => match w.cell? ⟨b, off + (z.toNat * sz + k), none⟩ with | some v => cond v.oneCell' v .nilFunc | none => .nilFunc
          have hval1 : ∀ k, (val k).oneCell' = true := by
            intro k
            simp only [val]
            split
            · rename_i v _
              cases hv : v.oneCell' with
              | false => rfl
              | true => simpa using hv
            · rfl
          have hc0 : ∀ k, k < q + ks.length → ∃ c, cs[z.toNat * sz + k]? = some c ∧ w.cell? ⟨b, off + (z.toNat * sz + k), none⟩ = some (val k) ∧ W0.ev (.cell e i sz k) = some c ∧ ∀ w2 : World, (∀ k, fp k → w2.heap[k]? = w.heap[k]?) → Reads w2 c (val k) := by
            intro k hk
            have hlt2 : z.toNat * sz + k < cs.length := by omega
            refine ⟨cs[z.toNat * sz + k], List.getElem?_eq_getElem hlt2, ?_⟩
            obtain ⟨v, hv, hrv⟩ := hcell w (fun _ _ => rfl) k _ (List.getElem?_eq_getElem hlt2)
            have hvk : val k = v := by simp only [val, hv, hrv.one, cond_true]
            refine ⟨by rw [hv, hvk], ?_, fun w2 hw2 => ?_⟩
            · have hp' : e.ev W0.s W0.F = some (.row n cs) := hp
              have hg2 : i.ev W0.s W0.F = some (.v (.int kd z)) := g2
              simp only [Base.ev, SX.ev, hp', hg2, Option.bind_some, cellPV, g3, g4, decide_true, Bool.and_self, cond_true]
              exact List.getElem?_eq_getElem hlt2
            · obtain ⟨v2, hv2, hr2⟩ := hcell w2 hw2 k _ (List.getElem?_eq_getElem hlt2)
              have : w2.cell? ⟨b, off + (z.toNat * sz + k), none⟩ = w.cell? ⟨b, off + (z.toNat * sz + k), none⟩ := by simp only [World.cell?, hw2 b hfb]
              rw [this, hv] at hv2
              cases hv2
              rw [hvk]
              exact hr2
          obtain ⟨m', hok, hd', _⟩ := addDats (lg := ⟨(1 <<< r) ||| maskFrom st.next (esD e i sz ks q).length, maskFrom st.next (esD e i sz ks q).length, .idx e i sz (q + ks.length) :: factsD e i sz ks q⟩) hR hF (Ex.refl w) ((esD e i sz ks q).map (·, oo.ro)) (usD val ks q) (fun _ => fp) (by simp) (by simp [usD_len val e i sz ks q]) (by simp; omega) (fun k h1 h2 => hAn k h1 (by simpa using h2)) (by
            intro j e' u' h1 h2
            rw [List.getElem?_map, Option.map_eq_some_iff] at h1
            obtain ⟨e1, h1, rfl⟩ := h1
            obtain ⟨k, k1, k2, rfl, rfl⟩ := usD_get val e i sz ks q j e1 u' h1 h2
            obtain ⟨c, c1, c2, c3, c4⟩ := hc0 k k2
            exact ⟨hval1 k, fun k hk => ⟨hlt k hk, fun hro => hfpb hro k hk, fun _ => ⟨r, oo, e, _, fp, hAr, hoo, hd, hm, hk⟩⟩, fun w2 hw2 => ⟨c, c3, c4 w2 hw2⟩⟩)
          have hden : denL m' (cellsD e i sz ks q st.next) = some ((List.range' q ks.length).map val) := cellsD_den hok.rel.sv hval1 ks q st.next (fun j v hj => ⟨_, hd' j v hj⟩) (fun f hf => hA.2 f (by simp [hf])) (fun k x k1 k2 hx => by
            obtain ⟨c, c1, c2, c3, c4⟩ := hc0 k k2
            rw [hx] at c3
            cases c3
            have := c4 w (fun _ _ => rfl)
            simp only [Reads] at this
            exact this.1)
          refine ⟨m', hok, ?_⟩
          cases ag with
          | false =>
            simp only [cond_false, Nat.beq_eq] at hc hy
            obtain ⟨bb, rfl⟩ : ∃ bb, ks = [bb] := by
              match ks, hc.1 with
              | [bb], _ => exact ⟨bb, rfl⟩
            subst hy
            obtain ⟨c, c1, c2, c3, c4⟩ := hc0 q (by simp)
            refine ⟨val q, ?_, ?_⟩
            · cases bb <;> simp only [cellsD, denL, Option.bind_eq_some_iff, List.headD_cons, List.length_singleton, List.range'_one, List.map_cons, List.map_nil, Option.map_some, Option.some.injEq, List.cons.injEq, and_true] at hden ⊢ <;> obtain ⟨v, hv, rfl⟩ := hden <;> exact hv
            · simp [Instr.loadAt, Instr.sureAddr, loadVar, run_isAgg_eng hag, c2]
          | true =>
            simp only [cond_true, beq_iff_eq] at hc hy
            subst hy
            refine ⟨.agg ((List.range' q ks.length).map val).toArray, by simp [AV.den, hden], ?_⟩
            have hl := run_loadCells_list (P := P) w ⟨b, off + (z.toNat * sz + q), none⟩ ((List.range' q ks.length).map val) (fun j v hj => by
              rw [List.getElem?_map, Option.map_eq_some_iff] at hj
              obtain ⟨k, hk, rfl⟩ := hj
              obtain ⟨hj1, hj2⟩ := List.getElem?_eq_some_iff.1 hk
              simp only [List.length_range', List.getElem_range'] at hj1 hj2
              obtain ⟨c, c1, c2, c3, c4⟩ := hc0 k (by omega)
              rw [addr_add, ← c2]
              congr 2
              omega)
            rw [List.length_map, List.length_range'] at hl
            simp [Instr.loadAt, Instr.sureAddr, loadVar, run_isAgg_eng hag, run_sizeOf_eng hc.1, hl]
      · cases hx
  · cases h

/-- An operation on such. -/
def aopS (P : Program) (o : Oper) (x : AAct) (st : St) : Option (AN × St × Log) := match aLenD P o x st with
  | some r => some r
  | none => match o.op with
    | .indexAddr .. => aIdxD P o x st
    | .load t a => (ev x a).bind fun q => (aLoadD P t st q).map fun (y, st', lg) => (.value y, st', lg)
    | _ => aSym P o x st
theorem aopS_ok {P : Program} (hN : GoodP P) {o : Oper} {x : AAct} {a : Act} {st st' : St} {n : AN} {lg : Log} {A : Nat → Prop} {m : Map} {w : World} (h : aopS P o x st = some (n, st', lg)) (hA : lg.Fits W0 A) (hT : TRel m x a) (hR : Rel W0 A m st.heap.get w) (hF : Fresh A m st.next) :
    ∃ m' w', Ok W0 A m st w m' st' lg w' ∧ Meets P m' (execOp a.eval o) w w' n := by
  unfold aopS at h
  split at h
  · rename_i r hr
    cases h
    exact aLenD_ok hr hA hT hR hF
  · split at h
    · exact aIdxD_ok h hA hT hR hF
    · rename_i t p ho
      simp only [Option.bind_eq_some_iff, Option.map_eq_some_iff] at h
      obtain ⟨q, hq, ⟨y, s1, l1⟩, hl, he⟩ := h
      cases he
      obtain ⟨m', hok, v, hv, hrun⟩ := aLoadD_ok hl hA hR hF (ev_ok hT hq)
      exact ⟨m', w, hok, v, hv, .inl (by simp [execOp, ho, hrun])⟩
    · exact aSym_ok hN h hA hT hR hF

/-- Where a truth is not known a run goes the way that it was told. -/
def isBool (P : Program) (t : TypeId) : Bool := match P.underlying t with | some .bool => true | _ => false
def isTruth (P : Program) (o : Oper) : Bool := isBool P o.type || (match o.op with | .binOp .eql .. | .binOp .neq .. | .binOp .lss .. | .binOp .leq .. | .binOp .gtr .. | .binOp .geq .. => true | _ => false)
def decB (P : Program) (o : Oper) : AN × St × Log → Option (AN × St × Log)
  | (.value (.sym e), st, lg) => cond (isTruth P o) (match st.path with
      | b :: rest => some (.value (.val (.bool (Nat.beq b 1))), { st with path := rest }, lg.or (Log.says (.is e (.bool (Nat.beq b 1)))))
      | [] => none) (some (.value (.sym e), st, lg))
  | r => some r
theorem decB_ok {P : Program} {o : Oper} {a : Act} {st st1 st' : St} {n n1 : AN} {lg l1 : Log} {A : Nat → Prop} {m : Map} {w : World} (h : decB P o (n1, st1, l1) = some (n, st', lg)) (hA : lg.Fits W0 A)
    (hk : l1.Fits W0 A → ∃ m' w', Ok W0 A m st w m' st1 l1 w' ∧ Meets P m' (execOp a.eval o) w w' n1) : ∃ m' w', Ok W0 A m st w m' st' lg w' ∧ Meets P m' (execOp a.eval o) w w' n := by
  unfold decB at h
  split at h
  · rename_i e s2 l2 he
    cases he
    cases hb : isTruth P o with
    | false => simp only [hb, cond_false, Option.some.injEq, Prod.mk.injEq] at h; obtain ⟨rfl, rfl, rfl⟩ := h; exact hk hA
    | true =>
      simp only [hb, cond_true] at h
      split at h
      · rename_i b rest hp
        simp only [Option.some.injEq, Prod.mk.injEq] at h
        obtain ⟨rfl, rfl, rfl⟩ := h
        obtain ⟨m', w', hok, v, hv, hrun⟩ := hk (or_A hA).1
        have hev := (sym_ev hok.rel.sv hv).1
        have hf : W0.ev e = some (.v (.bool (Nat.beq b 1))) := (or_A hA).2.2 _ (List.mem_singleton.2 rfl)
        rw [hf] at hev
        simp only [Option.some.injEq, PV.v.injEq] at hev
        have hok2 : Ok W0 A m st w m' st1 (l1.or (Log.says (.is e (.bool (Nat.beq b 1))))) w' := hok.more (fun r hr => bit_or_l hr)
        exact ⟨m', w', ⟨hok2.step, hok2.fresh⟩, v, by rw [← hev]; rfl, hrun⟩
      · cases h
  · simp only [Option.some.injEq] at h
    cases h
    exact hk hA

end Go.Proofs.Ytfcdbknmajfkaaa.eng
