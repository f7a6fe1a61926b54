/- The engine: one operation. -/
import Derived.Test.YtfcdbknmajfkaaaEng7
namespace Go.Proofs.Ytfcdbknmajfkaaa.eng
open Go
variable {W0 : Base}
set_option linter.unusedVariables false
set_option linter.unusedSimpArgs false

inductive AN where
  | value (x : AV)
  | panic (v : Value)
  | enter (f : FuncId) (args : List AV)
  | defer (d : ADef)

def namesOk (P : Program) : Bool := P.funcs.all fun fn => !(fn.name == "runtime.NumGoroutine")
/-- The program that the numbers written down speak of, and no name in it that the model knows otherwise. -/
def GoodP (P : Program) : Prop := namesOk P = true ∧ P = Try.prog
theorem namesOk_ok {P : Program} (h : namesOk P = true) {f : FuncId} {fn : Func} (hf : P.funcs[f]? = some fn) : (fn.name == "runtime.NumGoroutine") = false := by
  simp only [namesOk, Array.all_eq_true_iff_forall_mem] at h
  simpa using h fn (Array.mem_of_getElem? hf)

/-- What an operation comes to, and what the world's comes to. -/
def Meets (P : Program) (m' : Map) (s : Sem Next) (w w' : World) : AN → Prop
  | .value y => ∃ v, y.den m' = some v ∧ (s.run P w = .ok (.value v) w' ∨ (v = undef ∧ s.run P w = .ok .skip w'))
  | .panic v => s.run P w = .halt (.panic v) w'
  | .enter f args => ∃ vs, denL m' args = some vs ∧ s.run P w = .ok (.enter f vs.toArray) w'
  | .defer d => ∃ d', d.den m' = some d' ∧ s.run P w = .ok (.defer d') w'

def vno (st : St) (y : AV) : AN × St × Log := (.value y, st, Log.no)
def aPl (P : Program) (o : Oper) (x : AAct) (st : St) : Option (AN × St × Log) := (aPlain P o x).map fun r => (match r with | .inl v => .value (.val v) | .inr v => .panic v, st, Log.no)

/-- Which function a value is, and what it has caught ahead and behind. -/
def aFn : AV → Option (Fn × List AV × List AV)
  | .val (.func fn first cap) => some (fn, first.toList.map .val, cap.toList.map .val)
  | .func fn first cap => some (fn, first, cap)
  | _ => none
theorem aFn_ok {m : Map} {x : AV} {fn : Fn} {a b : List AV} {u : Value} (h : aFn x = some (fn, a, b)) (hx : x.den m = some u) : ∃ va vb, u = .func fn va vb ∧ denL m a = some va.toList ∧ denL m b = some vb.toList := by
  cases x <;> simp [aFn] at h
  · rename_i v
    cases v <;> simp at h
    rename_i f p q
    obtain ⟨rfl, rfl, rfl⟩ := h
    simp only [AV.den, Option.some.injEq] at hx
    subst hx
    exact ⟨p, q, rfl, denL_vals m _, denL_vals m _⟩
  · obtain ⟨rfl, rfl, rfl⟩ := h
    simp only [AV.den, Option.bind_eq_some_iff, Option.map_eq_some_iff] at hx
    obtain ⟨p, hp, q, hq, rfl⟩ := hx
    exact ⟨p.toArray, q.toArray, rfl, by simpa using hp, by simpa using hq⟩

def evO (x : AAct) : Option Operand → Option (Option AV)
  | none => some none
  | some o => (ev x o).map some
theorem evO_ok {m : Map} {x : AAct} {a : Act} (h : TRel m x a) {o : Option Operand} {y : Option AV} (hy : evO x o = some y) : denO m y = some (o.map a.eval) := by
  cases o with
  | none => simp [evO] at hy; subst hy; rfl
  | some o =>
    simp only [evO, Option.map_eq_some_iff] at hy
    obtain ⟨z, hz, rfl⟩ := hy
    simp [denO, ev_ok h hz]

def isIface (P : Program) (t : TypeId) : Bool := match P.underlying t with | some (.interface _) => true | some _ => false | none => true

def aCall (P : Program) (o : Oper) (c : Call) (x : AAct) (st : St) : Option (AN × St × Log) :=
  match c.callee with
  | .builtin .append => match c.argTypes.toList, c.args.toList with
    | [t, tx], [s, y] => (ev x s).bind fun a => (ev x y).bind fun b => (aAppend P st t tx a b).map fun (z, st', lg) => (.value z, st', lg)
    | _, _ => none
  | .builtin .copy => match c.argTypes.toList, c.args.toList with
    | [t, tx], [s, y] => (ev x s).bind fun a => (ev x y).bind fun b => (aCopy P st t a b).map fun (z, st', lg) => (.value z, st', lg)
    | _, _ => none
  | .builtin .len => match c.argTypes.toList, c.args.toList with
    | [t], [s] => (ev x s).bind fun a => match P.underlying t, a with
      | some (.slice _), .slice r v lo sz len cap opn => some (vno st (.val (.int .i64 len)))
      | _, _ => aPl P o x st
    | _, _ => none
  | .builtin .cap => match c.argTypes.toList, c.args.toList with
    | [t], [s] => (ev x s).bind fun a => match P.underlying t, a with
      | some (.slice _), .slice r v lo sz len cap false => some (vno st (.val (.int .i64 cap)))
      | _, _ => aPl P o x st
    | _, _ => none
  | .builtin _ => aPl P o x st
  | .invoke _ _ => none
  | .value f => (ev x f).bind fun fv => (evL x c.args.toList).bind fun args => (aFn fv).bind fun (fn, a, b) => match fn with
    | .func g => (P.funcs[g]?).bind fun d => cond d.body.isSome (some (.enter g (a ++ args ++ b), st, Log.no)) (aPl P o x st)
    | _ => none

def aop (P : Program) (o : Oper) (x : AAct) (st : St) : Option (AN × St × Log) :=
  match o.op with
  | .move a => (ev x a).map (vno st)
  | .assign a => (ev x a).map (vno st)
  | .pick c a b => (ev x c).bind fun cv => match cv with
    | .val (.bool true) => (ev x a).map (vno st)
    | .val (.bool false) => (ev x b).map (vno st)
    | _ => none
  | .alloc t => (P.info? t).bind fun i => i.zero.bind fun z => (aNew st t (.val z)).map fun (y, st', lg) => (.value y, st', lg)
  | .box t a => (ev x a).bind fun q => (aNew st t q).map fun (y, st', lg) => (.value y, st', lg)
  | .build t ps => (evP x ps.toList).bind fun qs => (aBuild P t qs).map (vno st)
  | .buildSlice t n ps => (evP x ps.toList).bind fun qs => (aBuildSlice P st t n qs).map fun (y, st', lg) => (.value y, st', lg)
  | .load t a => (ev x a).bind fun q => (aLoad P st t q).map fun (y, lg) => (.value y, st, lg)
  | .store t a b => (ev x a).bind fun p => (ev x b).bind fun q => (aStore P st t p q).map fun (st', lg) => (.value (.val undef), st', lg)
  | .fieldAddr t a f => (ev x a).bind fun q => (aFieldAddr P t q f).map (vno st)
  | .field t a f => (ev x a).bind fun q => (aField P t q f).map (vno st)
  | .indexAddr t a i => (ev x a).bind fun q => (ev x i).bind fun j => match aIndexAddr P t q j with
    | some y => some (vno st y)
    | none => aPl P o x st
  | .extract a i => (ev x a).bind fun q => (aExtract q i).map (vno st)
  | .slice t a lo hi mx => (ev x a).bind fun q => (evO x lo).bind fun l => (evO x hi).bind fun h => (evO x mx).bind fun n => match aSlice P st t q l h n with
    | some (y, lg) => some (.value y, st, lg)
    | none => aPl P o x st
  | .makeFunc fn first cap => (evL x first.toList).bind fun a => (evL x cap.toList).map fun b => vno st (.func fn a b)
  | .makeSlice t l c => (ev x l).bind fun a => (ev x c).bind fun b => (aMakeSlice P st t a b).map fun (y, st', lg) => (.value y, st', lg)
  | .makeInterface t a => (ev x a).bind fun q => cond (isIface P t) none (some (vno st (.iface t q)))
  | .convert s d a => (ev x a).bind fun q => match aToString P st s d q with
    | some (y, lg) => some (.value y, st, lg)
    | none => match aToBytes P st s d q with
      | some (y, st', lg) => some (.value y, st', lg)
      | none => aPl P o x st
  | .nilCheck a => (ev x a).bind fun q => match q with
    | .ptr r v idx sz sub => some (vno st (.ptr r v idx sz sub))
    | .func (.func f) p c => some (vno st (.func (.func f) p c))
    | _ => aPl P o x st
  | .call c => aCall P o c x st
  | .defer c => match c.callee with
    | .value f => (ev x f).bind fun fv => (evL x c.args.toList).bind fun args => (aFn fv).map fun (fn, a, b) => (.defer { fn, cap := b, args := a ++ args }, st, Log.no)
    | _ => none
  | _ => aPl P o x st

theorem aPl_ok {P : Program} {o : Oper} {x : AAct} {a : Act} {st st' : St} {n : AN} {lg : Log} {A : Nat → Prop} {m : Map} {w : World} (h : aPl P o x st = some (n, st', lg)) (hT : TRel m x a) (hR : Rel W0 A m st.heap.get w) (hF : Fresh A m st.next) :
    ∃ m' w', Ok W0 A m st w m' st' lg w' ∧ Meets P m' (execOp a.eval o) w w' n := by
  simp only [aPl, Option.map_eq_some_iff] at h
  obtain ⟨r, hr, he⟩ := h
  have := aPlain_ok hT hr w
  cases r with
  | inl v => cases he; exact ⟨m, w, Ok.refl hR hF, v, rfl, .inl this⟩
  | inr v => cases he; exact ⟨m, w, Ok.refl hR hF, this⟩

theorem run_callFunc_enter {P : Program} {g : FuncId} {d : Func} (hd : P.funcs[g]? = some d) (hn : (d.name == "runtime.NumGoroutine") = false) (hb : d.body.isNone = false) (args : Array Value) (w : World) : (callFunc g args).run P w = .ok (.enter g args) w := by
  simp only [callFunc, Sem.run_bind, run_program, Result.andThen_ok, hd]
  rw [if_neg (by rw [hn]; simp), if_neg (by rw [hb]; simp)]
  rfl
theorem run_v {P : Program} {s : Sem Value} {v : Value} {w w' : World} (h : s.run P w = .ok v w') : (do pure (Next.value (← s)) : Sem Next).run P w = .ok (.value v) w' := by simp [h]

theorem aCall_ok {P : Program} (hN : GoodP P) {o : Oper} {c : Call} (ho : o.op = .call c) {x : AAct} {a : Act} {st st' : St} {n : AN} {lg : Log} {A : Nat → Prop} {m : Map} {w : World} (h : aCall P o c x st = some (n, st', lg)) (hA : lg.Fits W0 A) (hT : TRel m x a) (hR : Rel W0 A m st.heap.get w) (hF : Fresh A m st.next) :
    ∃ m' w', Ok W0 A m st w m' st' lg w' ∧ Meets P m' (execOp a.eval o) w w' n := by
  have hex : execOp a.eval o = (do let d ← resolve a.eval c o.type; invoke d.target d.args) := by unfold execOp; rw [ho]
  have hbu : ∀ b, c.callee = .builtin b → ∃ cs, execOp a.eval o = builtin b c.argTypes o.type cs (c.args.map a.eval) := fun b hb => by
    rw [hex]; unfold resolve; rw [hb]; exact ⟨_, rfl⟩
  unfold aCall at h
  split at h
  · rename_i hc
    obtain ⟨cs, hcs⟩ := hbu _ hc
    split at h
    · rename_i t tx s y hat har
      simp only [Option.bind_eq_some_iff, Option.map_eq_some_iff] at h
      obtain ⟨p, hp, q, hq, ⟨z, s1, l1⟩, hap, he⟩ := h
      cases he
      have e1 : c.argTypes = #[t, tx] := by apply Array.ext'; simpa using hat
      have e2 : c.args = #[s, y] := by apply Array.ext'; simpa using har
      obtain ⟨m', w', v, hv, hrun, hok⟩ := aAppend_ok (ty := o.type) hap hA hR hF (ev_ok hT hp) (ev_ok hT hq)
      refine ⟨m', w', hok, v, hv, .inl ?_⟩
      rw [hcs, e1, e2]
      simpa [builtin] using run_v hrun
    · cases h
  · rename_i hc
    obtain ⟨cs, hcs⟩ := hbu _ hc
    split at h
    · rename_i t tx s y hat har
      simp only [Option.bind_eq_some_iff, Option.map_eq_some_iff] at h
      obtain ⟨p, hp, q, hq, ⟨z, s1, l1⟩, hap, he⟩ := h
      cases he
      have e1 : c.argTypes = #[t, tx] := by apply Array.ext'; simpa using hat
      have e2 : c.args = #[s, y] := by apply Array.ext'; simpa using har
      obtain ⟨m', w', v, hv, hrun, hok⟩ := aCopy_ok (ty := o.type) (tx := tx) hap hA hR hF (ev_ok hT hp) (ev_ok hT hq)
      refine ⟨m', w', hok, v, hv, .inl ?_⟩
      rw [hcs, e1, e2]
      simpa [builtin] using run_v hrun
    · cases h
  · rename_i hc
    obtain ⟨cs, hcs⟩ := hbu _ hc
    split at h
    · rename_i t s hat har
      simp only [Option.bind_eq_some_iff] at h
      obtain ⟨p, hp, h⟩ := h
      split at h
      · rename_i e r v lo sz len cap opn hu
        simp only [vno, Option.some.injEq, Prod.mk.injEq] at h
        obtain ⟨rfl, rfl, rfl⟩ := h
        have e1 : c.argTypes = #[t] := by apply Array.ext'; simpa using hat
        have e2 : c.args = #[s] := by apply Array.ext'; simpa using har
        have hv := ev_ok hT hp
        simp only [AV.den, Option.map_eq_some_iff] at hv
        obtain ⟨b, hb, hv⟩ := hv
        refine ⟨m, w, Ok.refl hR hF, _, rfl, .inl ?_⟩
        rw [hcs, e1, e2]
        simp [builtin, Builtin.len_, ← hv, run_underlying hu, goInt]
      · exact aPl_ok h hT hR hF
    · cases h
  · rename_i hc
    obtain ⟨cs, hcs⟩ := hbu _ hc
    split at h
    · rename_i t s hat har
      simp only [Option.bind_eq_some_iff] at h
      obtain ⟨p, hp, h⟩ := h
      split at h
      · rename_i e r v lo sz len cap hu
        simp only [vno, Option.some.injEq, Prod.mk.injEq] at h
        obtain ⟨rfl, rfl, rfl⟩ := h
        have e1 : c.argTypes = #[t] := by apply Array.ext'; simpa using hat
        have e2 : c.args = #[s] := by apply Array.ext'; simpa using har
        have hv := ev_ok hT hp
        simp only [AV.den, Option.map_eq_some_iff] at hv
        obtain ⟨b, hb, hv⟩ := hv
        refine ⟨m, w, Ok.refl hR hF, _, rfl, .inl ?_⟩
        rw [hcs, e1, e2]
        simp [builtin, Builtin.cap_, ← hv, run_underlying hu, goInt]
      · exact aPl_ok h hT hR hF
    · cases h
  · exact aPl_ok h hT hR hF
  · cases h
  · rename_i f hc
    simp only [Option.bind_eq_some_iff] at h
    obtain ⟨fv, hfv, args, hargs, ⟨fn, p, q⟩, hfn, h⟩ := h
    obtain ⟨va, vb, hu, hda, hdb⟩ := aFn_ok hfn (ev_ok hT hfv)
    have hda' := evL_ok hT hargs
    dsimp only at h
    split at h
    · rename_i g
      simp only [Option.bind_eq_some_iff] at h
      obtain ⟨d, hd, h⟩ := h
      cases hbody : d.body.isSome with
      | false => simp only [hbody, cond_false] at h; exact aPl_ok h hT hR hF
      | true =>
        simp only [hbody, cond_true, Option.some.injEq, Prod.mk.injEq] at h
        obtain ⟨rfl, rfl, rfl⟩ := h
        refine ⟨m, w, Ok.refl hR hF, va.toList ++ c.args.toList.map a.eval ++ vb.toList, denL_append (denL_append hda hda') hdb, ?_⟩
        rw [hex]
        have hn := namesOk_ok hN.1 hd
        have hb' : d.body.isNone = false := by cases hq : d.body <;> simp_all
        simp only [resolve, hc, hu, Deferred.ofValue, invoke, Sem.run_bind, Sem.run_pure, Result.andThen_ok, run_callFunc_enter hd hn hb']
        congr 2
        apply Array.ext'
        simp
    · cases h

theorem aop_ok {P : Program} (hN : GoodP P) {o : Oper} {x : AAct} {a : Act} {st st' : St} {n : AN} {lg : Log} {A : Nat → Prop} {m : Map} {w : World} (h : aop P o x st = some (n, st', lg)) (hA : lg.Fits W0 A) (hT : TRel m x a) (hR : Rel W0 A m st.heap.get w) (hF : Fresh A m st.next) :
    ∃ m' w', Ok W0 A m st w m' st' lg w' ∧ Meets P m' (execOp a.eval o) w w' n := by
  unfold aop at h
  split at h
  · rename_i y ho
    simp only [Option.map_eq_some_iff, vno] at h
    obtain ⟨z, hz, he⟩ := h
    cases he
    exact ⟨m, w, Ok.refl hR hF, _, ev_ok hT hz, .inl (by simp [execOp, ho])⟩
  · rename_i y ho
    simp only [Option.map_eq_some_iff, vno] at h
    obtain ⟨z, hz, he⟩ := h
    cases he
    exact ⟨m, w, Ok.refl hR hF, _, ev_ok hT hz, .inl (by simp [execOp, ho])⟩
  · rename_i c y z ho
    simp only [Option.bind_eq_some_iff] at h
    obtain ⟨cv, hcv, h⟩ := h
    have hc := ev_ok hT hcv
    split at h
    · simp only [Option.map_eq_some_iff, vno] at h
      obtain ⟨q, hq, he⟩ := h
      cases he
      simp only [AV.den, Option.some.injEq] at hc
      exact ⟨m, w, Ok.refl hR hF, _, ev_ok hT hq, .inl (by simp [execOp, ho, ← hc, asBool])⟩
    · simp only [Option.map_eq_some_iff, vno] at h
      obtain ⟨q, hq, he⟩ := h
      cases he
      simp only [AV.den, Option.some.injEq] at hc
      exact ⟨m, w, Ok.refl hR hF, _, ev_ok hT hq, .inl (by simp [execOp, ho, ← hc, asBool])⟩
    · cases h
  · rename_i t ho
    simp only [Option.bind_eq_some_iff, Option.map_eq_some_iff] at h
    obtain ⟨i, hi, z, hz, ⟨y, s1, l1⟩, hnew, he⟩ := h
    cases he
    obtain ⟨m', w', p, hp, hrun, hok⟩ := aNew_ok (P := P) hnew hA hR hF rfl
    refine ⟨m', w', hok, _, hp, .inl ?_⟩
    simp [execOp, ho, Instr.alloc, zeroValue, typeInfo, hi, hz, hrun]
  · rename_i t y ho
    simp only [Option.bind_eq_some_iff, Option.map_eq_some_iff] at h
    obtain ⟨q, hq, ⟨y, s1, l1⟩, hnew, he⟩ := h
    cases he
    obtain ⟨m', w', p, hp, hrun, hok⟩ := aNew_ok (P := P) hnew hA hR hF (ev_ok hT hq)
    refine ⟨m', w', hok, _, hp, .inl ?_⟩
    simp [execOp, ho, Instr.box, hrun]
  · rename_i t ps ho
    simp only [Option.bind_eq_some_iff, Option.map_eq_some_iff, vno] at h
    obtain ⟨qs, hqs, y, hy, he⟩ := h
    cases he
    obtain ⟨v, hv, hrun⟩ := aBuild_ok (vps := ps.map fun (i, o) => (i, a.eval o)) hy (by have := evP_ok hT hqs; simpa using this) w
    exact ⟨m, w, Ok.refl hR hF, v, hv, .inl (by simp [execOp, ho, hrun])⟩
  · rename_i t k ps ho
    simp only [Option.bind_eq_some_iff, Option.map_eq_some_iff] at h
    obtain ⟨qs, hqs, ⟨y, s1, l1⟩, hy, he⟩ := h
    cases he
    obtain ⟨m', w', v, hv, hrun, hok⟩ := aBuildSlice_ok (vps := ps.map fun (i, o) => (i, a.eval o)) hy hA hR hF (by have := evP_ok hT hqs; simpa using this)
    exact ⟨m', w', hok, v, hv, .inl (by simp [execOp, ho, hrun])⟩
  · rename_i t y ho
    simp only [Option.bind_eq_some_iff, Option.map_eq_some_iff] at h
    obtain ⟨q, hq, ⟨z, l1⟩, hl, he⟩ := h
    cases he
    obtain ⟨v, hv, hrun⟩ := aLoad_ok hl hA hR (ev_ok hT hq)
    exact ⟨m, w, Ok.refl hR hF, v, hv, .inl (by simp [execOp, ho, hrun])⟩
  · rename_i t y z ho
    simp only [Option.bind_eq_some_iff, Option.map_eq_some_iff] at h
    obtain ⟨p, hp, q, hq, ⟨s1, l1⟩, hs, he⟩ := h
    cases he
    obtain ⟨w', hrun, hok⟩ := aStore_ok hs hA hR hF (ev_ok hT hp) (ev_ok hT hq)
    exact ⟨m, w', hok, undef, rfl, .inr ⟨rfl, by simp [execOp, ho, hrun]⟩⟩
  · rename_i t y f ho
    simp only [Option.bind_eq_some_iff, Option.map_eq_some_iff, vno] at h
    obtain ⟨q, hq, z, hz, he⟩ := h
    cases he
    obtain ⟨v, hv, hrun⟩ := aFieldAddr_ok hz (ev_ok hT hq) w
    exact ⟨m, w, Ok.refl hR hF, v, hv, .inl (by simp [execOp, ho, hrun])⟩
  · rename_i t y f ho
    simp only [Option.bind_eq_some_iff, Option.map_eq_some_iff, vno] at h
    obtain ⟨q, hq, z, hz, he⟩ := h
    cases he
    obtain ⟨v, hv, hrun⟩ := aField_ok hz (ev_ok hT hq) w
    exact ⟨m, w, Ok.refl hR hF, v, hv, .inl (by simp [execOp, ho, hrun])⟩
  · rename_i t y i ho
    simp only [Option.bind_eq_some_iff] at h
    obtain ⟨q, hq, j, hj, h⟩ := h
    split at h
    · rename_i z hz
      simp only [vno, Option.some.injEq, Prod.mk.injEq] at h
      obtain ⟨rfl, rfl, rfl⟩ := h
      obtain ⟨v, hv, hrun⟩ := aIndexAddr_ok hz (ev_ok hT hq) (ev_ok hT hj) w
      exact ⟨m, w, Ok.refl hR hF, v, hv, .inl (by simp [execOp, ho, hrun])⟩
    · exact aPl_ok h hT hR hF
  · rename_i y i ho
    simp only [Option.bind_eq_some_iff, Option.map_eq_some_iff, vno] at h
    obtain ⟨q, hq, z, hz, he⟩ := h
    cases he
    obtain ⟨v, hv, hrun⟩ := aExtract_ok (P := P) hz (ev_ok hT hq) w
    exact ⟨m, w, Ok.refl hR hF, v, hv, .inl (by simp [execOp, ho, hrun])⟩
  · rename_i t y lo hi mx ho
    simp only [Option.bind_eq_some_iff] at h
    obtain ⟨q, hq, l, hl, hh, hhh, k, hk, h⟩ := h
    split at h
    · rename_i z lg' hz
      simp only [Option.some.injEq, Prod.mk.injEq] at h
      obtain ⟨rfl, rfl, rfl⟩ := h
      obtain ⟨v, hv, hrun⟩ := aSlice_ok hz hA hR (ev_ok hT hq) (evO_ok hT hl) (evO_ok hT hhh) (evO_ok hT hk)
      exact ⟨m, w, Ok.refl hR hF, v, hv, .inl (by simp [execOp, ho, hrun])⟩
    · exact aPl_ok h hT hR hF
  · rename_i fn first cap ho
    simp only [Option.bind_eq_some_iff, Option.map_eq_some_iff, vno] at h
    obtain ⟨p, hp, q, hq, he⟩ := h
    cases he
    refine ⟨m, w, Ok.refl hR hF, .func fn (first.map a.eval) (cap.map a.eval), ?_, .inl (by simp [execOp, ho, Instr.makeFunc])⟩
    simp [AV.den, evL_ok hT hp, evL_ok hT hq]
    exact ⟨by apply Array.ext'; simp, by apply Array.ext'; simp⟩
  · rename_i t l c ho
    simp only [Option.bind_eq_some_iff, Option.map_eq_some_iff] at h
    obtain ⟨p, hp, q, hq, ⟨y, s1, l1⟩, hy, he⟩ := h
    cases he
    obtain ⟨m', w', v, hv, hrun, hok⟩ := aMakeSlice_ok hy hA hR hF (ev_ok hT hp) (ev_ok hT hq)
    exact ⟨m', w', hok, v, hv, .inl (by simp [execOp, ho, hrun])⟩
  · rename_i t y ho
    simp only [Option.bind_eq_some_iff] at h
    obtain ⟨q, hq, h⟩ := h
    cases hi : isIface P t with
    | true => simp [hi] at h
    | false =>
      simp only [hi, cond_false, vno, Option.some.injEq, Prod.mk.injEq] at h
      obtain ⟨rfl, rfl, rfl⟩ := h
      refine ⟨m, w, Ok.refl hR hF, .iface t (a.eval y), by simp [AV.den, ev_ok hT hq], .inl ?_⟩
      unfold isIface at hi
      split at hi
      · cases hi
      · rename_i d hd hne
        simp only [execOp, ho, Instr.makeInterface, Sem.run_bind, run_underlying hne, Result.andThen_ok]
        cases d <;> first | rfl | exact absurd hne (hd _)
      · cases hi
  · rename_i s d y ho
    simp only [Option.bind_eq_some_iff] at h
    obtain ⟨q, hq, h⟩ := h
    split at h
    · rename_i z lg' hz
      simp only [Option.some.injEq, Prod.mk.injEq] at h
      obtain ⟨rfl, rfl, rfl⟩ := h
      obtain ⟨v, hv, hrun⟩ := aToString_ok hz hA hR (ev_ok hT hq)
      exact ⟨m, w, Ok.refl hR hF, v, hv, .inl (by simp [execOp, ho, hrun])⟩
    · split at h
      · rename_i z s1 lg' hz
        simp only [Option.some.injEq, Prod.mk.injEq] at h
        obtain ⟨rfl, rfl, rfl⟩ := h
        obtain ⟨m', w', v, hv, hrun, hok⟩ := aToBytes_ok hz hA hR hF (ev_ok hT hq)
        exact ⟨m', w', hok, v, hv, .inl (by simp [execOp, ho, hrun])⟩
      · exact aPl_ok h hT hR hF
  · rename_i y ho
    simp only [Option.bind_eq_some_iff] at h
    obtain ⟨q, hq, h⟩ := h
    have hv := ev_ok hT hq
    split at h
    · simp only [vno, Option.some.injEq, Prod.mk.injEq] at h
      obtain ⟨rfl, rfl, rfl⟩ := h
      refine ⟨m, w, Ok.refl hR hF, _, hv, .inl ?_⟩
      simp only [AV.den, Option.map_eq_some_iff] at hv
      obtain ⟨b, hb, hv⟩ := hv
      simp [execOp, ho, ← hv]
    · simp only [vno, Option.some.injEq, Prod.mk.injEq] at h
      obtain ⟨rfl, rfl, rfl⟩ := h
      refine ⟨m, w, Ok.refl hR hF, _, hv, .inl ?_⟩
      simp only [AV.den, Option.bind_eq_some_iff, Option.map_eq_some_iff] at hv
      obtain ⟨p, hp, c, hc, hv⟩ := hv
      simp [execOp, ho, ← hv]
    · exact aPl_ok h hT hR hF
  · rename_i c ho
    exact aCall_ok hN ho h hA hT hR hF
  · rename_i c ho
    split at h
    · rename_i f hc
      simp only [Option.bind_eq_some_iff, Option.map_eq_some_iff] at h
      obtain ⟨fv, hfv, args, hargs, ⟨fn, p, q⟩, hfn, he⟩ := h
      cases he
      obtain ⟨va, vb, hu, hda, hdb⟩ := aFn_ok hfn (ev_ok hT hfv)
      have hda' := evL_ok hT hargs
      refine ⟨m, w, Ok.refl hR hF, { target := .fn fn vb, args := va ++ c.args.map a.eval }, ?_, ?_⟩
      · simp [ADef.den, hdb, denL_append hda hda']
      · simp [execOp, ho, resolve, hc, hu, Deferred.ofValue]
    · cases h
  · exact aPl_ok h hT hR hF

end Go.Proofs.Ytfcdbknmajfkaaa.eng
