/- The engine's operations that only reckon: what they come to by names, and that the world's come to the same. -/
import Derived.Test.YtfcdbknmajfkaaaEng1
namespace Go.Proofs.Ytfcdbknmajfkaaa.eng
open Go
variable {W0 : Base}
set_option linter.unusedVariables false
set_option linter.unusedSimpArgs false

structure St where
  heap : T ARoot
  next : Nat
  /-- which ways a run goes where it is not known -/
  path : List Nat := []
  deriving Inhabited
/-- Which roots were looked at, which turned, and what was taken for granted. -/
structure Log where
  A : Nat
  T : Nat
  V : List Fact
def Log.or (a b : Log) : Log := ⟨a.A ||| b.A, a.T ||| b.T, a.V ++ b.V⟩
def Log.no : Log := ⟨0, 0, []⟩
def Log.sees (r : Nat) : Log := ⟨1 <<< r, 0, []⟩
def Log.turns (r : Nat) : Log := ⟨1 <<< r, 1 <<< r, []⟩
def Log.says (p : Fact) : Log := ⟨0, 0, [p]⟩
def bit (n : Nat) (r : Nat) : Prop := n.testBit r = true
theorem bit_or (a b r : Nat) : bit (a ||| b) r ↔ bit a r ∨ bit b r := by simp [bit]
theorem bit_one (n r : Nat) : bit (1 <<< n) r ↔ r = n := by
  simp only [bit, Nat.shiftLeft_eq, Nat.one_mul, Nat.testBit_two_pow]
  simp [eq_comm]
theorem bit_or_l {a b r : Nat} (h : bit a r) : bit (a ||| b) r := (bit_or a b r).2 (.inl h)
theorem bit_or_r {a b r : Nat} (h : bit b r) : bit (a ||| b) r := (bit_or a b r).2 (.inr h)
def Log.Fits (lg : Log) (W0 : Base) (A : Nat → Prop) : Prop := (∀ r, bit lg.A r → A r) ∧ ∀ p ∈ lg.V, p.holds W0
theorem or_A {l1 l2 : Log} {A : Nat → Prop} (h : (l1.or l2).Fits W0 A) : l1.Fits W0 A ∧ l2.Fits W0 A :=
  ⟨⟨fun r hr => h.1 r (bit_or_l hr), fun p hp => h.2 p (List.mem_append_left _ hp)⟩, ⟨fun r hr => h.1 r (bit_or_r hr), fun p hp => h.2 p (List.mem_append_right _ hp)⟩⟩
theorem bit_zero (r : Nat) : ¬ bit 0 r := by simp [bit]

structure Ok (W0 : Base) (A : Nat → Prop) (m : Map) (st : St) (w : World) (m' : Map) (st' : St) (lg : Log) (w' : World) : Prop where
  step : Step W0 A (bit lg.T) m st.heap.get w m' st'.heap.get w'
  fresh : Fresh A m' st'.next

theorem Ok.refl {A : Nat → Prop} {m : Map} {st : St} {w : World} {lg : Log} (h : Rel W0 A m st.heap.get w) (hf : Fresh A m st.next) : Ok W0 A m st w m st lg w := ⟨Step.refl h, hf⟩
theorem Ok.trans {A : Nat → Prop} {m m1 m2 : Map} {st st1 st2 : St} {w w1 w2 : World} {l1 l2 : Log} (h : Ok W0 A m st w m1 st1 l1 w1) (k : Ok W0 A m1 st1 w1 m2 st2 l2 w2) : Ok W0 A m st w m2 st2 (l1.or l2) w2 :=
  ⟨(h.step.trans k.step).more (fun r hr => by simpa [Log.or, bit_or] using hr), k.fresh⟩
theorem Ok.more {A : Nat → Prop} {m m1 : Map} {st st1 : St} {w w1 : World} {l1 l2 : Log} (h : Ok W0 A m st w m1 st1 l1 w1) (hl : ∀ r, bit l1.T r → bit l2.T r) : Ok W0 A m st w m1 st1 l2 w1 :=
  ⟨h.step.more hl, h.fresh⟩

/-- A thing put off: what is called, what it has caught, what it is given. -/
structure ADef where
  fn : Fn
  cap : List AV
  args : List AV
  deriving Inhabited
structure AAct where
  tm : T AV
  n : Nat
  defers : List ADef
  f : FuncId := 0
  deriving Inhabited

def ADef.den (m : Map) (d : ADef) : Option Deferred := (denL m d.cap).bind fun c => (denL m d.args).map fun a => { target := .fn d.fn c.toArray, args := a.toArray }
def denD (m : Map) : List ADef → Option (List Deferred)
  | [] => some []
  | d :: ds => (d.den m).bind fun x => (denD m ds).map (x :: ·)
theorem ADef.den_mono {m m' : Map} (h : m.Le m') {d : ADef} {x : Deferred} (hd : d.den m = some x) : d.den m' = some x := by
  simp only [ADef.den, Option.bind_eq_some_iff, Option.map_eq_some_iff] at hd ⊢
  obtain ⟨a, ha, b, hb, rfl⟩ := hd
  exact ⟨a, denL_mono h _ ha, b, denL_mono h _ hb, rfl⟩
theorem denD_mono {m m' : Map} (h : m.Le m') : ∀ {l : List ADef} {x : List Deferred}, denD m l = some x → denD m' l = some x
  | [], x, hx => hx
  | d :: ds, x, hx => by
    simp only [denD, Option.bind_eq_some_iff, Option.map_eq_some_iff] at hx ⊢
    obtain ⟨a, ha, b, hb, rfl⟩ := hx
    exact ⟨a, ADef.den_mono h ha, b, denD_mono h hb, rfl⟩

/-- The slots by names read as the slots. -/
structure TRel (m : Map) (x : AAct) (a : Act) : Prop where
  size : a.tmps.size = x.n
  get : ∀ t y, x.tm.get t = some y → ∃ v, y.den m = some v ∧ a.tmps[t]? = some v
  defers : denD m x.defers = some a.defers
theorem TRel.mono {m m' : Map} {x : AAct} {a : Act} (h : TRel m x a) (hm : m.Le m') : TRel m' x a :=
  ⟨h.size, fun t y hy => let ⟨v, hv, ht⟩ := h.get t y hy; ⟨v, AV.den_mono hm _ hv, ht⟩, denD_mono hm h.defers⟩

def ev (x : AAct) : Operand → Option AV
  | .tmp t => x.tm.get t
  | .const v => some (.val v)
  | .global _ => none
  | .func f => some (.val (.func (.func f) #[] #[]))
theorem ev_ok {m : Map} {x : AAct} {a : Act} (h : TRel m x a) {o : Operand} {y : AV} (hy : ev x o = some y) : y.den m = some (a.eval o) := by
  cases o with
  | tmp t =>
    obtain ⟨v, hv, ht⟩ := h.get t y hy
    rw [hv]
    simp [Act.eval, ht]
  | const v => simp [ev] at hy; subst hy; rfl
  | global g => simp [ev] at hy
  | func f => simp [ev] at hy; subst hy; rfl
def evL (x : AAct) : List Operand → Option (List AV)
  | [] => some []
  | o :: os => (ev x o).bind fun y => (evL x os).map (y :: ·)
theorem evL_ok {m : Map} {x : AAct} {a : Act} (h : TRel m x a) : ∀ {os : List Operand} {ys : List AV}, evL x os = some ys → denL m ys = some (os.map a.eval)
  | [], ys, hy => by simp [evL] at hy; subst hy; rfl
  | o :: os, ys, hy => by
    simp only [evL, Option.bind_eq_some_iff, Option.map_eq_some_iff] at hy
    obtain ⟨y, hy, z, hz, rfl⟩ := hy
    simp [denL, ev_ok h hy, evL_ok h hz]

def outOf (r : Value ⊕ Value) (w : World) : Result Next := match r with | .inl v => .ok (.value v) w | .inr v => .halt (.panic v) w
theorem pureNext_ok {P : Program} : ∀ (s : Sem Next) {r : Value ⊕ Value}, pureNext P s = some r → ∀ w, s.run P w = outOf r w := by
  intro s
  induction s with
  | pure n =>
    intro r h w
    cases n <;> simp [pureNext] at h
    subst h; rfl
  | program k ih => intro r h w; exact ih P h w
  | mark mk k ih => intro r h w; exact ih h w
  | halt h =>
    intro r h' w
    cases h <;> simp [pureNext] at h'
    subst h'; rfl
  | _ => intro r h w; simp [pureNext] at h

/-- The slots as values, where they bear no place. -/
def plain (x : AAct) (o : Operand) : Option Value := (ev x o).bind (·.den Map.empty)
def plainD (x : AAct) (o : Operand) : Value := (plain x o).getD undef
def plainAll (x : AAct) (l : List Operand) : Bool := l.all fun o => (plain x o).isSome
theorem plain_ok {m : Map} {x : AAct} {a : Act} (h : TRel m x a) {o : Operand} {v : Value} (hv : plain x o = some v) : a.eval o = v := by
  simp only [plain, Option.bind_eq_some_iff] at hv
  obtain ⟨y, hy, hv⟩ := hv
  have := ev_ok h hy
  rw [AV.den_mono (Map.empty_le m) y hv] at this
  exact (Option.some.inj this).symm
def aPlain (P : Program) (o : Oper) (x : AAct) : Option (Value ⊕ Value) :=
  cond (Op.isSelect o.op) none (cond (plainAll x o.op.operands.toList) (pureNext P (execOp (plainD x) o)) none)
theorem aPlain_ok {P : Program} {o : Oper} {m : Map} {x : AAct} {a : Act} {r : Value ⊕ Value} (h : TRel m x a) (hr : aPlain P o x = some r) (w : World) :
    (execOp a.eval o).run P w = outOf r w := by
  unfold aPlain at hr
  cases hs : Op.isSelect o.op with
  | true => simp [hs] at hr
  | false =>
    cases hp : plainAll x o.op.operands.toList with
    | false => simp [hs, hp] at hr
    | true =>
      simp [hs, hp] at hr
      rw [← pureNext_ok _ hr w]
      congr 1
      refine execOp_congr o (fun cs b he => by rw [he] at hs; simp [Op.isSelect] at hs) (fun y hy => ?_)
      simp only [plainAll, List.all_eq_true] at hp
      obtain ⟨v, hv⟩ := Option.isSome_iff_exists.1 (hp y (by simpa using hy))
      rw [plain_ok h hv, plainD, hv]
      rfl

/-! Types. -/
def tyAgg (P : Program) (t : TypeId) : Option Bool := (P.underlying t).map fun | .struct _ => true | .array _ _ => true | _ => false
def tySize (P : Program) (t : TypeId) : Option Nat := (P.info? t).map (·.size)
theorem run_isAgg_eng {P : Program} {t : TypeId} {b : Bool} (h : tyAgg P t = some b) (w : World) : (isAgg t).run P w = .ok b w := by
  simp only [tyAgg, Option.map_eq_some_iff] at h
  obtain ⟨d, hd, rfl⟩ := h
  simp only [isAgg, Sem.run_bind, run_underlying hd, Result.andThen_ok]
  cases d <;> rfl
theorem run_sizeOf_eng {P : Program} {t : TypeId} {n : Nat} (h : tySize P t = some n) (w : World) : (sizeOf t).run P w = .ok n w := by
  simp only [tySize, Option.map_eq_some_iff] at h
  obtain ⟨i, hi, rfl⟩ := h
  simp [sizeOf, typeInfo, hi]

/-! The parts of a struct. -/
def AV.cellsOf : AV → List AV
  | .val (.agg cs) => cs.toList.map .val
  | .agg cs => cs
  | x => [x]
def AV.aggs : AV → Option (List AV)
  | .val (.agg cs) => some (cs.toList.map .val)
  | .agg cs => some cs
  | _ => none
theorem denL_vals (m : Map) : ∀ l : List Value, denL m (l.map .val) = some l
  | [] => rfl
  | v :: l => by simp [denL, AV.den, denL_vals m l]
theorem cellsOf_ok {m : Map} {x : AV} {v : Value} (h : x.den m = some v) : denL m x.cellsOf = some v.cells.toList := by
  cases x with
  | val u =>
    simp only [AV.den, Option.some.injEq] at h
    subst h
    cases u <;> simp [AV.cellsOf, Value.cells, denL, AV.den, denL_vals]
  | agg cs =>
    simp only [AV.den, Option.map_eq_some_iff] at h
    obtain ⟨l, hl, rfl⟩ := h
    simpa [AV.cellsOf, Value.cells] using hl
  | ptr r v idx sz sub => simp only [AV.den, Option.map_eq_some_iff] at h; obtain ⟨b, hb, rfl⟩ := h; simp [AV.cellsOf, denL, AV.den, hb, Value.cells]
  | slice r v lo sz len cap opn => simp only [AV.den, Option.map_eq_some_iff] at h; obtain ⟨b, hb, rfl⟩ := h; simp [AV.cellsOf, denL, AV.den, hb, Value.cells]
  | dat r =>
    have h' := h
    simp only [AV.den, Option.bind_eq_some_iff] at h
    obtain ⟨b, hb, he⟩ := h
    cases hone : b.1.oneCell' with
    | false => simp [hone] at he
    | true =>
      simp only [hone, cond_true, Option.some.injEq] at he
      subst he
      have : (b.1.cells).toList = [b.1] := by revert hone; cases b.1 <;> simp [Value.oneCell', Value.cells]
      simp only [AV.cellsOf, denL, h', this, Option.bind_some, Option.map_some]
  | ptrD r e sz sub =>
    have h' := h
    simp only [AV.den, Option.bind_eq_some_iff] at h
    obtain ⟨b, hb, i, hi, n, hn, he⟩ := h
    unfold elemAt at he
    split at he
    · cases he; simp only [AV.cellsOf, denL, h', Value.cells]; rfl
    · cases he
  | sliceS r v lo len sz =>
    have h' := h
    simp only [AV.den, Option.bind_eq_some_iff, Option.map_eq_some_iff] at h
    obtain ⟨b, hb, l, hl, n, hn, l', hl', n', hn', rfl⟩ := h
    simp only [AV.cellsOf, denL, h', Value.cells]; rfl
  | ptrS r v e sz sub =>
    have h' := h
    simp only [AV.den, Option.bind_eq_some_iff, Option.map_eq_some_iff] at h
    obtain ⟨b, hb, i, hi, n, hn, rfl⟩ := h
    simp only [AV.cellsOf, denL, h', Value.cells]; rfl
  | sym e =>
    have h' := h
    simp only [AV.den, Option.bind_eq_some_iff] at h
    obtain ⟨b, hb, he⟩ := h
    cases hone : b.oneCell' with
    | false => simp [hone] at he
    | true =>
      simp only [hone, cond_true, Option.some.injEq] at he
      subst he
      have : (b.cells).toList = [b] := by revert hone; cases b <;> simp [Value.oneCell', Value.cells]
      simp only [AV.cellsOf, denL, h', this, Option.bind_some, Option.map_some]
  | tuple cs => have h' := h; simp only [AV.den, Option.map_eq_some_iff] at h; obtain ⟨b, hb, rfl⟩ := h; simp [AV.cellsOf, denL, h', Value.cells]
  | func fn f c => have h' := h; simp only [AV.den, Option.bind_eq_some_iff, Option.map_eq_some_iff] at h; obtain ⟨a, ha, b, hb, rfl⟩ := h; simp [AV.cellsOf, denL, h', Value.cells]
  | iface t y => have h' := h; simp only [AV.den, Option.map_eq_some_iff] at h; obtain ⟨b, hb, rfl⟩ := h; simp [AV.cellsOf, denL, h', Value.cells]
theorem aggs_ok {m : Map} {x : AV} {cs : List AV} {v : Value} (h : x.aggs = some cs) (hv : x.den m = some v) : ∃ l, v = .agg l.toArray ∧ denL m cs = some l := by
  cases x <;> simp [AV.aggs] at h
  · rename_i u
    cases u <;> simp at h
    rename_i a
    subst h
    simp only [AV.den, Option.some.injEq] at hv
    subst hv
    exact ⟨a.toList, by simp, denL_vals m _⟩
  · subst h
    simp only [AV.den, Option.map_eq_some_iff] at hv
    obtain ⟨l, hl, rfl⟩ := hv
    exact ⟨l, rfl, hl⟩
theorem denL_take {m : Map} : ∀ {l : List AV} {vs : List Value} (n : Nat), denL m l = some vs → denL m (l.take n) = some (vs.take n)
  | [], vs, n, h => by simp [denL] at h; subst h; simp [denL]
  | c :: cs, vs, n, h => by
    simp only [denL, Option.bind_eq_some_iff, Option.map_eq_some_iff] at h
    obtain ⟨a, ha, b, hb, rfl⟩ := h
    cases n with
    | zero => simp [denL]
    | succ n => simp [denL, ha, denL_take n hb]
theorem denL_drop {m : Map} : ∀ {l : List AV} {vs : List Value} (n : Nat), denL m l = some vs → denL m (l.drop n) = some (vs.drop n)
  | [], vs, n, h => by simp [denL] at h; subst h; simp [denL]
  | c :: cs, vs, n, h => by
    have h' := h
    simp only [denL, Option.bind_eq_some_iff, Option.map_eq_some_iff] at h
    obtain ⟨a, ha, b, hb, rfl⟩ := h
    cases n with
    | zero => simpa using h'
    | succ n => simpa using denL_drop n hb

def aPart (P : Program) (t : TypeId) (cs : List AV) (off : Nat) : Option AV :=
  (tyAgg P t).bind fun ag => cond ag ((tySize P t).map fun n => .agg ((cs.drop off).take n)) cs[off]?
theorem aPart_ok {P : Program} {t : TypeId} {cs : List AV} {off : Nat} {y : AV} {m : Map} {l : List Value} (h : aPart P t cs off = some y) (hl : denL m cs = some l) (w : World) :
    ∃ v, y.den m = some v ∧ (part t l.toArray off).run P w = .ok v w := by
  simp only [aPart, Option.bind_eq_some_iff] at h
  obtain ⟨ag, hag, h⟩ := h
  unfold part
  simp only [Sem.run_bind, run_isAgg_eng hag, Result.andThen_ok]
  cases ag with
  | true =>
    simp only [cond_true, Option.map_eq_some_iff] at h
    obtain ⟨n, hn, rfl⟩ := h
    refine ⟨.agg ((l.drop off).take n).toArray, ?_, ?_⟩
    · simp [AV.den, denL_take n (denL_drop off hl)]
    · simp [run_sizeOf_eng hn, List.extract_eq_take_drop]
  | false =>
    simp only [cond_false] at h
    obtain ⟨v, hv, hg⟩ := denL_get hl h
    refine ⟨v, hv, ?_⟩
    simp [hg]

def aField (P : Program) (t : TypeId) (x : AV) (f : Nat) : Option AV :=
  x.aggs.bind fun cs => match P.underlying t with
    | some (.struct fs) => (fs[f]?).bind fun fl => aPart P fl.type cs fl.offset
    | _ => none
theorem aField_ok {P : Program} {t : TypeId} {x y : AV} {f : Nat} {m : Map} {u : Value} (h : aField P t x f = some y) (hx : x.den m = some u) (w : World) :
    ∃ v, y.den m = some v ∧ (Instr.field t u f).run P w = .ok v w := by
  simp only [aField, Option.bind_eq_some_iff] at h
  obtain ⟨cs, hcs, h⟩ := h
  obtain ⟨l, rfl, hl⟩ := aggs_ok hcs hx
  split at h
  · rename_i fs hu
    simp only [Option.bind_eq_some_iff] at h
    obtain ⟨fl, hf, h⟩ := h
    obtain ⟨v, hv, hr⟩ := aPart_ok h hl w
    exact ⟨v, hv, by simp [Instr.field, run_underlying hu, hf, asAgg, hr]⟩
  · simp at h

def aExtract (x : AV) (i : Nat) : Option AV := match x with
  | .tuple cs => cs[i]?
  | .val (.tuple vs) => (vs[i]?).map .val
  | _ => none
theorem aExtract_ok {P : Program} {x y : AV} {i : Nat} {m : Map} {u : Value} (h : aExtract x i = some y) (hx : x.den m = some u) (w : World) :
    ∃ v, y.den m = some v ∧ (Instr.extract u i).run P w = .ok v w := by
  cases x <;> simp [aExtract] at h
  · rename_i a
    cases a <;> simp at h
    rename_i vs
    simp only [AV.den, Option.some.injEq] at hx
    subst hx
    obtain ⟨v, hv, rfl⟩ := h
    exact ⟨v, rfl, by simp [Instr.extract, hv]⟩
  · rename_i cs
    simp only [AV.den, Option.map_eq_some_iff] at hx
    obtain ⟨l, hl, rfl⟩ := hx
    obtain ⟨v, hv, hg⟩ := denL_get hl h
    exact ⟨v, hv, by simp [Instr.extract, hg]⟩

/-! Places. -/
def aFieldAddr (P : Program) (s : TypeId) (x : AV) (f : Nat) : Option AV := match x with
  | .ptr r v idx sz sub => match P.underlying s with
    | some (.struct fs) => (fs[f]?).bind fun fl => match tySize P fl.type with
      | some (_ + 1) => some (.ptr r v idx sz (sub + fl.offset))
      | _ => none
    | _ => none
  | .ptrD r e sz sub => match P.underlying s with
    | some (.struct fs) => (fs[f]?).bind fun fl => match tySize P fl.type with
      | some (_ + 1) => some (.ptrD r e sz (sub + fl.offset))
      | _ => none
    | _ => none
  | .ptrS r v e sz sub => match P.underlying s with
    | some (.struct fs) => (fs[f]?).bind fun fl => match tySize P fl.type with
      | some (_ + 1) => some (.ptrS r v e sz (sub + fl.offset))
      | _ => none
    | _ => none
  | _ => none
theorem elemAt_add {n k : Nat} {v u : Value} (h : elemAt n v = some u) : ∃ b off, u = .pointer (some ⟨b, off, none⟩) ∧ elemAt (n + k) v = some (.pointer (some ⟨b, off + k, none⟩)) := by
  unfold elemAt at h
  split at h
  · rename_i b off _ _
    cases h
    exact ⟨b, off + n, rfl, by simp [elemAt, Nat.add_assoc]⟩
  · cases h
theorem addr_add (b o n : Nat) : (⟨b, o, none⟩ : Addr).add n = ⟨b, o + n, none⟩ := by unfold Addr.add; split <;> simp_all
theorem aFieldAddr_ok {P : Program} {s : TypeId} {x y : AV} {f : Nat} {m : Map} {u : Value} (h : aFieldAddr P s x f = some y) (hx : x.den m = some u) (w : World) :
    ∃ v, y.den m = some v ∧ (Instr.fieldAt s u f).run P w = .ok v w := by
  unfold aFieldAddr at h
  split at h
  · rename_i r v idx sz sub
    split at h
    · rename_i fs hu
      simp only [Option.bind_eq_some_iff] at h
      obtain ⟨fl, hf, h⟩ := h
      split at h
      · rename_i k hk
        simp only [Option.some.injEq] at h
        subst h
        simp only [AV.den, Option.map_eq_some_iff] at hx
        obtain ⟨b, hb, rfl⟩ := hx
        refine ⟨.pointer (some ⟨b.1, idx * sz + (sub + fl.offset), none⟩), by simp [AV.den, hb], ?_⟩
        simp [Instr.fieldAt, run_underlying hu, hf, Instr.sureAddr, fieldPlace, run_sizeOf_eng hk, addr_add, Nat.add_assoc]
      · simp at h
    · simp at h
  · rename_i r e sz sub
    split at h
    · rename_i fs hu
      simp only [Option.bind_eq_some_iff] at h
      obtain ⟨fl, hf, h⟩ := h
      split at h
      · rename_i k hk
        simp only [Option.some.injEq] at h
        subst h
        simp only [AV.den, Option.bind_eq_some_iff] at hx
        obtain ⟨b, hb, i, hi, n, hn, he⟩ := hx
        obtain ⟨bb, off, rfl, h2⟩ := elemAt_add (k := fl.offset) he
        refine ⟨.pointer (some ⟨bb, off + fl.offset, none⟩), by simp [AV.den, hb, hi, hn, ← Nat.add_assoc, h2], ?_⟩
        simp [Instr.fieldAt, run_underlying hu, hf, Instr.sureAddr, fieldPlace, run_sizeOf_eng hk, addr_add]
      · simp at h
    · simp at h
  · rename_i r v e sz sub
    split at h
    · rename_i fs hu
      simp only [Option.bind_eq_some_iff] at h
      obtain ⟨fl, hf, h⟩ := h
      split at h
      · rename_i k hk
        simp only [Option.some.injEq] at h
        subst h
        simp only [AV.den, Option.bind_eq_some_iff, Option.map_eq_some_iff] at hx
        obtain ⟨b, hb, i, hi, n, hn, rfl⟩ := hx
        refine ⟨.pointer (some ⟨b.1, n * sz + (sub + fl.offset), none⟩), by simp [AV.den, hb, hi, hn], ?_⟩
        simp [Instr.fieldAt, run_underlying hu, hf, Instr.sureAddr, fieldPlace, run_sizeOf_eng hk, addr_add, Nat.add_assoc]
      · simp at h
    · simp at h
  · simp at h

def AV.int? : AV → Option (IntKind × Int) | .val (.int k n) => some (k, n) | _ => none
theorem int?_ok {m : Map} {x : AV} {k : IntKind} {n : Int} (h : x.int? = some (k, n)) : x.den m = some (.int k n) := by
  cases x <;> simp [AV.int?] at h
  rename_i v
  cases v <;> simp at h
  obtain ⟨rfl, rfl⟩ := h
  rfl

def aIndexAddr (P : Program) (t : TypeId) (x ix : AV) : Option AV :=
  ix.int?.bind fun (k, i) => match P.underlying t with
    | some (.slice e) => match x with
      | .slice r v lo sz len cap opn => cond (decide (0 ≤ i) && decide (i < (len : Int)) && (tySize P e == some sz)) (some (.ptr r v (lo + i.toNat) sz 0)) none
      | _ => none
    | some (.array n e) => match x with
      | .ptr r v idx sz sub => cond (decide (0 ≤ i) && decide (i < (n : Int))) ((tySize P e).map fun k => .ptr r v idx sz (sub + i.toNat * k)) none
      | .ptrD r q sz sub => cond (decide (0 ≤ i) && decide (i < (n : Int))) ((tySize P e).map fun k => .ptrD r q sz (sub + i.toNat * k)) none
      | _ => none
    | _ => none
theorem aIndexAddr_ok {P : Program} {t : TypeId} {x ix y : AV} {m : Map} {u iu : Value} (h : aIndexAddr P t x ix = some y) (hx : x.den m = some u) (hi : ix.den m = some iu) (w : World) :
    ∃ v, y.den m = some v ∧ (Instr.indexAt t u iu).run P w = .ok v w := by
  simp only [aIndexAddr, Option.bind_eq_some_iff] at h
  obtain ⟨⟨k, i⟩, hk, h⟩ := h
  rw [int?_ok hk] at hi
  cases hi
  simp only at h
  split at h
  · rename_i e hu
    split at h
    · rename_i r v lo sz len cap opn
      simp only [cond_eq_ite, Bool.and_eq_true, decide_eq_true_eq, beq_iff_eq] at h
      split at h
      · rename_i hc
        obtain ⟨⟨h0, h1⟩, hs⟩ := hc
        simp only [Option.some.injEq] at h
        subst h
        simp only [AV.den, Option.map_eq_some_iff] at hx
        obtain ⟨b, hb, rfl⟩ := hx
        refine ⟨.pointer (some ⟨b.1, (lo + i.toNat) * sz + 0, none⟩), by simp [AV.den, hb], ?_⟩
        simp [Instr.indexAt, asIntOf, run_underlying hu, h0, h1, run_sizeOf_eng hs, addr_add, Nat.add_mul]
      · simp at h
    · simp at h
  · rename_i n e hu
    split at h
    · rename_i r v idx sz sub
      simp only [cond_eq_ite, Bool.and_eq_true, decide_eq_true_eq] at h
      split at h
      · rename_i hc
        obtain ⟨h0, h1⟩ := hc
        simp only [Option.map_eq_some_iff] at h
        obtain ⟨s, hs, rfl⟩ := h
        simp only [AV.den, Option.map_eq_some_iff] at hx
        obtain ⟨b, hb, rfl⟩ := hx
        refine ⟨.pointer (some ⟨b.1, idx * sz + (sub + i.toNat * s), none⟩), by simp [AV.den, hb], ?_⟩
        simp [Instr.indexAt, asIntOf, run_underlying hu, h0, h1, run_sizeOf_eng hs, addr_add, Nat.add_assoc, Instr.sureAddr]
      · simp at h
    · rename_i r q sz sub
      simp only [cond_eq_ite, Bool.and_eq_true, decide_eq_true_eq] at h
      split at h
      · rename_i hc
        obtain ⟨h0, h1⟩ := hc
        simp only [Option.map_eq_some_iff] at h
        obtain ⟨s, hs, rfl⟩ := h
        simp only [AV.den, Option.bind_eq_some_iff] at hx
        obtain ⟨b, hb, i', hi', n', hn', he⟩ := hx
        obtain ⟨bb, off, rfl, h2⟩ := elemAt_add (k := i.toNat * s) he
        refine ⟨.pointer (some ⟨bb, off + i.toNat * s, none⟩), by simp [AV.den, hb, hi', hn', ← Nat.add_assoc, h2], ?_⟩
        simp [Instr.indexAt, asIntOf, run_underlying hu, h0, h1, run_sizeOf_eng hs, addr_add, Instr.sureAddr]
      · simp at h
    · simp at h
  · simp at h

end Go.Proofs.Ytfcdbknmajfkaaa.eng
