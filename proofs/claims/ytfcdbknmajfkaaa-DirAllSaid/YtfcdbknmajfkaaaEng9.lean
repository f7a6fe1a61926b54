/- The engine: operations one behind the other, code, calls. -/
import Derived.Test.YtfcdbknmajfkaaaEng8f
import Derived.Scope
namespace Go.Proofs.Ytfcdbknmajfkaaa.eng
open Go
variable {W0 : Base}
set_option linter.unusedVariables false
set_option linter.unusedSimpArgs false

inductive AX where
  | normal
  | exit (id : Nat)
  | goto (l : Nat)
  | ret
  | panic (v : Value)
inductive ARet where
  | ret (x : AV)
  | pan (v : Value)
def AX.to : AX → Exit
  | .normal => .normal
  | .exit id => .exit id
  | .goto l => .goto l
  | .ret => .ret
  | .panic v => .panic [{ v, recovered := false }]
abbrev CR := Option (AX × AAct × St × Log)
structure Eng where
  code : Code → AAct → St → CR
  loop : Code → AAct → St → CR
  call : FuncId → List AV → St → Option (ARet × St × Log)
  hint : FuncId → Oper → Option Hint

def AAct.put (x : AAct) (dst : Option Tmp) (y : AV) : Option AAct := match dst with
  | none => some x
  | some d => cond (Nat.blt d x.n && Nat.blt (d + 1) 16777216) (some { x with tm := T.set 24 x.tm d (some y) }) none
theorem AAct.put_ok {m : Map} {x x' : AAct} {a : Act} {dst : Option Tmp} {y : AV} {v : Value} (h : TRel m x a) (hp : x.put dst y = some x') (hy : y.den m = some v) : TRel m x' (a.put dst v) := by
  cases dst with
  | none => simp [AAct.put] at hp; subst hp; exact h
  | some d =>
    simp only [AAct.put] at hp
    cases hc : (Nat.blt d x.n && Nat.blt (d + 1) 16777216) with
    | false => simp [hc] at hp
    | true =>
      simp only [hc, cond_true, Option.some.injEq] at hp
      simp only [Bool.and_eq_true, Nat.blt_eq] at hc
      subst hp
      refine ⟨by simp [Act.put, h.size], ?_, h.defers⟩
      intro t z hz
      simp only at hz
      rw [T.get_set _ _ _ _ _ (by have := hc.2; exact this)] at hz
      simp only [Act.put]
      by_cases htd : t = d
      · subst htd
        simp at hz
        subst hz
        exact ⟨v, hy, by simp [h.size, hc.1]⟩
      · rw [if_neg htd] at hz
        obtain ⟨u, hu, hg⟩ := h.get t z hz
        exact ⟨u, hu, by rw [Array.getElem?_setIfInBounds_ne (Ne.symm htd)]; exact hg⟩

def wantedA (ops : Array Oper) (x : AAct) (o : Oper) : Option Bool := match o.guard with
  | none => some true
  | some (j, want) => match (ops[j]?).bind (·.dst) with
    | none => some false
    | some t => match x.tm.get t with
      | some (.val (.bool b)) => some (b == want)
      | some (.val (.tuple _)) => some false
      | _ => none
theorem wantedA_ok {m : Map} {ops : Array Oper} {x : AAct} {a : Act} {o : Oper} {b : Bool} (h : TRel m x a) (hw : wantedA ops x o = some b) : Region.wanted o (yielded ops a.tmps) = b := by
  unfold wantedA at hw
  unfold Region.wanted
  split at hw
  · rename_i hg
    rw [hg]; simp at hw; subst hw; rfl
  · rename_i j want hg
    rw [hg]
    simp only [yielded]
    split at hw
    · rename_i hd
      simp at hw; subst hw
      simp [hd]
    · rename_i t hd
      rw [hd]
      split at hw
      · rename_i c ht
        obtain ⟨v, hv, hg'⟩ := h.get t _ ht
        simp only [AV.den, Option.some.injEq] at hv
        subst hv
        simp only [Option.some.injEq] at hw
        subst hw
        simp [hg']
      · rename_i c ht
        obtain ⟨v, hv, hg'⟩ := h.get t _ ht
        simp only [AV.den, Option.some.injEq] at hv
        subst hv
        simp only [Option.some.injEq] at hw
        subst hw
        simp [hg']
      · cases hw

/-- One operation, the calls made. -/
def opA (P : Program) (E : Eng) (ops : Array Oper) (o : Oper) (x : AAct) (st : St) : Option (Option Value × AAct × St × Log) :=
  (wantedA ops x o).bind fun b => cond b
    ((aopH P (E.hint x.f o) o x st).bind fun (n, st1, l1) => match n with
      | .value y => (x.put o.dst y).map fun x' => (none, x', st1, l1)
      | .panic v => some (some v, x, st1, l1)
      | .enter f args => (E.call f args st1).bind fun (r, st2, l2) => match r with
        | .ret y => (x.put o.dst y).map fun x' => (none, x', st2, l1.or l2)
        | .pan v => some (some v, x, st2, l1.or l2)
      | .defer d => (AAct.put { x with defers := d :: x.defers } o.dst (.val undef)).map fun x' => (none, x', st1, l1))
    ((x.put o.dst (.val undef)).map fun x' => (none, x', st, Log.no))

def Gk (st st' : St) (lg : Log) : Prop := ∀ r, ¬ bit lg.T r → st'.heap.get r = st.heap.get r
def CallGk (C : FuncId → List AV → St → Option (ARet × St × Log)) : Prop := ∀ f args st r st' lg, C f args st = some (r, st', lg) → Gk st st' lg
def CPost (W0 : Base) (A : Nat → Prop) (m : Map) (st : St) (w : World) (r : ARet) (st' : St) (lg : Log) : Ending → World → Prop := fun e w' =>
  ∃ m', Ok W0 A m st w m' st' lg w' ∧ (match r with | .ret y => ∃ v, y.den m' = some v ∧ e = .returned v | .pan v => e = .panicked [{ v, recovered := false }])
def CallOk (P : Program) (C : FuncId → List AV → St → Option (ARet × St × Log)) : Prop :=
  ∀ f args st r st' lg, C f args st = some (r, st', lg) → ∀ W0 A m w vs, lg.Fits W0 A → Rel W0 A m st.heap.get w → Fresh A m st.next → denL m args = some vs → Calls P f vs.toArray w (CPost W0 A m st w r st' lg)
def XPost (W0 : Base) (A : Nat → Prop) (m : Map) (st : St) (w : World) (e : AX) (x' : AAct) (st' : St) (lg : Log) : Exit → Act → World → Prop := fun ex a' w' =>
  ∃ m', Ok W0 A m st w m' st' lg w' ∧ TRel m' x' a' ∧ ex = e.to
def CodeOk (P : Program) (C : Code → AAct → St → CR) : Prop :=
  ∀ c x st e x' st' lg, C c x st = some (e, x', st', lg) → ∀ W0 A m a w, lg.Fits W0 A → Rel W0 A m st.heap.get w → Fresh A m st.next → TRel m x a → c.wp P (XPost W0 A m st w e x' st' lg) a w
def LoopWp (P : Program) (c : Code) (Q : Exit → Act → World → Prop) (a : Act) (w : World) : Prop :=
  ∀ (b : Frame) (k : List Item) (cs : List Frame), ∃ e a' w', Q e a' w' ∧ Arrives P (lone (b.at a (.code c :: .inLoop c :: k)) cs w) b k cs e a' w'
def LoopOk (P : Program) (C : Code → AAct → St → CR) : Prop :=
  ∀ c x st e x' st' lg, C c x st = some (e, x', st', lg) → ∀ W0 A m a w, lg.Fits W0 A → Rel W0 A m st.heap.get w → Fresh A m st.next → TRel m x a → LoopWp P c (XPost W0 A m st w e x' st' lg) a w
structure EngOk (P : Program) (E : Eng) : Prop where
  code : CodeOk P E.code
  loop : LoopOk P E.loop
  call : CallOk P E.call


/-- One operation, held. -/
theorem opA_ok {P : Program} (hN : GoodP P) {E : Eng} (hE : CallOk P E.call) {ops : Array Oper} {o : Oper} {i : Nat} (hi : ops[i]? = some o) {x x' : AAct} {st st' : St} {pv : Option Value} {lg : Log} (h : opA P E ops o x st = some (pv, x', st', lg))
    {A : Nat → Prop} {m : Map} {a : Act} {w : World} (hA : lg.Fits W0 A) (hR : Rel W0 A m st.heap.get w) (hF : Fresh A m st.next) (hT : TRel m x a) {K : Act → World → Prop} {Q : Exit → Act → World → Prop}
    (hK : pv = none → ∀ m' a' w', Ok W0 A m st w m' st' lg w' → TRel m' x' a' → (∃ v, a'.tmps = (a.put o.dst v).tmps) → K a' w')
    (hQ : ∀ v, pv = some v → ∀ m' w', Ok W0 A m st w m' st' lg w' → TRel m' x' a → Q (.panic [{ v, recovered := false }]) a w') : wpOp P ops Q i K a w := by
  unfold opA at h
  simp only [Option.bind_eq_some_iff] at h
  obtain ⟨b, hb, h⟩ := h
  have hw := wantedA_ok hT hb
  unfold wpOp
  rw [hi]
  simp only [hw]
  cases b with
  | false =>
    simp only [cond_false, Option.map_eq_some_iff, Prod.mk.injEq] at h
    obtain ⟨x1, hx1, rfl, rfl, rfl, rfl⟩ := h
    simp only [Bool.false_eq_true, if_false]
    exact hK rfl m _ w (Ok.refl hR hF) (AAct.put_ok hT hx1 rfl) ⟨undef, rfl⟩
  | true =>
    simp only [cond_true, Option.bind_eq_some_iff] at h
    obtain ⟨⟨n, st1, l1⟩, hop, h⟩ := h
    simp only [if_true]
    refine .inl ?_
    unfold Oper.wp
    cases n with
    | value y =>
      simp only [Option.map_eq_some_iff, Prod.mk.injEq] at h
      obtain ⟨x1, hx1, rfl, rfl, rfl, rfl⟩ := h
      obtain ⟨m', w', hok, v, hv, hrun⟩ := aopH_ok hN hop hA hT hR hF
      rcases hrun with hrun | ⟨rfl, hrun⟩
      · rw [hrun]
        exact hK rfl m' _ w' hok (AAct.put_ok (hT.mono hok.ext) hx1 hv) ⟨v, rfl⟩
      · rw [hrun]
        exact hK rfl m' _ w' hok (AAct.put_ok (hT.mono hok.ext) hx1 hv) ⟨undef, rfl⟩
    | panic v =>
      simp only [Option.some.injEq, Prod.mk.injEq] at h
      obtain ⟨rfl, rfl, rfl, rfl⟩ := h
      obtain ⟨m', w', hok, hrun⟩ := aopH_ok hN hop hA hT hR hF
      simp only [Meets] at hrun
      rw [hrun]
      exact hQ v rfl m' w' hok (hT.mono hok.ext)
    | enter f args =>
      simp only [Option.bind_eq_some_iff] at h
      obtain ⟨⟨r, st2, l2⟩, hcall, h⟩ := h
      have key : ∀ (hA' : (l1.or l2).Fits W0 A), ∃ m1 w1, ∃ vs : List Value, Ok W0 A m st w m1 st1 l1 w1 ∧ (execOp a.eval o).run P w = .ok (.enter f vs.toArray) w1 ∧ Calls P f vs.toArray w1 (CPost W0 A m1 st1 w1 r st2 l2) := by
        intro hA'
        obtain ⟨m1, w1, hok, vs, hvs, hrun⟩ := aopH_ok hN hop (or_A hA').1 hT hR hF
        exact ⟨m1, w1, vs, hok, hrun, hE f args st1 r st2 l2 hcall W0 A m1 w1 vs (or_A hA').2 hok.rel hok.fresh hvs⟩
      cases r with
      | ret y =>
        simp only [Option.map_eq_some_iff, Prod.mk.injEq] at h
        obtain ⟨x1, hx1, rfl, rfl, rfl, rfl⟩ := h
        obtain ⟨m1, w1, vs, hok, hrun, hc⟩ := key hA
        rw [hrun]
        refine Calls.mono hc ?_
        rintro e w2 ⟨m2, hok2, v, hv, rfl⟩
        exact hK rfl m2 _ w2 (hok.trans hok2) (AAct.put_ok ((hT.mono hok.ext).mono hok2.ext) hx1 hv) ⟨v, rfl⟩
      | pan v =>
        simp only [Option.some.injEq, Prod.mk.injEq] at h
        obtain ⟨rfl, rfl, rfl, rfl⟩ := h
        obtain ⟨m1, w1, vs, hok, hrun, hc⟩ := key hA
        rw [hrun]
        refine Calls.mono hc ?_
        rintro e w2 ⟨m2, hok2, rfl⟩
        exact hQ v rfl m2 w2 (hok.trans hok2) ((hT.mono hok.ext).mono hok2.ext)
    | defer d =>
      simp only [Option.map_eq_some_iff, Prod.mk.injEq] at h
      obtain ⟨x1, hx1, rfl, rfl, rfl, rfl⟩ := h
      obtain ⟨m', w', hok, d', hd, hrun⟩ := aopH_ok hN hop hA hT hR hF
      rw [hrun]
      have hT' := hT.mono hok.ext
      have hT2 : TRel m' { x with defers := d :: x.defers } { a with defers := d' :: a.defers } := ⟨hT'.size, hT'.get, by simp [denD, hd, hT'.defers]⟩
      refine hK rfl m' _ w' hok (AAct.put_ok hT2 hx1 rfl) ⟨undef, ?_⟩
      cases o.dst <;> rfl

theorem upon_mono' {P : Program} {o : Oper} {a : Act} {K K' : Act → World → Prop} {Q Q' : Exit → Act → World → Prop} (hK : ∀ a w, K a w → K' a w) (hQ : ∀ e a w, Q e a w → Q' e a w) {r : Result Next} (h : o.upon P a K Q r) : o.upon P a K' Q' r := by
  have hL : LetsOut Q → LetsOut Q' := fun ⟨a, w, hq⟩ => ⟨a, w, hQ _ _ _ hq⟩
  cases r with
  | ok n w' =>
    cases n <;> simp only [Oper.upon] at h ⊢
    case value v => exact hK _ _ h
    case skip => exact hK _ _ h
    case defer d => exact hK _ _ h
    case enter f args =>
      refine Calls.mono h fun e w'' he => ?_
      cases e with
      | returned v => exact hK _ _ he
      | panicked c => exact hQ _ _ _ he
      | outgrown => exact hL he
    case row row args => exact Rows.mono h fun v w'' he => hK _ _ he
  | halt x w' => cases x <;> simp only [Oper.upon] at h ⊢; exact hQ _ _ _ h
theorem wpOp_mono' {P : Program} {ops : Array Oper} {i : Nat} {a : Act} {w : World} {K K' : Act → World → Prop} {Q Q' : Exit → Act → World → Prop} (hK : ∀ a w, K a w → K' a w) (hQ : ∀ e a w, Q e a w → Q' e a w) (h : wpOp P ops Q i K a w) : wpOp P ops Q' i K' a w := by
  unfold wpOp at *
  split
  · rename_i hn; rw [hn] at h; exact hK _ _ h
  · rename_i o ho
    rw [ho] at h
    simp only at h
    split
    · rename_i hw
      rw [if_pos hw] at h
      exact h.imp (upon_mono' hK hQ) (fun ⟨h1, a, w, hq⟩ => ⟨h1, a, w, hQ _ _ _ hq⟩)
    · rename_i hw
      rw [if_neg hw] at h
      exact hK _ _ h
theorem wpOps_mono {P : Program} {ops : Array Oper} {Q Q' : Exit → Act → World → Prop} (hQ : ∀ e a w, Q e a w → Q' e a w) : ∀ (l : List Nat) (a : Act) (w : World), wpOps P ops Q l a w → wpOps P ops Q' l a w := by
  intro l
  induction l with
  | nil => intro a w h; exact hQ _ _ _ h
  | cons i rest ih =>
    intro a w h
    rw [wpOps_cons] at h ⊢
    exact wpOp_mono' ih hQ h

/-- Operations in their order. -/
def opsA (P : Program) (E : Eng) (ops : Array Oper) : List Oper → AAct → St → CR
  | [], x, st => some (.normal, x, st, Log.no)
  | o :: rest, x, st => (opA P E ops o x st).bind fun (pv, x1, st1, l1) => match pv with
    | some v => some (.panic v, x1, st1, l1)
    | none => (opsA P E ops rest x1 st1).map fun (e, x2, st2, l2) => (e, x2, st2, l1.or l2)
theorem opsA_ok {P : Program} (hN : GoodP P) {E : Eng} (hE : CallOk P E.call) {ops : Array Oper} : ∀ (l pre : List Oper) (x : AAct) (st : St) (e : AX) (x' : AAct) (st' : St) (lg : Log), ops.toList = pre ++ l → opsA P E ops l x st = some (e, x', st', lg) →
    ∀ (A : Nat → Prop) (m : Map) (a : Act) (w : World), lg.Fits W0 A → Rel W0 A m st.heap.get w → Fresh A m st.next → TRel m x a → wpOps P ops (XPost W0 A m st w e x' st' lg) (List.range' pre.length l.length) a w := by
  intro l
  induction l with
  | nil =>
    intro pre x st e x' st' lg hops h A m a w hA hR hF hT
    simp only [opsA, Option.some.injEq, Prod.mk.injEq] at h
    obtain ⟨rfl, rfl, rfl, rfl⟩ := h
    exact ⟨m, Ok.refl hR hF, hT, rfl⟩
  | cons o rest ih =>
    intro pre x st e x' st' lg hops h A m a w hA hR hF hT
    simp only [opsA, Option.bind_eq_some_iff] at h
    obtain ⟨⟨pv, x1, st1, l1⟩, hop, h⟩ := h
    have hi : ops[pre.length]? = some o := by
      rw [← Array.getElem?_toList, hops]
      simp
    rw [List.length_cons, List.range'_succ, wpOps_cons]
    cases pv with
    | some v =>
      simp only [Option.some.injEq, Prod.mk.injEq] at h
      obtain ⟨rfl, rfl, rfl, rfl⟩ := h
      refine opA_ok hN hE hi hop hA hR hF hT (fun hn => by cases hn) (fun v' hv m' w' hok hT' => ?_)
      cases hv
      exact ⟨m', hok, hT', rfl⟩
    | none =>
      simp only [Option.map_eq_some_iff] at h
      obtain ⟨⟨e2, x2, st2, l2⟩, hrest, he⟩ := h
      cases he
      refine opA_ok hN hE hi hop (or_A hA).1 hR hF hT (fun _ m1 a1 w1 hok hT1 _ => ?_) (fun v' hv => by cases hv)
      have := ih (pre ++ [o]) x1 st1 e2 x2 st2 l2 (by rw [hops]; simp) hrest A m1 a1 w1 (or_A hA).2 hok.rel hok.fresh hT1
      rw [List.length_append, List.length_singleton] at this
      refine wpOps_mono ?_ _ a1 w1 this
      rintro ex a' w' ⟨m', hok', hT', rfl⟩
      exact ⟨m', hok.trans hok', hT', rfl⟩

end Go.Proofs.Ytfcdbknmajfkaaa.eng
