/- The engine: what a call answers; things put off; recovery. -/
import Derived.Test.YtfcdbknmajfkaaaEng9
namespace Go.Proofs.Ytfcdbknmajfkaaa.eng
open Go
variable {W0 : Base}
set_option linter.unusedVariables false
set_option linter.unusedSimpArgs false

def aRes1 (P : Program) (x : AAct) (st : St) : ResultVar → Option (AV × Log)
  | .tmp t => (x.tm.get t).map fun y => (y, Log.no)
  | .cell a t => (x.tm.get a).bind fun p => aLoad P st t p
def aResL (P : Program) (x : AAct) (st : St) : List ResultVar → Option (List AV × Log)
  | [] => some ([], Log.no)
  | r :: rs => (aRes1 P x st r).bind fun (y, l1) => (aResL P x st rs).map fun (ys, l2) => (y :: ys, l1.or l2)
def aResults (P : Program) (fn : Func) (x : AAct) (st : St) : Option (AV × Log) := (aResL P x st fn.results.toList).map fun (ys, lg) => (match ys with | [y] => y | _ => .tuple ys, lg)

theorem aLoad_ptr {P : Program} {st : St} {t : TypeId} {x : AV} {y : AV} {lg : Log} (h : aLoad P st t x = some (y, lg)) {m : Map} {u : Value} (hx : x.den m = some u) : ∃ p, u = .pointer (some p) := by
  unfold aLoad at h
  split at h
  · simp only [AV.den, Option.map_eq_some_iff] at hx
    obtain ⟨b, _, rfl⟩ := hx
    exact ⟨_, rfl⟩
  · cases h

def resSem (tmps : Array Value) : ResultVar → Sem Value
  | .tmp t => pure (tmps.getD t undef)
  | .cell q t => do loadVar t (← asAddr (tmps.getD q undef))
theorem aRes1_ok {P : Program} {x : AAct} {a : Act} {st : St} {r : ResultVar} {y : AV} {lg : Log} {A : Nat → Prop} {m : Map} {w : World} (h : aRes1 P x st r = some (y, lg)) (hA : lg.Fits W0 A) (hR : Rel W0 A m st.heap.get w) (hT : TRel m x a) :
    ∃ v, y.den m = some v ∧ (resSem a.tmps r).run P w = .ok v w := by
  cases r with
  | tmp t =>
    simp only [aRes1, Option.map_eq_some_iff, Prod.mk.injEq] at h
    obtain ⟨z, hz, rfl, rfl⟩ := h
    obtain ⟨v, hv, hg⟩ := hT.get t z hz
    exact ⟨v, hv, by simp [resSem, hg]⟩
  | cell q t =>
    simp only [aRes1, Option.bind_eq_some_iff] at h
    obtain ⟨z, hz, h⟩ := h
    obtain ⟨v, hv, hg⟩ := hT.get q z hz
    obtain ⟨p, rfl⟩ := aLoad_ptr h hv
    obtain ⟨u, hu, hrun⟩ := aLoad_ok h hA hR hv
    refine ⟨u, hu, ?_⟩
    simp only [Instr.loadAt, Instr.sureAddr, Sem.run_bind, Sem.run_pure, Result.andThen_ok] at hrun
    simp [resSem, hg, asAddr, hrun]

theorem aResL_ok {P : Program} {x : AAct} {a : Act} {st : St} {A : Nat → Prop} {m : Map} {w : World} (hR : Rel W0 A m st.heap.get w) (hT : TRel m x a) : ∀ (rs : List ResultVar) {ys : List AV} {lg : Log}, aResL P x st rs = some (ys, lg) → lg.Fits W0 A →
    ∃ vs, denL m ys = some vs ∧ (rs.mapM (resSem a.tmps)).run P w = .ok vs w
  | [], ys, lg, h, hA => by
    simp only [aResL, Option.some.injEq, Prod.mk.injEq] at h
    obtain ⟨rfl, rfl⟩ := h
    exact ⟨[], rfl, by simp⟩
  | r :: rs, ys, lg, h, hA => by
    simp only [aResL, Option.bind_eq_some_iff, Option.map_eq_some_iff] at h
    obtain ⟨⟨y, l1⟩, h1, ⟨zs, l2⟩, h2, he⟩ := h
    cases he
    obtain ⟨v, hv, hrun⟩ := aRes1_ok h1 (or_A hA).1 hR hT
    obtain ⟨vs, hvs, hruns⟩ := aResL_ok hR hT rs h2 (or_A hA).2
    refine ⟨v :: vs, by simp [denL, hv, hvs], ?_⟩
    rw [List.mapM_cons]
    simp only [Sem.run_bind, hrun, Result.andThen_ok, hruns, Sem.run_pure]

theorem aResults_ok {P : Program} {fn : Func} {x : AAct} {a : Act} {st : St} {y : AV} {lg : Log} {A : Nat → Prop} {m : Map} {w : World} (h : aResults P fn x st = some (y, lg)) (hA : lg.Fits W0 A) (hR : Rel W0 A m st.heap.get w) (hT : TRel m x a) :
    ∃ v, y.den m = some v ∧ (results fn a.tmps).run P w = .ok v w := by
  simp only [aResults, Option.map_eq_some_iff] at h
  obtain ⟨⟨ys, l1⟩, hl, he⟩ := h
  cases he
  obtain ⟨vs, hvs, hrun⟩ := aResL_ok hR hT _ hl hA
  have hlen := denL_length hvs
  have hres : results fn a.tmps = (do let vs ← fn.results.mapM (resSem a.tmps); pure (if h : vs.size = 1 then vs[0] else .tuple vs)) := by
    unfold results
    congr 2
  rw [hres, Array.mapM_eq_mapM_toList]
  simp only [Sem.run_bind, Sem.run_map, hrun, Result.andThen_ok, Sem.run_pure]
  by_cases h1 : vs.length = 1
  · obtain ⟨v, rfl⟩ : ∃ v, vs = [v] := by
      match vs, h1 with
      | [v], _ => exact ⟨v, rfl⟩
    obtain ⟨z, rfl⟩ : ∃ z, ys = [z] := by
      match ys, hlen with
      | [z], _ => exact ⟨z, rfl⟩
    have hz : z.den m = some v := by
      simp only [denL, Option.bind_eq_some_iff, Option.map_eq_some_iff] at hvs
      obtain ⟨q, hq, b, hb, he⟩ := hvs
      cases he
      exact hq
    exact ⟨v, hz, by simp⟩
  · refine ⟨.tuple vs.toArray, ?_, by simp [h1]⟩
    have : (match ys with | [y] => y | _ => AV.tuple ys) = .tuple ys := by
      match ys, hlen with
      | [], _ => rfl
      | [z], h => simp at h; exact absurd h h1
      | _ :: _ :: _, _ => rfl
    rw [this]
    simp [AV.den, hvs]

/-! A frame at its beginning. -/
def mkTm : List AV → Nat → T AV → T AV
  | [], _, t => t
  | y :: ys, i, t => mkTm ys (i + 1) (T.set 24 t i (some y))
theorem mkTm_get : ∀ (ys : List AV) (i : Nat) (t : T AV) (k : Nat), i + ys.length < 16777215 → (mkTm ys i t).get k = if i ≤ k ∧ k < i + ys.length then ys[k - i]? else t.get k
  | [], i, t, k, _ => by
    have : ¬ (i ≤ k ∧ k < i + 0) := by omega
    simp only [mkTm, List.length_nil]
    rw [if_neg this]
  | y :: ys, i, t, k, h => by
    simp only [List.length_cons] at h ⊢
    rw [mkTm, mkTm_get ys (i + 1) _ k (by omega), T.get_set _ _ _ _ _ (show i + 1 < 16777216 by omega)]
    by_cases h1 : k = i
    · subst h1
      have : ¬ (k + 1 ≤ k ∧ k < k + 1 + ys.length) := by omega
      rw [if_neg this, if_pos rfl, if_pos (by omega)]
      simp
    · by_cases h2 : i + 1 ≤ k ∧ k < i + 1 + ys.length
      · rw [if_pos h2, if_pos (by omega)]
        rw [show k - i = (k - (i + 1)) + 1 by omega]
        simp
      · rw [if_neg h2, if_neg h1, if_neg (by omega)]
def startA (fn : Func) (args : List AV) (f : FuncId := 0) : AAct := { tm := mkTm args 0 .nil, n := args.length + (fn.ntmps - args.length), defers := [], f := f }
theorem start_ok {m : Map} {f : FuncId} {fn : Func} {args : List AV} {vs : List Value} (h : denL m args = some vs) (hl : args.length < 16777215) : TRel m (startA fn args f) { tmps := vs.toArray ++ Array.replicate (fn.ntmps - vs.toArray.size) undef, defers := [] } := by
  have hlen := denL_length h
  refine ⟨by simp [startA, hlen], ?_, rfl⟩
  intro t y hy
  simp only [startA] at hy
  rw [mkTm_get _ _ _ _ (by omega)] at hy
  split at hy
  · rename_i hc
    simp only [Nat.sub_zero] at hy
    obtain ⟨v, hv, hg⟩ := denL_get h hy
    refine ⟨v, hv, ?_⟩
    rw [Array.getElem?_append_left (by simp; omega)]
    simpa using hg
  · simp [T.get] at hy

/-! A thing put off, and recovery. -/
inductive SMode where
  | returning
  | panicking (v : Value)
  | recovered (v : Value)
def SMode.to : SMode → FrameMode
  | .returning => .returning
  | .panicking v => .panicking [{ v, recovered := false }]
  | .recovered v => .panicking [{ v, recovered := true }]
def SMode.settled : SMode → SMode
  | .recovered v => .returning
  | s => s
theorem settled_ok (s : SMode) : s.settled.to = settle s.to := by cases s <;> rfl

def isRecover (o : Oper) : Bool := match o.op with | .call { callee := .builtin .recover, .. } => true | _ => false
theorem isRecover_ok {P : Program} {o : Oper} (h : isRecover o = true) (ρ : Operand → Value) (w : World) : (execOp ρ o).run P w = .ok .recover w := by
  unfold isRecover at h
  split at h
  · rename_i ho
    simp [execOp, ho, resolve, invoke, builtin]
  · cases h
abbrev CRS := Option (AX × AAct × SMode × St × Log)
def opsS (P : Program) (E : Eng) (ops : Array Oper) : List Oper → AAct → SMode → St → CRS
  | [], x, s, st => some (.normal, x, s, st, Log.no)
  | o :: rest, x, s, st => cond (isRecover o)
    (match o.guard, s with
      | none, .panicking v => (x.put o.dst (.val v)).bind fun x1 => opsS P E ops rest x1 (.recovered v) st
      | none, s => (x.put o.dst (.val .nilIface)).bind fun x1 => opsS P E ops rest x1 s st
      | some _, _ => none)
    ((opA P E ops o x st).bind fun (pv, x1, st1, l1) => match pv with
      | some v => some (.panic v, x1, s, st1, l1)
      | none => (opsS P E ops rest x1 s st1).map fun (e, x2, s2, st2, l2) => (e, x2, s2, st2, l1.or l2))
def codeS (P : Program) (E : Eng) : Code → AAct → SMode → St → CRS
  | .seq a b, x, s, st => (codeS P E a x s st).bind fun (e, x1, s1, st1, l1) => match e with
    | .normal => (codeS P E b x1 s1 st1).map fun (e2, x2, s2, st2, l2) => (e2, x2, s2, st2, l1.or l2)
    | e => some (e, x1, s1, st1, l1)
  | .cond c t f, x, s, st => (ev x c).bind fun v => match v with
    | .val (.bool true) => codeS P E t x s st
    | .val (.bool false) => codeS P E f x s st
    | _ => none
  | .region id ops false, x, s, st => opsS P E ops ops.toList x s st
  | c, x, s, st => (E.code c x st).map fun (e, x1, st1, l1) => (e, x1, s, st1, l1)

def SPost (W0 : Base) (A : Nat → Prop) (m : Map) (st : St) (w : World) (c₀ : Frame) (cs : List Frame) (e : AX) (x' : AAct) (s' : SMode) (st' : St) (lg : Log) : Exit → Act → List Frame → World → Prop := fun ex a' cs' w' =>
  ∃ m', Ok W0 A m st w m' st' lg w' ∧ TRel m' x' a' ∧ ex = e.to ∧ cs' = { c₀ with mode := s'.to } :: cs

/-- The same as opA_ok, bare. -/
theorem opA_upon {P : Program} (hN : GoodP P) {E : Eng} (hE : CallOk P E.call) {ops : Array Oper} {o : Oper} {x x' : AAct} {st st' : St} {pv : Option Value} {lg : Log} (h : opA P E ops o x st = some (pv, x', st', lg))
    {A : Nat → Prop} {m : Map} {a : Act} {w : World} (hA : lg.Fits W0 A) (hR : Rel W0 A m st.heap.get w) (hF : Fresh A m st.next) (hT : TRel m x a) {K : Act → World → Prop} {Q : Exit → Act → World → Prop}
    (hK : pv = none → ∀ m' a' w', Ok W0 A m st w m' st' lg w' → TRel m' x' a' → K a' w')
    (hQ : ∀ v, pv = some v → ∀ m' w', Ok W0 A m st w m' st' lg w' → TRel m' x' a → Q (.panic [{ v, recovered := false }]) a w') :
    (Region.wanted o (yielded ops a.tmps) = false ∧ K (a.put o.dst undef) w) ∨ (Region.wanted o (yielded ops a.tmps) = true ∧ ∃ r, (execOp a.eval o).run P w = r ∧ (∀ w', r ≠ .ok .recover w') ∧ o.upon P a K Q r) := by
  unfold opA at h
  simp only [Option.bind_eq_some_iff] at h
  obtain ⟨b, hb, h⟩ := h
  have hw := wantedA_ok hT hb
  cases b with
  | false =>
    simp only [cond_false, Option.map_eq_some_iff, Prod.mk.injEq] at h
    obtain ⟨x1, hx1, rfl, rfl, rfl, rfl⟩ := h
    exact .inl ⟨hw, hK rfl m _ w (Ok.refl hR hF) (AAct.put_ok hT hx1 rfl)⟩
  | true =>
    simp only [cond_true, Option.bind_eq_some_iff] at h
    obtain ⟨⟨n, st1, l1⟩, hop, h⟩ := h
    refine .inr ⟨hw, ?_⟩
    cases n with
    | value y =>
      simp only [Option.map_eq_some_iff, Prod.mk.injEq] at h
      obtain ⟨x1, hx1, rfl, rfl, rfl, rfl⟩ := h
      obtain ⟨m', w', hok, v, hv, hrun⟩ := aopH_ok hN hop hA hT hR hF
      rcases hrun with hrun | ⟨rfl, hrun⟩
      · exact ⟨_, hrun, by simp, hK rfl m' _ w' hok (AAct.put_ok (hT.mono hok.ext) hx1 hv)⟩
      · exact ⟨_, hrun, by simp, hK rfl m' _ w' hok (AAct.put_ok (hT.mono hok.ext) hx1 hv)⟩
    | panic v =>
      simp only [Option.some.injEq, Prod.mk.injEq] at h
      obtain ⟨rfl, rfl, rfl, rfl⟩ := h
      obtain ⟨m', w', hok, hrun⟩ := aopH_ok hN hop hA hT hR hF
      simp only [Meets] at hrun
      exact ⟨_, hrun, by simp, hQ v rfl m' w' hok (hT.mono hok.ext)⟩
    | enter f args =>
      simp only [Option.bind_eq_some_iff] at h
      obtain ⟨⟨r, st2, l2⟩, hcall, h⟩ := h
      have key : ∀ (hA' : (l1.or l2).Fits W0 A), ∃ m1 w1, ∃ vs : List Value, Ok W0 A m st w m1 st1 l1 w1 ∧ (execOp a.eval o).run P w = .ok (.enter f vs.toArray) w1 ∧ Calls P f vs.toArray w1 (CPost W0 A m1 st1 w1 r st2 l2) := by
        intro hA'
        obtain ⟨m1, w1, hok, vs, hvs, hrun⟩ := aopH_ok hN hop (or_A hA').1 hT hR hF
        exact ⟨m1, w1, vs, hok, hrun, hE f args st1 r st2 l2 hcall W0 A m1 w1 vs (or_A hA').2 hok.rel hok.fresh hvs⟩
      cases r with
      | ret y =>
        simp only [Option.map_eq_some_iff, Prod.mk.injEq] at h
        obtain ⟨x1, hx1, rfl, rfl, rfl, rfl⟩ := h
        obtain ⟨m1, w1, vs, hok, hrun, hc⟩ := key hA
        refine ⟨_, hrun, by simp, ?_⟩
        refine Calls.mono hc ?_
        rintro e w2 ⟨m2, hok2, v, hv, rfl⟩
        exact hK rfl m2 _ w2 (hok.trans hok2) (AAct.put_ok ((hT.mono hok.ext).mono hok2.ext) hx1 hv)
      | pan v =>
        simp only [Option.some.injEq, Prod.mk.injEq] at h
        obtain ⟨rfl, rfl, rfl, rfl⟩ := h
        obtain ⟨m1, w1, vs, hok, hrun, hc⟩ := key hA
        refine ⟨_, hrun, by simp, ?_⟩
        refine Calls.mono hc ?_
        rintro e w2 ⟨m2, hok2, rfl⟩
        exact hQ v rfl m2 w2 (hok.trans hok2) ((hT.mono hok.ext).mono hok2.ext)
    | defer d =>
      simp only [Option.map_eq_some_iff, Prod.mk.injEq] at h
      obtain ⟨x1, hx1, rfl, rfl, rfl, rfl⟩ := h
      obtain ⟨m', w', hok, d', hd, hrun⟩ := aopH_ok hN hop hA hT hR hF
      refine ⟨_, hrun, by simp, ?_⟩
      have hT' := hT.mono hok.ext
      have hT2 : TRel m' { x with defers := d :: x.defers } { a with defers := d' :: a.defers } := ⟨hT'.size, hT'.get, by simp [denD, hd, hT'.defers]⟩
      exact hK rfl m' _ w' hok (AAct.put_ok hT2 hx1 rfl)

theorem upon_monoK {P : Program} {o : Oper} {a : Act} {K K' : Act → World → Prop} {Q Q' : Exit → Act → World → Prop} (hK : ∀ a w, K a w → K' a w) (hQ : ∀ e a w, Q e a w → Q' e a w) {r : Result Next} (h : o.upon P a K Q r) : o.upon P a K' Q' r := upon_mono' hK hQ h
theorem wpOpsS_mono {P : Program} {ops : Array Oper} {Q Q' : Exit → Act → List Frame → World → Prop} (hQ : ∀ e a cs w, Q e a cs w → Q' e a cs w) : ∀ (l : List Nat) (a : Act) (cs : List Frame) (w : World), wpOpsS P ops Q l a cs w → wpOpsS P ops Q' l a cs w := by
  intro l
  induction l with
  | nil => intro a cs w h; exact hQ _ _ _ _ h
  | cons i rest ih =>
    intro a cs w h
    simp only [wpOpsS] at h ⊢
    split
    · rename_i ho; rw [ho] at h; exact ih _ _ _ h
    · rename_i o ho
      rw [ho] at h
      simp only at h
      split
      · rename_i hw
        rw [if_pos hw] at h
        split
        · rename_i w' hr
          rw [hr] at h
          simp only at h
          split
          · rename_i v cs' hc
            rw [hc] at h
            exact ih _ _ _ h
          · rename_i hc
            rw [hc] at h
            exact ih _ _ _ h
        · rename_i r hne
          split at h
          · rename_i w' hr
            exact absurd hr (hne w')
          · exact upon_mono' (fun a w h => ih a cs w h) (fun e a w h => hQ e a cs w h) h
      · rename_i hw
        rw [if_neg hw] at h
        exact ih _ _ _ h
theorem opsS_ok {P : Program} (hN : GoodP P) {E : Eng} (hE : CallOk P E.call) {ops : Array Oper} (c₀ : Frame) (cs : List Frame) : ∀ (l pre : List Oper) (x : AAct) (s : SMode) (st : St) (e : AX) (x' : AAct) (s' : SMode) (st' : St) (lg : Log), ops.toList = pre ++ l → opsS P E ops l x s st = some (e, x', s', st', lg) →
    ∀ (A : Nat → Prop) (m : Map) (a : Act) (w : World), lg.Fits W0 A → Rel W0 A m st.heap.get w → Fresh A m st.next → TRel m x a → wpOpsS P ops (SPost W0 A m st w c₀ cs e x' s' st' lg) (List.range' pre.length l.length) a ({ c₀ with mode := s.to } :: cs) w := by
  intro l
  induction l with
  | nil =>
    intro pre x s st e x' s' st' lg hops h A m a w hA hR hF hT
    simp only [opsS, Option.some.injEq, Prod.mk.injEq] at h
    obtain ⟨rfl, rfl, rfl, rfl, rfl⟩ := h
    exact ⟨m, Ok.refl hR hF, hT, rfl, rfl⟩
  | cons o rest ih =>
    intro pre x s st e x' s' st' lg hops h A m a w hA hR hF hT
    have hi : ops[pre.length]? = some o := by
      rw [← Array.getElem?_toList, hops]
      simp
    rw [List.length_cons, List.range'_succ]
    simp only [wpOpsS, hi]
    simp only [opsS] at h
    have hpre : ops.toList = (pre ++ [o]) ++ rest := by rw [hops]; simp
    cases hrec : isRecover o with
    | true =>
      simp only [hrec, cond_true] at h
      have hrun := isRecover_ok (P := P) hrec a.eval w
      split at h
      · rename_i v hg
        simp only [Option.bind_eq_some_iff] at h
        obtain ⟨x1, hx1, h⟩ := h
        rw [if_pos (by simp [Region.wanted, hg]), hrun]
        simp only [recoverD, SMode.to]
        have := ih (pre ++ [o]) x1 (.recovered v) st e x' s' st' lg hpre h A m (a.put o.dst v) w hA hR hF (AAct.put_ok hT hx1 rfl)
        rw [List.length_append, List.length_singleton] at this
        exact this
      · rename_i s _ _ hg hns
        simp only [Option.bind_eq_some_iff] at h
        obtain ⟨x1, hx1, h⟩ := h
        rw [if_pos (by simp [Region.wanted, hg]), hrun]
        have hnone : recoverD ({ c₀ with mode := s.to } :: cs) = none := by
          cases s with
          | returning => rfl
          | panicking v => exact absurd rfl (hns v)
          | recovered v => rfl
        simp only [hnone]
        have := ih (pre ++ [o]) x1 s st e x' s' st' lg hpre h A m (a.put o.dst .nilIface) w hA hR hF (AAct.put_ok hT hx1 rfl)
        rw [List.length_append, List.length_singleton] at this
        exact this
      · cases h
    | false =>
      simp only [hrec, cond_false, Option.bind_eq_some_iff] at h
      obtain ⟨⟨pv, x1, st1, l1⟩, hop, h⟩ := h
      have go : ∀ (K : Act → World → Prop) (Q : Exit → Act → World → Prop) (hA1 : l1.Fits W0 A), (pv = none → ∀ m' a' w', Ok W0 A m st w m' st1 l1 w' → TRel m' x1 a' → K a' w') → (∀ v, pv = some v → ∀ m' w', Ok W0 A m st w m' st1 l1 w' → TRel m' x1 a → Q (.panic [{ v, recovered := false }]) a w') →
          (Region.wanted o (yielded ops a.tmps) = false ∧ K (a.put o.dst undef) w) ∨ (Region.wanted o (yielded ops a.tmps) = true ∧ ∃ r, (execOp a.eval o).run P w = r ∧ (∀ w', r ≠ .ok .recover w') ∧ o.upon P a K Q r) :=
        fun K Q hA1 hK hQ => opA_upon hN hE hop hA1 hR hF hT hK hQ
      have fin : ((Region.wanted o (yielded ops a.tmps) = false ∧ wpOpsS P ops (SPost W0 A m st w c₀ cs e x' s' st' lg) (List.range' (pre.length + 1) rest.length) (a.put o.dst undef) ({ c₀ with mode := s.to } :: cs) w) ∨ (Region.wanted o (yielded ops a.tmps) = true ∧ ∃ r, (execOp a.eval o).run P w = r ∧ (∀ w', r ≠ .ok .recover w') ∧
          o.upon P a (fun a' w' => wpOpsS P ops (SPost W0 A m st w c₀ cs e x' s' st' lg) (List.range' (pre.length + 1) rest.length) a' ({ c₀ with mode := s.to } :: cs) w') (fun e' a' w' => SPost W0 A m st w c₀ cs e x' s' st' lg e' a' ({ c₀ with mode := s.to } :: cs) w') r)) := by
        cases pv with
        | some v =>
          simp only [Option.some.injEq, Prod.mk.injEq] at h
          obtain ⟨rfl, rfl, rfl, rfl, rfl⟩ := h
          refine go (fun a' w' => wpOpsS P ops (SPost W0 A m st w c₀ cs (AX.panic v) x1 s st1 l1) (List.range' (pre.length + 1) rest.length) a' ({ c₀ with mode := s.to } :: cs) w') (fun e' a' w' => SPost W0 A m st w c₀ cs (AX.panic v) x1 s st1 l1 e' a' ({ c₀ with mode := s.to } :: cs) w') hA (fun hn => by cases hn) (fun v' hv m' w' hok hT' => ?_)
          cases hv
          exact ⟨m', hok, hT', rfl, rfl⟩
        | none =>
          simp only [Option.map_eq_some_iff] at h
          obtain ⟨⟨e2, x2, s2, st2, l2⟩, hrest, he⟩ := h
          cases he
          refine go (fun a' w' => wpOpsS P ops (SPost W0 A m st w c₀ cs e2 x2 s2 st2 (l1.or l2)) (List.range' (pre.length + 1) rest.length) a' ({ c₀ with mode := s.to } :: cs) w') (fun e' a' w' => SPost W0 A m st w c₀ cs e2 x2 s2 st2 (l1.or l2) e' a' ({ c₀ with mode := s.to } :: cs) w') (or_A hA).1 (fun _ m1 a1 w1 hok hT1 => ?_) (fun v' hv => by cases hv)
          have := ih (pre ++ [o]) x1 s st1 e2 x2 s2 st2 l2 hpre hrest A m1 a1 w1 (or_A hA).2 hok.rel hok.fresh hT1
          rw [List.length_append, List.length_singleton] at this
          refine wpOpsS_mono ?_ _ a1 _ w1 this
          rintro ex a' cs' w' ⟨m', hok', hT', rfl, rfl⟩
          exact ⟨m', hok.trans hok', hT', rfl, rfl⟩
      rcases fin with ⟨hw, hk⟩ | ⟨hw, r, hr, hne, hup⟩
      · rw [if_neg (by rw [hw]; simp)]
        exact hk
      · rw [if_pos hw, hr]
        split
        · rename_i w' ; exact absurd rfl (hne w')
        · exact hup

theorem codeS_ok {P : Program} (hN : GoodP P) {E : Eng} (hE : EngOk P E) (c₀ : Frame) (cs : List Frame) : ∀ (c : Code) (x : AAct) (s : SMode) (st : St) (e : AX) (x' : AAct) (s' : SMode) (st' : St) (lg : Log), codeS P E c x s st = some (e, x', s', st', lg) →
    ∀ (A : Nat → Prop) (m : Map) (a : Act) (w : World), lg.Fits W0 A → Rel W0 A m st.heap.get w → Fresh A m st.next → TRel m x a → c.wpS P (SPost W0 A m st w c₀ cs e x' s' st' lg) a ({ c₀ with mode := s.to } :: cs) w := by
  have leaf : ∀ (c : Code) (x : AAct) (s : SMode) (st : St) (e : AX) (x' : AAct) (s' : SMode) (st' : St) (lg : Log), ((E.code c x st).map fun (p : AX × AAct × St × Log) => (p.1, p.2.1, s, p.2.2.1, p.2.2.2)) = some (e, x', s', st', lg) →
    ∀ (A : Nat → Prop) (m : Map) (a : Act) (w : World), lg.Fits W0 A → Rel W0 A m st.heap.get w → Fresh A m st.next → TRel m x a → c.wpS P (SPost W0 A m st w c₀ cs e x' s' st' lg) a ({ c₀ with mode := s.to } :: cs) w := by
    intro c x s st e x' s' st' lg h A m a w hA hR hF hT
    simp only [Option.map_eq_some_iff] at h
    obtain ⟨⟨e1, x1, st1, l1⟩, hc, he⟩ := h
    cases he
    refine wpS_of_wp (wp_mono (hE.code c x st _ _ _ _ hc W0 A m a w hA hR hF hT) ?_)
    rintro ex a' w' ⟨m', hok, hT', rfl⟩
    exact ⟨m', hok, hT', rfl, rfl⟩
  have smono : ∀ (c : Code) (Q Q' : Exit → Act → List Frame → World → Prop) (a : Act) (cs : List Frame) (w : World), (∀ e a cs w, Q e a cs w → Q' e a cs w) → c.wpS P Q a cs w → c.wpS P Q' a cs w :=
    fun c Q Q' a cs w hq h b k hb hr => let ⟨e, a', cs', w', q, r⟩ := h b k hb hr; ⟨e, a', cs', w', hq _ _ _ _ q, r⟩
  intro c
  induction c with
  | seq p q ihp ihq =>
    intro x s st e x' s' st' lg h A m a w hA hR hF hT
    simp only [codeS, Option.bind_eq_some_iff] at h
    obtain ⟨⟨e1, x1, s1, st1, l1⟩, hp, h⟩ := h
    refine wpS_seq ?_
    cases e1 with
    | normal =>
      simp only [Option.map_eq_some_iff] at h
      obtain ⟨⟨e2, x2, s2, st2, l2⟩, hq, he⟩ := h
      cases he
      refine smono p _ _ a _ w ?_ (ihp x s st .normal x1 s1 st1 l1 hp A m a w (or_A hA).1 hR hF hT)
      rintro ex a1 cs1 w1 ⟨m1, hok, hT1, rfl, rfl⟩
      refine smono q _ _ a1 _ w1 ?_ (ihq x1 s1 st1 e2 x2 s2 st2 l2 hq A m1 a1 w1 (or_A hA).2 hok.rel hok.fresh hT1)
      rintro ex a2 cs2 w2 ⟨m2, hok2, hT2, rfl, rfl⟩
      exact ⟨m2, hok.trans hok2, hT2, rfl, rfl⟩
    | _ =>
      simp only [Option.some.injEq, Prod.mk.injEq] at h
      obtain ⟨rfl, rfl, rfl, rfl, rfl⟩ := h
      refine smono p _ _ a _ w ?_ (ihp x s st _ x1 s1 st1 l1 hp A m a w hA hR hF hT)
      rintro ex a1 cs1 w1 ⟨m1, hok, hT1, rfl, rfl⟩
      exact ⟨m1, hok, hT1, rfl, rfl⟩
  | cond cc p q ihp ihq =>
    intro x s st e x' s' st' lg h A m a w hA hR hF hT
    simp only [codeS, Option.bind_eq_some_iff] at h
    obtain ⟨v, hv, h⟩ := h
    have hc := ev_ok hT hv
    split at h
    · simp only [AV.den, Option.some.injEq] at hc
      exact wpS_cond hc.symm (by simpa using ihp x s st e x' s' st' lg h A m a w hA hR hF hT)
    · simp only [AV.den, Option.some.injEq] at hc
      exact wpS_cond hc.symm (by simpa using ihq x s st e x' s' st' lg h A m a w hA hR hF hT)
    · cases h
  | region id ops d =>
    intro x s st e x' s' st' lg h A m a w hA hR hF hT
    cases d with
    | false =>
      simp only [codeS] at h
      have := opsS_ok hN hE.call c₀ cs ops.toList [] x s st e x' s' st' lg (by simp) h A m a w hA hR hF hT
      simp only [List.length_nil, Array.length_toList, ← List.range_eq_range'] at this
      exact wpS_region this
    | true => exact leaf _ x s st e x' s' st' lg h A m a w hA hR hF hT
  | _ => intro x s st e x' s' st' lg h A m a w hA hR hF hT; exact leaf _ x s st e x' s' st' lg h A m a w hA hR hF hT

end Go.Proofs.Ytfcdbknmajfkaaa.eng
