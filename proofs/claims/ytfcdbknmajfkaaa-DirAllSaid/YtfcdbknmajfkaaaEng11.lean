/- The engine whole: code, calls, things put off. -/
import Derived.Test.YtfcdbknmajfkaaaEng10
namespace Go.Proofs.Ytfcdbknmajfkaaa.eng
open Go
variable {W0 : Base}
set_option linter.unusedVariables false
set_option linter.unusedSimpArgs false

def AX.ends : AX → Bool | .normal => true | .ret => true | _ => false
/-- A thing put off is called. -/
def deferA (P : Program) (E : Eng) (d : ADef) (s : SMode) (st : St) : Option (SMode × St × Log) := match d.fn with
  | .func f => (P.funcs[f]?).bind fun fn => fn.body.bind fun c => cond (Nat.blt (d.args ++ d.cap).length 16777215)
    ((codeS P E c (startA fn (d.args ++ d.cap) f) s st).bind fun (e, x1, s1, st1, l1) => cond e.ends
      (cond x1.defers.isEmpty ((aResults P fn x1 st1).map fun (y, l2) => (s1.settled, st1, l1.or l2)) none) none) none
  | _ => none
def leaveA (P : Program) (E : Eng) (fn : Func) (x : AAct) : List ADef → SMode → St → Option (ARet × St × Log)
  | [], .returning, st => (aResults P fn x st).map fun (y, lg) => (.ret y, st, lg)
  | [], .panicking v, st => some (.pan v, st, Log.no)
  | [], .recovered _, st => none
  | d :: ds, s, st => (deferA P E d s st).bind fun (s1, st1, l1) => (leaveA P E fn x ds s1 st1).map fun (r, st2, l2) => (r, st2, l1.or l2)

def callF (P : Program) (E : Eng) (f : FuncId) (args : List AV) (st : St) : Option (ARet × St × Log) :=
  (P.funcs[f]?).bind fun fn => fn.body.bind fun c => cond (Nat.blt args.length 16777215)
    ((E.code c (startA fn args f) st).bind fun (e, x1, st1, l1) => match e with
      | .normal => (leaveA P E fn x1 x1.defers .returning st1).map fun (r, st2, l2) => (r, st2, l1.or l2)
      | .ret => (leaveA P E fn x1 x1.defers .returning st1).map fun (r, st2, l2) => (r, st2, l1.or l2)
      | .panic v => (leaveA P E fn x1 x1.defers (.panicking v) st1).map fun (r, st2, l2) => (r, st2, l1.or l2)
      | _ => none) none

theorem deferA_ok {P : Program} (hN : GoodP P) {E : Eng} (hE : EngOk P E) {d : ADef} {s s' : SMode} {st st' : St} {lg : Log} (h : deferA P E d s st = some (s', st', lg)) {A : Nat → Prop} {m : Map} {w : World} {d' : Deferred} (hA : lg.Fits W0 A) (hR : Rel W0 A m st.heap.get w) (hF : Fresh A m st.next) (hd : d.den m = some d') :
    ∃ fv cap f args, d'.target = .fn fv cap ∧ (invoke d'.target d'.args).run P w = .ok (.enter f args) w ∧ CallsD P f args s.to w (fun e u' w' => ∃ v, e = .returned v ∧ ∃ m', Ok W0 A m st w m' st' lg w' ∧ settle u' = s'.to) := by
  unfold deferA at h
  split at h
  · rename_i f hfn
    simp only [Option.bind_eq_some_iff] at h
    obtain ⟨fn, hf, c, hc, h⟩ := h
    cases hl : Nat.blt (d.args ++ d.cap).length 16777215 with
    | false => simp only [hl, cond_false] at h; cases h
    | true =>
      simp only [hl, cond_true, Option.bind_eq_some_iff] at h
      obtain ⟨⟨e, x1, s1, st1, l1⟩, hcode, h⟩ := h
      cases he : e.ends with
      | false => simp [he] at h
      | true =>
        cases hemp : x1.defers.isEmpty with
        | false => simp [he, hemp] at h
        | true =>
          simp only [he, hemp, cond_true, Option.map_eq_some_iff] at h
          obtain ⟨⟨y, l2⟩, hres, heq⟩ := h
          cases heq
          simp only [ADef.den, Option.bind_eq_some_iff, Option.map_eq_some_iff] at hd
          obtain ⟨cv, hcv, av, hav, rfl⟩ := hd
          have hn := namesOk_ok hN.1 hf
          have hb : fn.body.isNone = false := by rw [hc]; rfl
          refine ⟨d.fn, cv.toArray, f, (av ++ cv).toArray, rfl, ?_, ?_⟩
          · rw [hfn]
            simp only [invoke, run_callFunc_enter hf hn hb]
            simp
          · refine callsD_of_wpS hf hc ?_
            intro c₀ cs hm
            have hden := denL_append hav hcv
            have hstart := start_ok (f := f) (fn := fn) hden (by simpa using hl)
            have hw := codeS_ok hN hE c₀ cs c _ s st e x1 s1 st' l1 hcode A m _ w (or_A hA).1 hR hF hstart
            have hc0 : ({ c₀ with mode := s.to } : Frame) = c₀ := by rw [← hm]
            rw [hc0] at hw
            intro b k hb hr
            obtain ⟨ex, a', cs', w', ⟨m', hok, hT', rfl, rfl⟩, harr⟩ := hw b k hb hr
            have hd0 : a'.defers = [] := by
              have := hT'.defers
              rw [List.isEmpty_iff.1 hemp] at this
              simpa [denD] using this.symm
            obtain ⟨v, hv, hrun⟩ := aResults_ok hres (or_A hA).2 hok.rel hT'
            refine ⟨e.to, a', _, w', ?_, harr⟩
            cases e with
            | normal => exact ⟨hd0, s1.to, rfl, v, hrun, v, rfl, m', hok.more (fun r hr => bit_or_l hr), (settled_ok s1).symm⟩
            | ret => exact ⟨hd0, s1.to, rfl, v, hrun, v, rfl, m', hok.more (fun r hr => bit_or_l hr), (settled_ok s1).symm⟩
            | _ => simp [AX.ends] at he
  · cases h

theorem leaveA_ok {P : Program} (hN : GoodP P) {E : Eng} (hE : EngOk P E) {fn : Func} {x : AAct} {a : Act} : ∀ (ds : List ADef) (s : SMode) (st : St) (r : ARet) (st' : St) (lg : Log), leaveA P E fn x ds s st = some (r, st', lg) →
    ∀ (A : Nat → Prop) (m : Map) (w : World) (vds : List Deferred), lg.Fits W0 A → Rel W0 A m st.heap.get w → Fresh A m st.next → TRel m x a → denD m ds = some vds → Leaves P fn a.tmps (CPost W0 A m st w r st' lg) vds s.to w := by
  intro ds
  induction ds with
  | nil =>
    intro s st r st' lg h A m w vds hA hR hF hT hd
    simp only [denD, Option.some.injEq] at hd
    subst hd
    cases s with
    | returning =>
      simp only [leaveA, Option.map_eq_some_iff] at h
      obtain ⟨⟨y, l1⟩, hres, he⟩ := h
      cases he
      obtain ⟨v, hv, hrun⟩ := aResults_ok hres hA hR hT
      exact ⟨v, hrun, m, Ok.refl hR hF, v, hv, rfl⟩
    | panicking v =>
      simp only [leaveA, Option.some.injEq, Prod.mk.injEq] at h
      obtain ⟨rfl, rfl, rfl⟩ := h
      exact ⟨m, Ok.refl hR hF, rfl⟩
    | recovered v => simp [leaveA] at h
  | cons d ds ih =>
    intro s st r st' lg h A m w vds hA hR hF hT hd
    simp only [denD, Option.bind_eq_some_iff, Option.map_eq_some_iff] at hd
    obtain ⟨d', hd', ds', hds, rfl⟩ := hd
    simp only [leaveA, Option.bind_eq_some_iff, Option.map_eq_some_iff] at h
    obtain ⟨⟨s1, st1, l1⟩, hdef, ⟨r2, st2, l2⟩, hlv, he⟩ := h
    cases he
    obtain ⟨fv, cap, f, args, htar, hinv, hcall⟩ := deferA_ok hN hE hdef (or_A hA).1 hR hF hd'
    have hne : s.to ≠ .run := by cases s <;> simp [SMode.to]
    have hcont : CallsD P f args s.to w fun
        | .returned _, u', w' => Leaves P fn a.tmps (CPost W0 A m st w r2 st2 (l1.or l2)) ds' (settle u') w'
        | .panicked chain, u', w' => Leaves P fn a.tmps (CPost W0 A m st w r2 st2 (l1.or l2)) ds' (raised u' chain) w'
        | .outgrown, _, w' => CPost W0 A m st w r2 st2 (l1.or l2) .outgrown w' := by
      refine hcall.mono ?_
      rintro e u' w' ⟨v, rfl, m', hok, hset⟩
      show Leaves P fn a.tmps _ ds' (settle u') w'
      rw [hset]
      have := ih s1 st1 r2 st2 l2 hlv A m' w' ds' (or_A hA).2 hok.rel hok.fresh (hT.mono hok.ext) (denD_mono hok.ext hds)
      have hmono : ∀ (l : List Deferred) (u : FrameMode) (w0 : World), Leaves P fn a.tmps (CPost W0 A m' st1 w' r2 st2 l2) l u w0 → Leaves P fn a.tmps (CPost W0 A m st w r2 st2 (l1.or l2)) l u w0 := by
        have hpost : ∀ e w0, CPost W0 A m' st1 w' r2 st2 l2 e w0 → CPost W0 A m st w r2 st2 (l1.or l2) e w0 := by
          rintro e w0 ⟨m2, hok2, hr⟩
          exact ⟨m2, hok.trans hok2, hr⟩
        intro l
        induction l with
        | nil =>
          intro u w0 h
          cases u with
          | run => exact h
          | returning => obtain ⟨v, hv, hq⟩ := h; exact ⟨v, hv, hpost _ _ hq⟩
          | panicking ch => exact hpost _ _ h
        | cons d l ih =>
          intro u w0 h
          obtain ⟨h1, fv, cap, f, args, h2, h3, h4⟩ := h
          refine ⟨h1, fv, cap, f, args, h2, h3, h4.mono ?_⟩
          intro e u' w1 hq
          cases e with
          | returned v => exact ih _ _ hq
          | panicked ch => exact ih _ _ hq
          | outgrown => exact hpost _ _ hq
      exact hmono _ _ _ this
    exact ⟨hne, fv, cap, f, args, htar, hinv, hcont⟩

theorem callF_ok {P : Program} (hN : GoodP P) {E : Eng} (hE : EngOk P E) : CallOk P (callF P E) := by
  intro f args st r st' lg h W0 A m w vs hA hR hF hvs
  simp only [callF, Option.bind_eq_some_iff] at h
  obtain ⟨fn, hf, c, hc, h⟩ := h
  cases hl : Nat.blt args.length 16777215 with
  | false => simp [hl] at h
  | true =>
    simp only [hl, cond_true, Option.bind_eq_some_iff] at h
    obtain ⟨⟨e, x1, st1, l1⟩, hcode, h⟩ := h
    have hstart := start_ok (f := f) (fn := fn) hvs (by simpa using hl)
    refine calls_of_wp_defers hf hc ?_
    have hmono : ∀ (m' : Map) (w' : World) (l2 : Log) (hok : Ok W0 A m st w m' st1 l1 w') (l : List Deferred) (u : FrameMode) (tm : Array Value) (w0 : World), Leaves P fn tm (CPost W0 A m' st1 w' r st' l2) l u w0 → Leaves P fn tm (CPost W0 A m st w r st' (l1.or l2)) l u w0 := by
      intro m' w' l2 hok
      have hpost : ∀ e w0, CPost W0 A m' st1 w' r st' l2 e w0 → CPost W0 A m st w r st' (l1.or l2) e w0 := by
        rintro e w0 ⟨m2, hok2, hr⟩
        exact ⟨m2, hok.trans hok2, hr⟩
      intro l
      induction l with
      | nil =>
        intro u tm w0 h
        cases u with
        | run => exact h
        | returning => obtain ⟨v, hv, hq⟩ := h; exact ⟨v, hv, hpost _ _ hq⟩
        | panicking ch => exact hpost _ _ h
      | cons d l ih =>
        intro u tm w0 h
        obtain ⟨h1, fv, cap, f, args, h2, h3, h4⟩ := h
        refine ⟨h1, fv, cap, f, args, h2, h3, h4.mono ?_⟩
        intro e u' w1 hq
        cases e with
        | returned v => exact ih _ _ _ hq
        | panicked ch => exact ih _ _ _ hq
        | outgrown => exact hpost _ _ hq
    have leave : ∀ (s : SMode) (l2 : Log), leaveA P E fn x1 x1.defers s st1 = some (r, st', l2) → lg = l1.or l2 → ∀ m' a' w', Ok W0 A m st w m' st1 l1 w' → TRel m' x1 a' → Leaves P fn a'.tmps (CPost W0 A m st w r st' lg) a'.defers s.to w' := by
      intro s l2 hlv hlg m' a' w' hok hT'
      subst hlg
      exact hmono m' w' l2 hok _ _ _ _ (leaveA_ok hN hE x1.defers s st1 r st' l2 hlv A m' w' a'.defers (or_A hA).2 hok.rel hok.fresh hT' hT'.defers)
    have hA1 : ∀ (l2 : Log), lg = l1.or l2 → l1.Fits W0 A := fun l2 hlg => by subst hlg; exact (or_A hA).1
    cases e with
    | normal =>
      simp only [Option.map_eq_some_iff] at h
      obtain ⟨⟨r2, st2, l2⟩, hlv, he⟩ := h
      cases he
      refine wp_mono (hE.code c _ st _ x1 st1 l1 hcode W0 A m _ w (hA1 l2 rfl) hR hF hstart) ?_
      rintro ex a' w' ⟨m', hok, hT', rfl⟩
      exact leave .returning l2 hlv rfl m' a' w' hok hT'
    | ret =>
      simp only [Option.map_eq_some_iff] at h
      obtain ⟨⟨r2, st2, l2⟩, hlv, he⟩ := h
      cases he
      refine wp_mono (hE.code c _ st _ x1 st1 l1 hcode W0 A m _ w (hA1 l2 rfl) hR hF hstart) ?_
      rintro ex a' w' ⟨m', hok, hT', rfl⟩
      exact leave .returning l2 hlv rfl m' a' w' hok hT'
    | panic v =>
      simp only [Option.map_eq_some_iff] at h
      obtain ⟨⟨r2, st2, l2⟩, hlv, he⟩ := h
      cases he
      refine wp_mono (hE.code c _ st _ x1 st1 l1 hcode W0 A m _ w (hA1 l2 rfl) hR hF hstart) ?_
      rintro ex a' w' ⟨m', hok, hT', rfl⟩
      exact leave (.panicking v) l2 hlv rfl m' a' w' hok hT'
    | exit id => cases h
    | goto l => cases h

/-! Code. -/
abbrev Draw := Eng → Array Oper → AAct → St → CR
def DrawOk (P : Program) (D : Draw) : Prop := ∀ E, CallOk P E.call → CallGk E.call → ∀ id ops x st e x' st' lg, D E ops x st = some (e, x', st', lg) → ∀ W0 A m a w, lg.Fits W0 A → Rel W0 A m st.heap.get w → Fresh A m st.next → TRel m x a → (Code.region id ops true).wp P (XPost W0 A m st w e x' st' lg) a w
def seqA (r : CR) (k : AAct → St → CR) : CR := r.bind fun (e, x1, st1, l1) => match e with
  | .normal => (k x1 st1).map fun (e2, x2, st2, l2) => (e2, x2, st2, l1.or l2)
  | e => some (e, x1, st1, l1)
def AX.inBlock (id : Nat) : AX → AX
  | .exit id' => cond (Nat.beq id' id) .normal (.exit id')
  | e => e
def codeF (P : Program) (D : Draw) (E : Eng) : Code → AAct → St → CR
  | .skip, x, st => some (.normal, x, st, Log.no)
  | .label _, x, st => some (.normal, x, st, Log.no)
  | .region id ops draw, x, st => cond draw (D E ops x st) (opsA P E ops ops.toList x st)
  | .seq a b, x, st => seqA (E.code a x st) (E.code b)
  | .cond c t f, x, st => (ev x c).bind fun v => match v with
    | .val (.bool true) => E.code t x st
    | .val (.bool false) => E.code f x st
    | _ => none
  | .block id body, x, st => (E.code body x st).map fun (e, r) => (e.inBlock id, r)
  | .loop body, x, st => E.loop body x st
  | .exit id, x, st => some (.exit id, x, st, Log.no)
  | .ret, x, st => some (.ret, x, st, Log.no)
  | .scope body, x, st => E.code body x st
  | _, _, _ => none
def loopF (E : Eng) (body : Code) (x : AAct) (st : St) : CR := seqA (E.code body x st) (E.loop body)
def eng (P : Program) (D : Draw) (O : FuncId → List AV → St → Option (ARet × St × Log)) (H : FuncId → Oper → Option Hint := fun _ _ => none) : Nat → Eng
  | 0 => ⟨fun _ _ _ => none, fun _ _ _ => none, fun _ _ _ => none, H⟩
  | n + 1 => ⟨codeF P D (eng P D O H n), loopF (eng P D O H n), fun f args st => match O f args st with | some r => some r | none => callF P (eng P D O H n) f args st, H⟩

theorem XPost.after {A : Nat → Prop} {m m1 : Map} {st st1 : St} {w w1 : World} {l1 l2 : Log} {e : AX} {x' : AAct} {st' : St} (hok : Ok W0 A m st w m1 st1 l1 w1) {ex : Exit} {a : Act} {w' : World} (h : XPost W0 A m1 st1 w1 e x' st' l2 ex a w') : XPost W0 A m st w e x' st' (l1.or l2) ex a w' := by
  obtain ⟨m2, hok2, hT, rfl⟩ := h
  exact ⟨m2, hok.trans hok2, hT, rfl⟩
theorem AX.to_goto {e : AX} (h : ∀ l, e ≠ .goto l) (l : Nat) : e.to ≠ .goto l := by cases e <;> simp_all [AX.to]

/-- No code that is held jumps. -/
def NoJump (C : Code → AAct → St → CR) : Prop := ∀ c x st e r, C c x st = some (e, r) → ∀ l, e ≠ .goto l

theorem codeF_ok {P : Program} (hN : GoodP P) {D : Draw} (hD : DrawOk P D) {E : Eng} (hE : EngOk P E) (hG : CallGk E.call) (hJ : NoJump E.code) : CodeOk P (codeF P D E) := by
  intro c x st e x' st' lg h W0 A m a w hA hR hF hT
  cases c with
  | skip =>
    simp only [codeF, Option.some.injEq, Prod.mk.injEq] at h
    obtain ⟨rfl, rfl, rfl, rfl⟩ := h
    exact wp_skip ⟨m, Ok.refl hR hF, hT, rfl⟩
  | label l =>
    simp only [codeF, Option.some.injEq, Prod.mk.injEq] at h
    obtain ⟨rfl, rfl, rfl, rfl⟩ := h
    exact wp_label ⟨m, Ok.refl hR hF, hT, rfl⟩
  | region id ops draw =>
    simp only [codeF] at h
    cases draw with
    | true => exact hD E hE.call hG id ops x st e x' st' lg h W0 A m a w hA hR hF hT
    | false =>
      have := opsA_ok hN hE.call ops.toList [] x st e x' st' lg (by simp) h A m a w hA hR hF hT
      simp only [List.length_nil, Array.length_toList, ← List.range_eq_range'] at this
      exact wp_region this
  | seq p q =>
    simp only [codeF, seqA, Option.bind_eq_some_iff] at h
    obtain ⟨⟨e1, x1, st1, l1⟩, hp, h⟩ := h
    refine wp_seq ?_
    cases e1 with
    | normal =>
      simp only [Option.map_eq_some_iff] at h
      obtain ⟨⟨e2, x2, st2, l2⟩, hq, he⟩ := h
      cases he
      refine wp_mono (hE.code p x st _ _ _ _ hp W0 A m a w (or_A hA).1 hR hF hT) ?_
      rintro ex a1 w1 ⟨m1, hok, hT1, rfl⟩
      refine wp_mono (hE.code q x1 st1 _ _ _ _ hq W0 A m1 a1 w1 (or_A hA).2 hok.rel hok.fresh hT1) ?_
      intro ex a2 w2 hx
      exact XPost.after hok hx
    | _ =>
      simp only [Option.some.injEq, Prod.mk.injEq] at h
      obtain ⟨rfl, rfl, rfl, rfl⟩ := h
      refine wp_mono (hE.code p x st _ _ _ _ hp W0 A m a w hA hR hF hT) ?_
      rintro ex a1 w1 ⟨m1, hok, hT1, rfl⟩
      exact ⟨m1, hok, hT1, rfl⟩
  | cond cc p q =>
    simp only [codeF, Option.bind_eq_some_iff] at h
    obtain ⟨v, hv, h⟩ := h
    have hc := ev_ok hT hv
    split at h
    · simp only [AV.den, Option.some.injEq] at hc
      exact wp_cond hc.symm (by simpa using hE.code p x st e x' st' lg h W0 A m a w hA hR hF hT)
    · simp only [AV.den, Option.some.injEq] at hc
      exact wp_cond hc.symm (by simpa using hE.code q x st e x' st' lg h W0 A m a w hA hR hF hT)
    · cases h
  | block id body =>
    simp only [codeF, Option.map_eq_some_iff] at h
    obtain ⟨⟨e1, x1, st1, l1⟩, hb, he⟩ := h
    cases he
    refine wp_block (wp_mono (hE.code body x st _ _ _ _ hb W0 A m a w hA hR hF hT) ?_)
    rintro ex a1 w1 ⟨m1, hok, hT1, rfl⟩
    cases e1 with
    | exit id' =>
      simp only [AX.to, Exit.inBlock, AX.inBlock]
      by_cases hid : id' = id
      · subst hid
        simp only [if_true, Nat.beq_refl, cond_true]
        exact ⟨m1, hok, hT1, rfl⟩
      · have : Nat.beq id' id = false := by
          cases hq : Nat.beq id' id with
          | false => rfl
          | true => exact absurd (Nat.eq_of_beq_eq_true hq) hid
        simp only [if_neg hid, this, cond_false]
        exact ⟨m1, hok, hT1, rfl⟩
    | _ => exact ⟨m1, hok, hT1, rfl⟩
  | loop body =>
    simp only [codeF] at h
    intro b k cs
    obtain ⟨ex, a', w', hq, harr⟩ := hE.loop body x st e x' st' lg h W0 A m a w hA hR hF hT b k cs
    exact ⟨ex, a', w', hq, .of_steps (.one step_loop) harr⟩
  | exit id =>
    simp only [codeF, Option.some.injEq, Prod.mk.injEq] at h
    obtain ⟨rfl, rfl, rfl, rfl⟩ := h
    exact wp_exit ⟨m, Ok.refl hR hF, hT, rfl⟩
  | ret =>
    simp only [codeF, Option.some.injEq, Prod.mk.injEq] at h
    obtain ⟨rfl, rfl, rfl, rfl⟩ := h
    exact wp_ret ⟨m, Ok.refl hR hF, hT, rfl⟩
  | scope body =>
    simp only [codeF] at h
    refine wp_scope_straight (wp_mono (hE.code body x st _ _ _ _ h W0 A m a w hA hR hF hT) ?_)
    rintro ex a1 w1 ⟨m1, hok, hT1, rfl⟩
    have hj := hJ body x st e _ h
    cases e with
    | goto l => exact absurd rfl (hj l)
    | _ => exact ⟨m1, hok, hT1, rfl⟩
  | _ => simp [codeF] at h

theorem loopF_ok {P : Program} {E : Eng} (hE : EngOk P E) : LoopOk P (loopF E) := by
  intro c x st e x' st' lg h W0 A m a w hA hR hF hT b k cs
  simp only [loopF, seqA, Option.bind_eq_some_iff] at h
  obtain ⟨⟨e1, x1, st1, l1⟩, hp, h⟩ := h
  cases e1 with
  | normal =>
    simp only [Option.map_eq_some_iff] at h
    obtain ⟨⟨e2, x2, st2, l2⟩, hq, he⟩ := h
    cases he
    obtain ⟨ex, a1, w1, ⟨m1, hok, hT1, rfl⟩, harr⟩ := hE.code c x st _ _ _ _ hp W0 A m a w (or_A hA).1 hR hF hT b (.inLoop c :: k) cs
    obtain ⟨ex2, a2, w2, hq2, harr2⟩ := hE.loop c x1 st1 _ _ _ _ hq W0 A m1 a1 w1 (or_A hA).2 hok.rel hok.fresh hT1 b k cs
    exact ⟨ex2, a2, w2, XPost.after hok hq2, .of_steps (Steps.trans harr (.one step_inLoop)) harr2⟩
  | exit id =>
    simp only [Option.some.injEq, Prod.mk.injEq] at h
    obtain ⟨rfl, rfl, rfl, rfl⟩ := h
    obtain ⟨ex, a1, w1, ⟨m1, hok, hT1, rfl⟩, harr⟩ := hE.code c x st _ _ _ _ hp W0 A m a w hA hR hF hT b (.inLoop c :: k) cs
    exact ⟨_, a1, w1, ⟨m1, hok, hT1, rfl⟩, .pass (x := .inLoop c) rfl (fun _ _ => .inl (by simp [AX.to])) harr⟩
  | goto l =>
    simp only [Option.some.injEq, Prod.mk.injEq] at h
    obtain ⟨rfl, rfl, rfl, rfl⟩ := h
    obtain ⟨ex, a1, w1, ⟨m1, hok, hT1, rfl⟩, harr⟩ := hE.code c x st _ _ _ _ hp W0 A m a w hA hR hF hT b (.inLoop c :: k) cs
    exact ⟨_, a1, w1, ⟨m1, hok, hT1, rfl⟩, .pass (x := .inLoop c) rfl (fun _ _ => .inl (by simp [AX.to])) harr⟩
  | ret =>
    simp only [Option.some.injEq, Prod.mk.injEq] at h
    obtain ⟨rfl, rfl, rfl, rfl⟩ := h
    obtain ⟨ex, a1, w1, ⟨m1, hok, hT1, rfl⟩, harr⟩ := hE.code c x st _ _ _ _ hp W0 A m a w hA hR hF hT b (.inLoop c :: k) cs
    exact ⟨_, a1, w1, ⟨m1, hok, hT1, rfl⟩, .pass (x := .inLoop c) rfl (fun _ _ => .inl (by simp [AX.to])) harr⟩
  | panic v =>
    simp only [Option.some.injEq, Prod.mk.injEq] at h
    obtain ⟨rfl, rfl, rfl, rfl⟩ := h
    obtain ⟨ex, a1, w1, ⟨m1, hok, hT1, rfl⟩, harr⟩ := hE.code c x st _ _ _ _ hp W0 A m a w hA hR hF hT b (.inLoop c :: k) cs
    exact ⟨_, a1, w1, ⟨m1, hok, hT1, rfl⟩, .pass (x := .inLoop c) rfl (fun _ _ => .inl (by simp [AX.to])) harr⟩

def DrawNoJump (D : Draw) : Prop := ∀ E ops x st e r, D E ops x st = some (e, r) → ∀ l, e ≠ .goto l
theorem opsA_noJump {P : Program} {E : Eng} {ops : Array Oper} : ∀ (l : List Oper) (x : AAct) (st : St) (e : AX) (r : AAct × St × Log), opsA P E ops l x st = some (e, r) → ∀ k, e ≠ .goto k := by
  intro l
  induction l with
  | nil => intro x st e r h k; simp [opsA] at h; rw [← h.1]; simp
  | cons o rest ih =>
    intro x st e r h k
    simp only [opsA, Option.bind_eq_some_iff] at h
    obtain ⟨⟨pv, x1, st1, l1⟩, _, h⟩ := h
    cases pv with
    | some v => simp at h; rw [← h.1]; simp
    | none =>
      simp only [Option.map_eq_some_iff] at h
      obtain ⟨⟨e2, x2, st2, l2⟩, hr, he⟩ := h
      cases he
      exact ih x1 st1 _ (x2, st2, l2) hr k
theorem eng_noJump {P : Program} {D : Draw} (hD : DrawNoJump D) {O : FuncId → List AV → St → Option (ARet × St × Log)} {H : FuncId → Oper → Option Hint} : ∀ n, NoJump (eng P D O H n).code ∧ NoJump (eng P D O H n).loop := by
  intro n
  induction n with
  | zero => exact ⟨fun c x st e r h => by simp [eng] at h, fun c x st e r h => by simp [eng] at h⟩
  | succ n ih =>
    have hseq : ∀ (r : CR) (k : AAct → St → CR), (∀ e q, r = some (e, q) → ∀ l, e ≠ .goto l) → (∀ x st e q, k x st = some (e, q) → ∀ l, e ≠ .goto l) → ∀ e q, seqA r k = some (e, q) → ∀ l, e ≠ .goto l := by
      intro r k h1 h2 e q h l
      simp only [seqA, Option.bind_eq_some_iff] at h
      obtain ⟨⟨e1, x1, st1, l1⟩, hr, h⟩ := h
      have := h1 e1 _ hr
      cases e1 with
      | normal =>
        simp only [Option.map_eq_some_iff] at h
        obtain ⟨⟨e2, x2, st2, l2⟩, hk, he⟩ := h
        cases he
        exact h2 _ _ _ _ hk l
      | _ => simp only [Option.some.injEq, Prod.mk.injEq] at h; rw [← h.1]; exact this l
    refine ⟨?_, ?_⟩
    · intro c x st e r h l
      simp only [eng] at h
      cases c with
      | skip => simp [codeF] at h; rw [← h.1]; simp
      | label k => simp [codeF] at h; rw [← h.1]; simp
      | exit k => simp [codeF] at h; rw [← h.1]; simp
      | ret => simp [codeF] at h; rw [← h.1]; simp
      | region id ops d =>
        cases d with
        | true => exact hD _ ops x st e r h l
        | false => exact opsA_noJump _ x st e r h l
      | seq p q => exact hseq _ _ (fun e q hq => ih.1 p x st e q hq) (fun x st e r hr => ih.1 q x st e r hr) e r h l
      | cond cc p q =>
        simp only [codeF, Option.bind_eq_some_iff] at h
        obtain ⟨v, hv, h⟩ := h
        split at h
        · exact ih.1 p x st e r h l
        · exact ih.1 q x st e r h l
        · cases h
      | block id body =>
        simp only [codeF, Option.map_eq_some_iff] at h
        obtain ⟨⟨e1, r1⟩, hb, he⟩ := h
        cases he
        have := ih.1 body x st e1 _ hb l
        cases e1 with
        | exit id' => simp only [AX.inBlock, cond_eq_ite]; split <;> simp
        | goto k => exact this
        | _ => simp [AX.inBlock]
      | loop body => exact ih.2 body x st e r h l
      | scope body => exact ih.1 body x st e r h l
      | _ => simp [codeF] at h
    · intro c x st e r h l
      exact hseq _ _ (fun e q hq => ih.1 c x st e q hq) (fun x st e r hr => ih.2 c x st e r hr) e r h l

/-- The engine is held, at whatever depth. -/
theorem eng_ok {P : Program} (hN : GoodP P) {D : Draw} (hD : DrawOk P D) (hDJ : DrawNoJump D) {O : FuncId → List AV → St → Option (ARet × St × Log)} {H : FuncId → Oper → Option Hint} (hO : CallOk P O) (hG : ∀ n, CallGk (eng P D O H n).call) : ∀ n, EngOk P (eng P D O H n) := by
  intro n
  induction n with
  | zero => exact ⟨fun c x st e x' st' lg h => by simp [eng] at h, fun c x st e x' st' lg h => by simp [eng] at h, fun f args st r st' lg h => by simp [eng] at h⟩
  | succ n ih =>
    refine ⟨codeF_ok hN hD ih (hG n) (eng_noJump hDJ n).1, loopF_ok ih, ?_⟩
    intro f args st r st' lg h
    simp only [eng] at h
    split at h
    · rename_i r0 hr
      cases h
      exact hO f args st r st' lg hr
    · exact callF_ok hN ih f args st r st' lg h

end Go.Proofs.Ytfcdbknmajfkaaa.eng
