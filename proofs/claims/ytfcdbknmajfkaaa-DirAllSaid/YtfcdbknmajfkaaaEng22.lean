/- The engine: pieces of code from shape to shape; loops; contracts out of pieces. -/
import Derived.Test.YtfcdbknmajfkaaaEng21
namespace Go.Proofs.Ytfcdbknmajfkaaa.eng
open Go Go.RowKit
variable {W0 : Base}
set_option linter.unusedVariables false
set_option linter.unusedSimpArgs false

/-! Code, piece by piece. -/
def flat : Code → List Code
  | .seq a b => flat a ++ flat b
  | c => [c]
def wpL (P : Program) : List Code → (Exit → Act → World → Prop) → Act → World → Prop
  | [], Q, a, w => Q .normal a w
  | c :: cs, Q, a, w => c.wp P (Exit.then (wpL P cs Q) Q) a w
theorem then_mono {P : Program} {K K' : Act → World → Prop} {Q Q' : Exit → Act → World → Prop} (hK : ∀ a w, K a w → K' a w) (hQ : ∀ e a w, e ≠ .normal → Q e a w → Q' e a w) {e : Exit} {a : Act} {w : World} (h : Exit.then K Q e a w) : Exit.then K' Q' e a w := by
  cases e with
  | normal => exact hK _ _ h
  | _ => exact hQ _ _ _ (by simp) h
theorem wpL_mono {P : Program} : ∀ (cs : List Code) {Q Q' : Exit → Act → World → Prop} {a : Act} {w : World}, (∀ e a w, Q e a w → Q' e a w) → wpL P cs Q a w → wpL P cs Q' a w
  | [], Q, Q', a, w, hQ, h => hQ _ _ _ h
  | c :: cs, Q, Q', a, w, hQ, h => wp_mono h fun e a w he => then_mono (P := P) (fun a w h => wpL_mono cs hQ h) (fun e a w _ h => hQ e a w h) he
theorem wpL_seq {P : Program} : ∀ (c : Code) (k : List Code) {Q : Exit → Act → World → Prop} {a : Act} {w : World}, wpL P (flat c ++ k) Q a w → c.wp P (Exit.then (wpL P k Q) Q) a w
  | .seq p q, k, Q, a, w, h => by
    simp only [flat, List.append_assoc] at h
    refine wp_seq (wp_mono (wpL_seq p (flat q ++ k) h) ?_)
    intro e a w he
    cases e with
    | normal => exact wpL_seq q k he
    | _ => exact he
  | .skip, k, Q, a, w, h => h
  | .region .., k, Q, a, w, h => h
  | .cond .., k, Q, a, w, h => h
  | .block .., k, Q, a, w, h => h
  | .loop .., k, Q, a, w, h => h
  | .rangeFunc .., k, Q, a, w, h => h
  | .exit .., k, Q, a, w, h => h
  | .scope .., k, Q, a, w, h => h
  | .label .., k, Q, a, w, h => h
  | .goto .., k, Q, a, w, h => h
  | .ret, k, Q, a, w, h => h
  | .refuse .., k, Q, a, w, h => h
theorem wp_of_flat {P : Program} {c : Code} {Q : Exit → Act → World → Prop} {a : Act} {w : World} (h : wpL P (flat c) Q a w) : c.wp P Q a w := by
  refine wp_mono (wpL_seq c [] (by rwa [List.append_nil])) ?_
  intro e a w he
  cases e with
  | normal => exact he
  | _ => exact he

def codesA (E : Eng) : List Code → AAct → St → CR
  | [], x, st => some (.normal, x, st, Log.no)
  | c :: cs, x, st => seqA (E.code c x st) (codesA E cs)
theorem codesA_ok {P : Program} {E : Eng} (hE : EngOk P E) : ∀ (l l2 : List Code) (x : AAct) (st : St) (e : AX) (x' : AAct) (st' : St) (lg : Log), codesA E l x st = some (e, x', st', lg) → ∀ (A : Nat → Prop) (m : Map) (a : Act) (w : World), lg.Fits W0 A → Rel W0 A m st.heap.get w → Fresh A m st.next → TRel m x a →
    ∀ (Q : Exit → Act → World → Prop), (∀ m' a' w', Ok W0 A m st w m' st' lg w' → TRel m' x' a' → (e = .normal → wpL P l2 Q a' w') ∧ (e ≠ .normal → Q e.to a' w')) → wpL P (l ++ l2) Q a w
  | [], l2, x, st, e, x', st', lg, h, A, m, a, w, hA, hR, hF, hT, Q, hQ => by
    simp only [codesA, Option.some.injEq, Prod.mk.injEq] at h
    obtain ⟨rfl, rfl, rfl, rfl⟩ := h
    exact (hQ m a w (Ok.refl hR hF) hT).1 rfl
  | c :: l, l2, x, st, e, x', st', lg, h, A, m, a, w, hA, hR, hF, hT, Q, hQ => by
    simp only [codesA, seqA, Option.bind_eq_some_iff] at h
    obtain ⟨⟨e1, x1, st1, l1⟩, hp, h⟩ := h
    show c.wp P (Exit.then (wpL P (l ++ l2) Q) Q) a w
    cases e1 with
    | normal =>
      simp only [Option.map_eq_some_iff] at h
      obtain ⟨⟨e2, x2, st2, lg2⟩, hq, he⟩ := h
      cases he
      refine wp_mono (hE.code c x st _ _ _ _ hp W0 A m a w (or_A hA).1 hR hF hT) ?_
      rintro ex a1 w1 ⟨m1, hok, hT1, rfl⟩
      exact codesA_ok hE l l2 x1 st1 _ _ _ lg2 hq A m1 a1 w1 (or_A hA).2 hok.rel hok.fresh hT1 Q (fun m' a' w' hok' hT' => hQ m' a' w' (hok.trans hok') hT')
    | _ =>
      simp only [Option.some.injEq, Prod.mk.injEq] at h
      obtain ⟨rfl, rfl, rfl, rfl⟩ := h
      refine wp_mono (hE.code c x st _ _ _ _ hp W0 A m a w hA hR hF hT) ?_
      rintro ex a1 w1 ⟨m1, hok, hT1, rfl⟩
      exact (hQ m1 a1 w1 hok hT1).2 (by simp)

/-- A run of code from shape to shape. -/
def segTo (P : Program) (O : Orc) (n : Nat) (cs : List Code) (sh : Shape) (path : List Nat) (sh' : Shape) (rho : List (Nat × Nat)) (H : FuncId → Oper → Option Hint := fun _ _ => none) : Option (AX × List Fact × List SX) :=
  (canon sh path).bind fun (x, st) => (codesA (theEng P O n H) cs x st).bind fun (e, x', st', lg) => (readSt sh' rho x' st').bind fun (es, fs) => cond (canon sh' []).isSome (some (e, lg.V ++ fs, es)) none
theorem canon_path {sh : Shape} {path : List Nat} {x : AAct} {st : St} (h : canon sh path = some (x, st)) : ∃ st0, canon sh [] = some (x, st0) ∧ st = { st0 with path := path } := by
  unfold canon at h ⊢
  simp only [Option.bind_eq_some_iff] at h
  obtain ⟨⟨xs, r⟩, h1, ⟨css, r'⟩, h2, h⟩ := h
  simp only [h1, h2, Option.bind_some]
  cases hc : (r'.isEmpty && small (sh.slots.map (·.1)) && Nat.blt (sh.boxes.length + sh.rows.length) 16777215 && ownsOk sh.boxes sh.rows.length) with
  | false => simp only [hc, cond_false] at h; cases h
  | true =>
    simp only [hc, cond_true, Option.some.injEq, Prod.mk.injEq] at h
    obtain ⟨rfl, rfl⟩ := h
    exact ⟨_, rfl, rfl⟩
theorem seg_ok (hN : GoodP Try.prog) (hM : Try.prog.follows .mixedOrders = true) {O : Orc} (hO : OrcOk Try.prog O) {n : Nat} {l l2 : List Code} {sh sh' : Shape} {path : List Nat} {rho : List (Nat × Nat)} {H : FuncId → Oper → Option Hint} {e : AX} {fs : List Fact} {es : List SX}
    (hrun : segTo Try.prog O n l sh path sh' rho H = some (e, fs, es)) {C : Base} {ps : List PV} {a : Act} {w : World} (h : InShape C sh ps a w) (hf : ∀ x ∈ fs, x.holds (C.with ps)) {Q : Exit → Act → World → Prop}
    (hQ : ∀ qs a' w', evs (fun i => ps[i]?) C.F es = some qs → InShape C sh' qs a' w' → (e = .normal → wpL Try.prog l2 Q a' w') ∧ (e ≠ .normal → Q e.to a' w')) : wpL Try.prog (l ++ l2) Q a w := by
  simp only [segTo, Option.bind_eq_some_iff] at hrun
  obtain ⟨⟨x, st⟩, hcan, ⟨e', x', st', lg⟩, hcode, ⟨es', fs'⟩, hrd, hrun⟩ := hrun
  cases hc : (canon sh' []).isSome with
  | false => simp [hc] at hrun
  | true =>
    simp only [hc, cond_true, Option.some.injEq, Prod.mk.injEq] at hrun
    obtain ⟨rfl, rfl, rfl⟩ := hrun
    obtain ⟨x0, st0, m, h0, hl, hat⟩ := h
    obtain ⟨st1, h1, rfl⟩ := canon_path hcan
    rw [h0] at h1
    cases h1
    refine codesA_ok (W0 := C.with ps) (theEng_ok hN hM hO n) l l2 x _ _ _ _ _ hcode (fun _ => True) m a w ⟨fun _ _ => trivial, fun f hf' => hf f (by simp [hf'])⟩ hat.rel hat.fresh hat.tm Q ?_
    intro m' a' w' hok hT'
    obtain ⟨qs, q1, q2⟩ := reabs (B := C.with ps) ⟨hok.rel, hok.fresh, hT'⟩ hrd (fun f hf' => hf f (by simp [hf'])) hc
    exact hQ qs a' w' q1 q2

/-- A loop in its block. -/
theorem loop_rule {P : Program} {c : Code} {Q : Exit → Act → World → Prop} (I : Nat → Act → World → Prop) (h : ∀ n a w, I n a w → c.wp P (fun e a' w' => (e = .normal ∧ ∃ n', n' < n ∧ I n' a' w') ∨ (e ≠ .normal ∧ (∀ l, e ≠ .goto l) ∧ Q e a' w')) a w) : ∀ n a w, I n a w → (Code.loop c).wp P Q a w := by
  have key : ∀ n a w, I n a w → LoopWp P c Q a w := by
    intro n
    induction n using Nat.strongRecOn with
    | ind n ih =>
      intro a w hI b k cs
      obtain ⟨e, a1, w1, hq, harr⟩ := h n a w hI b (.inLoop c :: k) cs
      rcases hq with ⟨rfl, n', hn', hI'⟩ | ⟨hne, hng, hq⟩
      · obtain ⟨e2, a2, w2, hq2, harr2⟩ := ih n' hn' a1 w1 hI' b k cs
        exact ⟨e2, a2, w2, hq2, .of_steps (Steps.trans harr (.one step_inLoop)) harr2⟩
      · refine ⟨e, a1, w1, hq, ?_⟩
        cases e with
        | normal => exact absurd rfl hne
        | goto l => exact absurd rfl (hng l)
        | exit id => exact .pass (x := .inLoop c) rfl (fun _ _ => .inl (by simp)) harr
        | ret => exact .pass (x := .inLoop c) rfl (fun _ _ => .inl (by simp)) harr
        | panic ch => exact .pass (x := .inLoop c) rfl (fun _ _ => .inl (by simp)) harr
        | outgrown => exact .pass (x := .inLoop c) rfl (fun _ _ => .inl (by simp)) harr
  intro n a w hI b k cs
  obtain ⟨e, a', w', hq, harr⟩ := key n a w hI b k cs
  exact ⟨e, a', w', hq, .of_steps (.one step_loop) harr⟩
theorem block_loop {P : Program} {id : Nat} {b : Code} {k : List Code} {Q : Exit → Act → World → Prop} (I : Nat → Act → World → Prop)
    (h : ∀ n a w, I n a w → wpL P (flat b) (fun e a' w' => (e = .normal ∧ ∃ n', n' < n ∧ I n' a' w') ∨ (e = .exit id ∧ wpL P k Q a' w') ∨ (e = .ret ∧ Q .ret a' w')) a w) {n : Nat} {a : Act} {w : World} (hI : I n a w) : wpL P (.block id (.loop b) :: k) Q a w := by
  refine wp_block (loop_rule I (fun n a w hI => wp_mono (wp_of_flat (h n a w hI)) ?_) n a w hI)
  rintro e a' w' (⟨rfl, hn⟩ | ⟨rfl, hk⟩ | ⟨rfl, hq⟩)
  · exact .inl ⟨rfl, hn⟩
  · refine .inr ⟨by simp, by simp, ?_⟩
    simp only [Exit.inBlock, if_true]
    exact hk
  · exact .inr ⟨by simp, by simp, hq⟩

/-! A contract out of pieces. -/
def isVars : List SX → Nat → Bool
  | [], _ => true
  | .var j :: es, i => Nat.beq j i && isVars es (i + 1)
  | _, _ => false
theorem isVars_ok {s : Nat → Option PV} {F : Fns} {ps : List PV} : ∀ (es : List SX) (i : Nat), isVars es i = true → es.length + i = ps.length → (∀ j p, ps[j]? = some p → s j = some p) → evs s F es = some (ps.drop i)
  | [], i, _, hl, _ => by
    have : ps.drop i = [] := List.drop_eq_nil_of_le (by simp at hl; omega)
    simp [evs, this]
  | e :: es, i, h, hl, hs => by
    cases e <;> simp [isVars] at h
    rename_i j
    obtain ⟨rfl, h⟩ := h
    have hi : j < ps.length := by simp at hl; omega
    have ih := isVars_ok (F := F) es (j + 1) h (by simp at hl ⊢; omega) hs
    simp only [evs, SX.ev, hs j _ (List.getElem?_eq_getElem hi), Option.bind_some, ih, Option.map_some]
    rw [List.drop_eq_getElem_cons hi]
def varFacts (rows : List (Option Bool)) : List Fact → Bool
  | [] => true
  | .ok (.var j) :: fs => (match rows[j]? with | some none => true | _ => false) && varFacts rows fs
  | _ => false
theorem varFacts_ok {B : Base} {rows : List (Option Bool)} (h : ∀ j : Nat, rows[j]? = some none → ∃ x, B.s j = some (.v x) ∧ x.oneCell' = true) : ∀ (fs : List Fact), varFacts rows fs = true → ∀ f ∈ fs, f.holds B
  | [], _, f, hf => by simp at hf
  | g :: fs, hv, f, hf => by
    unfold varFacts at hv
    split at hv
    · rename_i e; cases e
    · rename_i j fs' e
      cases e
      simp only [Bool.and_eq_true] at hv
      rcases List.mem_cons.1 hf with rfl | hf
      · have : rows[j]? = some none := by
          revert hv
          cases hr : rows[j]? with
          | none => simp
          | some o => cases o <;> simp
        obtain ⟨x, hx, ho⟩ := h j this
        exact ⟨x, by simpa [Base.ev, SX.ev] using hx, ho⟩
      · exact varFacts_ok h _ hv.2 f hf
    · cases hv
def startOk (E : FnE) (fn : Func) (f : FuncId) (sh : Shape) : Bool := match startD E (sh.rows.map fun k => match k with | some _ => .row | none => .num) [] with
  | some (args, st, fs) => Nat.blt args.length 16777215 && Nat.beq sh.rows.length (shLen E.ins) && (canon sh []).isSome && varFacts sh.rows fs && (match readSt sh [] (startA fn args f) st with | some (es, fs') => isVars es 0 && Nat.beq es.length sh.rows.length && varFacts sh.rows fs' | none => false)
  | none => false
/-- What is answered out of a state. -/
def resTo (P : Program) (fn : Func) (sh : Shape) (E : FnE) : Option (List SX) := (canon sh []).bind fun (x, st) => (aResults P fn x st).bind fun (y, l1) => (partsOf E.outs y).bind fun ys => (leavesA E.outs ys).bind fun ls => (resAll st ls).bind fun (es, l2) => cond (l1.V.isEmpty && l2.V.isEmpty) (some es) none
theorem told_by {f : FuncId} {E : FnE} {spec : List PV → Option (List PV)} (F : Fns) (fn : Func) (c : Code) (hfn : Try.prog.funcs[f]? = some fn) (hc : fn.body = some c) (sh0 : Shape) (hsh : startOk E fn f sh0 = true)
    (hk : ∀ ps qs, spec ps = some qs → ∀ i : Nat, sh0.rows[i]? = some none → ∃ x, ps[i]? = some (.v x) ∧ x.oneCell' = true)
    (h : ∀ (C : Base) ps qs, C.F = F → spec ps = some qs → ∀ a w, InShape C sh0 ps a w → wpL Try.prog (flat c) (fun e a' w' => (e = .normal ∨ e = .ret) ∧ ∃ sh' ps' es, InShape C sh' ps' a' w' ∧ resTo Try.prog fn sh' E = some es ∧ evs (fun i => ps'[i]?) F es = some qs) a w) (hpl0 : E.kinds.all CK.plain = true := by rfl) : ToldF f E spec := by
  intro w FP us ps qs hsp hul hpl hFP hrd
  unfold startOk at hsh
  split at hsh
  · rename_i args st fs hst
    simp only [Bool.and_eq_true, Nat.blt_eq, Nat.beq_eq] at hsh
    obtain ⟨⟨⟨⟨hal, hrl⟩, hcan⟩, hvf⟩, hread⟩ := hsh
    split at hread
    · rename_i es fs' hre
      simp only [Bool.and_eq_true, Nat.beq_eq] at hread
      obtain ⟨⟨hiv, hel⟩, hvf'⟩ := hread
      have hk' := hk ps qs hsp
      obtain ⟨m, hR, hF, hargs, hv0, _⟩ := start_rel (F := F) hst hul hpl hFP hrd (varFacts_ok (B := ⟨w, fun i => ps[i]?, F, FP, fun _ => False⟩) hk' fs hvf)
      have hT := start_ok (f := f) (fn := fn) hargs hal
      obtain ⟨qs', q1, q2⟩ := reabs (B := ⟨w, fun i => ps[i]?, F, FP, fun _ => False⟩) ⟨hR, hF, hT⟩ hre (varFacts_ok (B := ⟨w, fun i => ps[i]?, F, FP, fun _ => False⟩) hk' fs' hvf') hcan
      have := isVars_ok (s := fun i => ps[i]?) (F := F) (ps := ps) es 0 hiv (by omega) (fun j p hp => hp)
      rw [List.drop_zero] at this
      simp only at q1
      rw [this] at q1
      cases q1
      refine calls_of_wp_defers hfn hc (wp_mono (wp_of_flat (h _ ps qs rfl hsp _ w q2)) ?_)
      rintro e a' w' ⟨he, sh', ps', es', ⟨x, st1, m1, hc1, hl1, hat⟩, hres, hev⟩
      simp only [resTo, hc1, Option.bind_some, Option.bind_eq_some_iff] at hres
      obtain ⟨⟨y, l1⟩, hy, ys, hys, ls, hls, ⟨es2, l2⟩, hes2, hres⟩ := hres
      cases hv : (l1.V.isEmpty && l2.V.isEmpty) with
      | false => simp [hv] at hres
      | true =>
        simp only [hv, cond_true, Option.some.injEq] at hres
        subst hres
        simp only [Bool.and_eq_true, List.isEmpty_iff] at hv
        obtain ⟨v, hvv, hrun⟩ := aResults_ok hy ⟨fun _ _ => trivial, fun f hf => by rw [hv.1] at hf; cases hf⟩ hat.rel hat.tm
        obtain ⟨us', h1, h2, rfl⟩ := parts_ok hys hvv hls
        obtain ⟨qs2, h3, h4, h5⟩ := resAll_ok hat.rel hes2 ⟨fun _ _ => trivial, fun f hf => by rw [hv.2] at hf; cases hf⟩ h1
        have h3' : evs (fun i => ps'[i]?) F es2 = some qs2 := h3
        rw [hev] at h3'
        cases h3'
        have hdef : a'.defers = [] := by
          have := hat.tm.defers
          have hx : x.defers = [] := by
            unfold canon at hc1
            simp only [Option.bind_eq_some_iff] at hc1
            obtain ⟨⟨xs, r⟩, _, ⟨css, r'⟩, _, hc1⟩ := hc1
            simp only [cond_eq_ite] at hc1
            split at hc1
            · cases hc1; rfl
            · cases hc1
          rw [hx] at this
          simpa [denD] using this.symm
        have fin : Leaves Try.prog fn a'.tmps (fun e w' => ∃ (us' : List Value) (ow : Nat → Option Nat), us'.length = qs.length ∧ qs.length = shLen E.outs ∧ Owns w w' E.kinds qs us' ow ∧ (∀ (i : Nat) (q : PV) (u : Value), qs[i]? = some q → us'[i]? = some u → ∀ w2 : World, (∀ k, FP k ∨ (w.heap.size ≤ k ∧ k < w'.heap.size) → (∀ j, j ≠ i → ow j ≠ some k) → w2.heap[k]? = w'.heap[k]?) → Reads w2 q u) ∧ e = .returned (answer E.outs us') ∧ Ex w w') a'.defers .returning w' := by
          rw [hdef]
          have hll := denL_length h1
          refine ⟨_, hrun, us', fun _ => none, h4.symm, by omega, owns_none hpl0, fun i q u hq hu w2 hw2 => h5 i q u _ hq hu (List.getElem?_eq_getElem (show i < ls.length by have := (List.getElem?_eq_some_iff.1 hu).1; omega)) w2 (fun k hk _ => hw2 k ?_ (fun _ _ h => by cases h)), rfl, ⟨hat.rel.same.1, hat.rel.same.2.1, hat.rel.same.2.2, hat.rel.size0, fun k hk => hat.rel.amb k hk (fun h => h)⟩⟩
          rcases hk.2 with h | h
          · exact .inl h
          · exact .inr ⟨h, hk.1⟩
        rcases he with rfl | rfl
        · exact fin
        · exact fin
    · cases hread
  · cases hsh

/-! Which code. -/
def bodyOf (P : Program) (f : FuncId) : Code := ((P.funcs[f]?).bind (·.body)).getD .skip
def nth (l : List Code) (i : Nat) : Code := (l[i]?).getD .skip
def loopBody : Code → Code | .block _ (.loop b) => b | _ => .skip
def blockId : Code → Nat | .block i _ => i | _ => 0
def kindC : Code → Nat × Nat | .region i _ _ => (1, i) | .cond _ _ _ => (2, 0) | .block i (.loop _) => (3, i) | .block i _ => (4, i) | .ret => (5, 0) | .exit i => (6, i) | .skip => (0, 0) | .scope _ => (7, 0) | _ => (9, 0)
end Go.Proofs.Ytfcdbknmajfkaaa.eng
