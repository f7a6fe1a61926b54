/- The engine, and what a call that it runs is. -/
import Derived.Test.YtfcdbknmajfkaaaEng15
import Derived.Test.YtfcdbknmajfkaaaAfter
namespace Go.Proofs.Ytfcdbknmajfkaaa.eng
open Go Go.RowKit
variable {W0 : Base}
set_option linter.unusedVariables false
set_option linter.unusedSimpArgs false

theorem drawGo_both {P : Program} {E : Eng} (hG : CallGk E.call) {ops : Array Oper} : ∀ (l : List Oper) (i : Nat) (ms : List Nat) (acc : List (Nat × Log)) (x : AAct) (st : St) (e : AX) (x' : AAct) (st' : St) (lg : Log), drawGo P E ops l i ms acc x st = some (e, x', st', lg) → Gk st st' lg ∧ ∀ k, e ≠ .goto k
  | [], i, ms, acc, x, st, e, x', st', lg, h => by
    simp only [drawGo, Option.some.injEq, Prod.mk.injEq] at h
    obtain ⟨rfl, rfl, rfl, rfl⟩ := h
    exact ⟨Gk.refl _ _, by simp⟩
  | o :: rest, i, [], acc, x, st, e, x', st', lg, h => by simp [drawGo] at h
  | o :: rest, i, m :: ms, acc, x, st, e, x', st', lg, h => by
    simp only [drawGo, Option.bind_eq_some_iff] at h
    obtain ⟨⟨pv, x1, st1, l1⟩, hop, h⟩ := h
    have hgk := (opD_chk hG hop).2.2.2.1
    cases hla : logsApart m l1 acc with
    | false => simp [hla] at h
    | true =>
      simp only [hla, cond_true] at h
      cases pv with
      | some v =>
        simp only at h
        cases hc : (Nat.beq m ((1 <<< i) - 1) && allBehind i ms) with
        | false => simp [hc] at h
        | true =>
          simp only [hc, cond_true, Option.some.injEq, Prod.mk.injEq] at h
          obtain ⟨rfl, rfl, rfl, rfl⟩ := h
          exact ⟨hgk, by simp⟩
      | none =>
        simp only [Option.map_eq_some_iff] at h
        obtain ⟨⟨e2, x2, st2, l2⟩, hrest, he⟩ := h
        cases he
        obtain ⟨h1, h2⟩ := drawGo_both hG rest _ _ _ _ _ _ _ _ _ hrest
        exact ⟨hgk.trans h1, h2⟩
theorem drawGo_noJump {P : Program} {E : Eng} {ops : Array Oper} : ∀ (l : List Oper) (i : Nat) (ms : List Nat) (acc : List (Nat × Log)) (x : AAct) (st : St) (e : AX) (r : AAct × St × Log), drawGo P E ops l i ms acc x st = some (e, r) → ∀ k, e ≠ .goto k
  | [], i, ms, acc, x, st, e, r, h => by simp [drawGo] at h; rw [← h.1]; simp
  | o :: rest, i, [], acc, x, st, e, r, h => by simp [drawGo] at h
  | o :: rest, i, m :: ms, acc, x, st, e, r, h => by
    simp only [drawGo, Option.bind_eq_some_iff] at h
    obtain ⟨⟨pv, x1, st1, l1⟩, hop, h⟩ := h
    cases hla : logsApart m l1 acc with
    | false => simp [hla] at h
    | true =>
      simp only [hla, cond_true] at h
      cases pv with
      | some v =>
        simp only at h
        cases hc : (Nat.beq m ((1 <<< i) - 1) && allBehind i ms) with
        | false => simp [hc] at h
        | true => simp [hc] at h; rw [← h.1]; simp
      | none =>
        simp only [Option.map_eq_some_iff] at h
        obtain ⟨⟨e2, x2, st2, l2⟩, hrest, he⟩ := h
        cases he
        exact drawGo_noJump rest _ _ _ _ _ _ _ hrest
theorem drawF_noJump (P : Program) : DrawNoJump (drawF P) := by
  intro E ops x st e r h
  simp only [drawF, cond_eq_ite] at h
  split at h
  · exact drawGo_noJump _ _ _ _ _ _ _ _ h
  · cases h
theorem drawF_gk (P : Program) : DrawGk (drawF P) := by
  intro E hG ops x st e x' st' lg h
  simp only [drawF, cond_eq_ite] at h
  split at h
  · exact (drawGo_both hG _ _ _ _ _ _ _ _ _ _ h).1
  · cases h

/-- What is known of some functions by other means. -/
abbrev Orc := FuncId → List AV → St → Option (ARet × St × Log)
structure OrcOk (P : Program) (O : Orc) : Prop where
  call : CallOk P O
  gk : CallGk O
def noOrc : Orc := fun _ _ _ => none
theorem noOrc_ok (P : Program) : OrcOk P noOrc := ⟨fun f args st r st' lg h => (by cases h), fun f args st r st' lg h => (by cases h)⟩
def theEng (P : Program) (O : Orc) (n : Nat) (H : FuncId → Oper → Option Hint := fun _ _ => none) : Eng := eng P (drawF P) O H n
theorem theEng_ok {P : Program} (hN : GoodP P) (hM : P.follows .mixedOrders = true) {O : Orc} (hO : OrcOk P O) (n : Nat) {H : FuncId → Oper → Option Hint} : EngOk P (theEng P O n H) :=
  eng_ok hN (drawF_ok hN hM) (drawF_noJump P) hO.call (fun n => (eng_gk (drawF_gk P) hO.gk n).2.2) n

/-- Nothing came in. -/
def Base.none (w : World) : Base := ⟨w, fun _ => Option.none, fun _ _ => Option.none, fun _ => False, fun _ => False⟩
noncomputable def Base.map0 (B : Base) : Map := ⟨fun _ _ => Option.none, fun _ => Option.none, B.sv⟩
/-- A call without places: where the engine comes to a value without places, the call answers it, and nothing that was there has turned. -/
theorem calls_plain {P : Program} (hN : GoodP P) (hM : P.follows .mixedOrders = true) {O : Orc} (hO : OrcOk P O) {n : Nat} {f : FuncId} {args : List Value} {y : AV} {v : Value} {st' : St} {lg : Log}
    (h : (theEng P O n).call f (args.map .val) ⟨.nil, 0, []⟩ = some (.ret y, st', lg)) (hV : lg.V.isEmpty = true) (hy : y.den Map.empty = some v) (w : World) : Calls P f args.toArray w fun e w' => e = .returned v ∧ Ex w w' := by
  have h1 := (theEng_ok hN hM hO n).call f _ _ _ _ _ h (Base.none w) (fun _ => True) (Base.none w).map0 w args ⟨fun _ _ => trivial, fun p hp => by rw [List.isEmpty_iff.1 hV] at hp; cases hp⟩ ⟨fun r o _ ho => by simp [T.get] at ho, fun r r' o o' v n v' n' b b' _ _ ho => by simp [T.get] at ho, fun r o v n rest _ ho => by simp [T.get] at ho, Nat.le_refl _, fun _ _ _ => rfl, fun r o v n b _ ho => by simp [T.get] at ho, fun r o R _ ho => by simp [T.get] at ho, fun r o R v fp r' o' u n b _ _ ho => by simp [T.get] at ho, fun e => rfl, ⟨rfl, rfl, rfl⟩, fun r o R v fp _ ho => by simp [T.get] at ho, fun r o e v n b _ ho => by simp [T.get] at ho⟩ (fun r _ _ => ⟨fun v => rfl, rfl⟩) (denL_vals _ _)
  refine h1.mono ?_
  rintro e w' ⟨m', hok, u, hu, rfl⟩
  rw [AV.den_mono (Map.empty_le m') y hy] at hu
  cases hu
  refine ⟨rfl, ⟨hok.step.os, hok.step.tape, hok.step.output, hok.step.size, fun k hk => hok.step.keep k hk ?_⟩⟩
  intro r o v n b _ ho
  simp [T.get] at ho
/-- The value of a run, if it is one without places. -/
def plainRet (r : Option (ARet × St × Log)) : Option Value := match r with | some (.ret y, _, _) => y.den Map.empty | _ => none
def isTrue (r : Option (ARet × St × Log)) : Bool := match r with | some (.ret (.val (.bool true)), _, lg) => lg.V.isEmpty | _ => false
theorem calls_true {P : Program} (hN : GoodP P) (hM : P.follows .mixedOrders = true) {O : Orc} (hO : OrcOk P O) {n : Nat} {f : FuncId} {args : List Value} (h : isTrue ((theEng P O n).call f (args.map .val) ⟨.nil, 0, []⟩) = true) (w : World) :
    Calls P f args.toArray w fun e w' => e = .returned (.bool true) ∧ Ex w w' := by
  generalize hr : (theEng P O n).call f (args.map .val) ⟨.nil, 0, []⟩ = r at h
  match r, h with
  | some (.ret (.val (.bool true)), st', lg), h => exact calls_plain hN hM hO hr h rfl w

end Go.Proofs.Ytfcdbknmajfkaaa.eng
