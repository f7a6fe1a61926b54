/- StateBoots by the symbolic engine. -/
import Derived.Test.YtnelcjofgpplgaaSlc
namespace Go.Proofs.Ytnelcjofgpplgaa.stateBoots
open Go Go.RowKit eng SX Fact fil fileFronts dirs pck may sta
open fileFronts
open pck hiding F F20 F21
open dirs hiding shR shRl shRR flR lpR cutR f0 f1 f2 f3 m0 m1 m2 x2 x3 n1
open may hiding m1 m2 m3 m4 r1 r2 r3 r4 r5
set_option linter.unusedVariables false
set_option linter.unusedSimpArgs false
set_option maxRecDepth 1000000

def ESmT (k : Nat) : FnE := { k := k, ins := [some 3, some 3], leaks := [false, false, false, false, false, false], outs := [none], kinds := [.truth] }
def tabA (f : FuncId) : Option FnE := cond (Nat.beq f 9) (some (ETrue 7)) (cond (Nat.beq f 22) (some (EBoot 1)) (cond (Nat.beq f 24) (some (EMayS 2)) (cond (Nat.beq f 26) (some (ESmT 3)) none)))
def tabAP (f : FuncId) : Option PtrE := cond (Nat.beq f 11) (some (ESt 24)) none
def orcA : Orc := orcOr (orcFn tabA) (orcP tabAP)
noncomputable def flA := flat (bodyOf Try.prog 8)
noncomputable def lpA := flat (loopBody (nth flA 8))
def sh0 : Shape := ⟨[(0, .leaf), (1, .leaf)], [], [some true, none], 55, 8⟩
def shL : Shape := ⟨[(1, .leaf), (5, .ptr 0 0 0 0), (6, .ptr 1 0 0 0), (7, .leaf)], [sbox true, sbox true], [none, none, some true, some true, none, some true, some true, none], 55, 8⟩
def shE : Shape := ⟨[(4, .leaf)], [], [none], 55, 8⟩
@[simp] def zSbo1 : List SX := [.con (.int .i64 25), .var 0, .con (.int .i64 0)]
@[simp] def zSbo2 : SX := .conv .i64 (.bin .rem (.var 0) (.con (.int .u8 9)))
@[simp] def zSbo3 : List SX := [.var 5, .var 6, .var 7]
@[simp] def zSbo4 : SX := .bin .gtr (.len (.var 0)) (.con (.int .i64 60))
@[simp] def zSbo5 : List SX := [.var 2, .var 3, .con (.int .i64 1073741824)]
theorem q1 : segTo Try.prog orcA 10000 flA sh0 [1, 1] shE [] = some (.ret, [.fn 9 (ETrue 7) [], .is (.fn 7 [] 0) (.bool true), .ok (.len (.var 0)), .ok zSbo4, .is zSbo4 (.bool true), .ok (.con (.bool true))], [.con (.bool true)]) := by kernel_rfl
theorem pre : segTo Try.prog orcA 10000 (flA.take 8) sh0 [1, 0] shL [(5, 0), (6, 0)] = some (.normal, [.fn 9 (ETrue 7) [], .is (.fn 7 [] 0) (.bool true), .ok (.len (.var 0)), .ok zSbo4, .is zSbo4 (.bool false), .fp 11 (ESt 24) zSbo1, .ok (.fn 24 zSbo1 2), .ok (.fn 24 zSbo1 4), .ok (.var 1), .ok (.con (.int .i64 0)), .ok (.fn 24 zSbo1 2), .ok (.fn 24 zSbo1 2)], [.var 1, .con (.int .i64 0), .fn 24 zSbo1 0, .fn 24 zSbo1 1, .fn 24 zSbo1 2, .fn 24 zSbo1 0, .fn 24 zSbo1 1, .fn 24 zSbo1 2]) := by kernel_rfl
theorem lx : segTo Try.prog orcA 10000 lpA shL [0] shL [(0, 0), (1, 0)] = some (.exit 0, [.ok (.bin .rem (.var 0) (.con (.int .u8 9))), .ok zSbo2, .ok (.bin .lss (.var 1) zSbo2), .is (.bin .lss (.var 1) zSbo2) (.bool false), .ok (.var 0), .ok (.var 1), .ok (.var 4), .ok (.var 7)], [.var 0, .var 1, .var 2, .var 3, .var 4, .var 5, .var 6, .var 7]) := by kernel_rfl
theorem ln : segTo Try.prog orcA 10000 lpA shL [1] shL [(0, 0), (1, 0)] = some (.normal, [.ok (.bin .rem (.var 0) (.con (.int .u8 9))), .ok zSbo2, .ok (.bin .lss (.var 1) zSbo2), .is (.bin .lss (.var 1) zSbo2) (.bool true), .fn 22 (EBoot 1) zSbo3, .ok (.fn 1 zSbo3 2), .ok (.bin .add (.var 1) (.con (.int .i64 1))), .ok (.var 0), .ok (.bin .add (.var 1) (.con (.int .i64 1))), .ok (.var 4), .ok (.fn 1 zSbo3 2)], [.var 0, .bin .add (.var 1) (.con (.int .i64 1)), .var 2, .var 3, .var 4, .fn 1 zSbo3 0, .fn 1 zSbo3 1, .fn 1 zSbo3 2]) := by kernel_rfl
theorem post : segTo Try.prog orcA 10000 (flA.drop 9) shL [0, 1, 1, 1] shE [] = some (.ret, [.ok (.bin .rem (.var 0) (.con (.int .u8 9))), .ok zSbo2, .ok (.bin .add (.var 4) zSbo2), .ok (.bin .neq (.var 7) (.bin .add (.var 4) zSbo2)), .is (.bin .neq (.var 7) (.bin .add (.var 4) zSbo2)) (.bool false), .fn 24 (EMayS 2) zSbo3, .is (.fn 2 zSbo3 0) (.bool true), .fn 26 (ESmT 3) [.var 5, .var 6, .var 4, .var 2, .var 3, .var 4], .is (.fn 3 [.var 5, .var 6, .var 4, .var 2, .var 3, .var 4] 0) (.bool true), .fn 22 (EBoot 1) zSbo5, .ok (.fn 1 zSbo5 2), .ok (.bin .eql (.fn 1 zSbo5 2) (.con (.int .i64 1073741824))), .is (.bin .eql (.fn 1 zSbo5 2) (.con (.int .i64 1073741824))) (.bool true), .ok (.con (.bool true))], [.con (.bool true)]) := by kernel_rfl

@[simp] theorem kSmT (k : Nat) : (ESmT k).k = k := rfl
def ELaw (k : Nat) : FnE := { k := k, ins := [none, none], leaks := [true, false], outs := [none], kinds := [.truth] }
def RL (ps qs : List PV) : Prop := ∃ (p : List Nat) (n : Nat), p.length ≤ 9223372036854775807 ∧ (∀ z ∈ p, z < 256) ∧ n < 256 ∧ ps = [pRow encU p, pU (n : Int)] ∧ qs = [pB true]
theorem fL : ∀ ps q1 q2, RL ps q1 → RL ps q2 → q1 = q2 := by
  rintro ps q1 q2 ⟨_, _, _, _, _, _, rfl⟩ ⟨_, _, _, _, _, _, rfl⟩; rfl
noncomputable def G : Fns := fun k => match k with | 1 => spec RBootP | 2 => spec RMayS | 3 => spec RSmS | 7 => spec RTrue | 24 => spec RSt | _ => fun _ => none
theorem u1 : ToldF 22 (EBoot 1) (G 1) := toldBootP 1
theorem u2 : ToldF 24 (EMayS 2) (G 2) := toldMayP 2
theorem u3 : ToldF 26 (ESmT 3) (G 3) := told_kinds (toldSmP 3) rfl rfl rfl rfl rfl
theorem u7 : ToldF 9 (ETrue 7) (G 7) := told_closed 7 fun w => calls_true names_ok mixed_ok fil.noOrc_ok (args := []) ranB w
theorem u24 : ToldP 11 (ESt 24) (G 24) := toldSt 24
theorem G7 : G 7 [] = some [pB true] := spec_of fTrue ⟨rfl, rfl⟩
theorem orcA_ok : OrcOk Try.prog orcA := orcOr_ok (orcFn_ok tabA) (orcP_ok tabAP)
theorem cutA : flA = flA.take 8 ++ .block (blockId (nth flA 8)) (.loop (loopBody (nth flA 8))) :: flA.drop 9 := by kernel_rfl
set_option maxHeartbeats 1000000 in
theorem told (k0 : Nat) : ToldF 8 (ELaw k0) (spec RL) := by
  refine told_by G _ (bodyOf Try.prog 8) Try.func8 (by kernel_rfl) sh0 (by kernel_rfl) ?_ ?_
  · intro ps qs h i hi
    obtain ⟨p, n, _, _, _, rfl, rfl⟩ := of_spec h
    simp [sh0] at hi
    match i, hi with
    | 0, hi => simp at hi
    | 1, hi => exact ⟨_, rfl, rfl⟩
    | i + 2, hi => simp at hi
  · intro C ps qs hF h a w hsh
    obtain ⟨p, n, hp, hz, hn, rfl, rfl⟩ := of_spec h
    show wpL Try.prog flA _ a w
    have fin : ∀ qs a1 w1, qs = [pB true] → InShape C shE qs a1 w1 → (AX.ret = .normal → wpL Try.prog [] (fun e a' w' => (e = .normal ∨ e = .ret) ∧ ∃ sh' ps' es, InShape C sh' ps' a' w' ∧ resTo Try.prog Try.f8 sh' (ELaw k0) = some es ∧ evs (fun i => ps'[i]?) G es = some [pB true]) a1 w1) ∧ (AX.ret ≠ .normal → (AX.ret.to = .normal ∨ AX.ret.to = .ret) ∧ ∃ sh' ps' es, InShape C sh' ps' a1 w1 ∧ resTo Try.prog Try.f8 sh' (ELaw k0) = some es ∧ evs (fun i => ps'[i]?) G es = some [pB true]) := by
      rintro qs a1 w1 rfl h1
      exact ⟨fun h => (by cases h), fun _ => ⟨.inr rfl, shE, _, [SX.var 0], h1, by kernel_rfl, rfl⟩⟩
    by_cases hp1 : 60 < p.length
    · rw [← List.append_nil flA]
      refine seg_ok names_ok mixed_ok orcA_ok q1 hsh ?_ (fun qs a1 w1 hq h1 => fin qs a1 w1 (by simp [evs, SX.ev] at hq; exact hq.symm) h1)
      simp only [List.mem_cons, List.not_mem_nil, or_false, forall_eq_or_imp, forall_eq]
      simp [-holds_idx, holds_idxP, holds_cellsP, Base.ev, SX.ev, evs, Value.oneCell', hF, lenPV_row, binPV, G7, u7]
      all_goals omega
    rw [cutA]
    obtain ⟨⟨fs, ms, ep⟩, n2, md, e24⟩ := made (p := p) (by omega) hz
    have e24 : G 24 [pI 25, pRow encU p, pI 0] = some [pRow encF fs, pRow encM ms, pI ep, pRow encU p, pI (n2 : Int)] := e24
    have hfl : fs.length = 6 := md.may.fl
    have hml : ms.length = 3 := md.may.ml
    have he0 : 0 ≤ ep := md.may.ep.1
    have he1 : ep ≤ 25 := md.ep
    refine seg_ok names_ok mixed_ok orcA_ok pre hsh ?_ ?_
    · simp only [List.mem_cons, List.not_mem_nil, or_false, forall_eq_or_imp, forall_eq]
      simp [-holds_idx, holds_idxP, holds_cellsP, Base.ev, SX.ev, evs, Value.oneCell', hF, lenPV_row, binPV, G7, u7, e24, u24]
      all_goals omega
    intro qs a1 w1 hq h1
    refine ⟨fun _ => ?_, fun h => absurd rfl h⟩
    simp [evs, SX.ev, hF, e24] at hq
    subst hq
    have hr : n % 9 < 9 := Nat.mod_lt _ (by omega)
    have wt : ((n : Int).tmod 9) = ((n % 9 : Nat) : Int) := rfl
    generalize n % 9 = r at *
    have wc : IntKind.i64.wrap (r : Int) = (r : Int) := wrapI _ (by omega) (by omega)
    refine block_loop (fun q a w => ∃ i : Nat, i ≤ r ∧ q = r - i ∧ InShape C shL [pU (n : Int), pI (i : Int), pRow encF fs, pRow encM ms, pI ep, pRow encF fs, pRow encM ms, pI (ep + (i : Int))] a w) ?_ (n := r) ⟨0, by omega, by omega, by simpa using h1⟩
    rintro q a w ⟨i, hi, rfl, hin⟩
    show wpL Try.prog lpA _ a w
    rw [← List.append_nil lpA]
    by_cases hlt : i < r
    · have v3 : IntKind.i64.wrap ((i : Int) + 1) = (i : Int) + 1 := wrapI _ (by omega) (by omega)
      have g1 : G 1 [pRow encF fs, pRow encM ms, pI (ep + (i : Int))] = some [pRow encF fs, pRow encM ms, pI (min (ep + (i : Int)) 1073741823 + 1)] := spec_of fBootP ⟨⟨fs, ms, ep + (i : Int)⟩, by simp only; omega, by simp only; omega, by simp only; omega, by simp only; omega, by simp only; omega, rfl, rfl⟩
      have hm : min (ep + (i : Int)) 1073741823 + 1 = ep + ((i + 1 : Nat) : Int) := by omega
      rw [hm] at g1
      refine seg_ok names_ok mixed_ok orcA_ok ln hin ?_ (fun qs a1 w1 hq h1 => ⟨fun _ => .inl ⟨rfl, r - (i + 1), by omega, i + 1, by omega, rfl, by simp [evs, SX.ev, binPV, convPV, hF, g1, v3] at hq; subst hq; simpa using h1⟩, fun h => absurd rfl h⟩)
      simp only [List.mem_cons, List.not_mem_nil, or_false, forall_eq_or_imp, forall_eq]
      simp [-holds_idx, holds_idxP, holds_cellsP, Base.ev, SX.ev, evs, Value.oneCell', hF, binPV, convPV, wt, wc, v3, g1, u1, hlt]
    · have hie : i = r := by omega
      subst hie
      refine seg_ok names_ok mixed_ok orcA_ok lx hin ?_ ?_
      · simp only [List.mem_cons, List.not_mem_nil, or_false, forall_eq_or_imp, forall_eq]
        simp [-holds_idx, holds_idxP, holds_cellsP, Base.ev, SX.ev, evs, Value.oneCell', hF, binPV, convPV, wt, wc]
      · intro qs a1 w1 hq h1
        refine ⟨fun h => (by cases h), fun _ => .inr (.inl ⟨by rw [show blockId (nth flA 8) = 0 by kernel_rfl]; rfl, ?_⟩)⟩
        simp [evs, SX.ev] at hq
        subst hq
        rw [← List.append_nil (flA.drop 9)]
        have mx : MayS ⟨fs, ms, ep + (i : Int)⟩ := ⟨md.may.fl, md.may.ml, md.may.fv, md.may.mv, by simp only; omega⟩
        have g2 : G 2 [pRow encF fs, pRow encM ms, pI (ep + (i : Int))] = some [pB true] := spec_of fMayS ⟨⟨fs, ms, ep + (i : Int)⟩, mx.pre, rfl, by rw [mayS_eq.2 mx]⟩
        have g3 : G 3 [pRow encF fs, pRow encM ms, pI ep, pRow encF fs, pRow encM ms, pI ep] = some [pB true] := spec_of fSmS ⟨⟨fs, ms, ep⟩, ⟨fs, ms, ep⟩, by simp only; omega, by simp only; omega, by simp only; omega, by simp only; omega, rfl, by rw [sameS_iff.2 rfl]⟩
        have g1 : G 1 [pRow encF fs, pRow encM ms, pI 1073741824] = some [pRow encF fs, pRow encM ms, pI 1073741824] := spec_of fBootP ⟨⟨fs, ms, 1073741824⟩, by simp only; omega, by simp only; omega, by simp only; omega, by simp only; omega, by simp only; omega, rfl, rfl⟩
        have wa : IntKind.i64.wrap (ep + (i : Int)) = ep + (i : Int) := wrapI _ (by omega) (by omega)
        refine seg_ok names_ok mixed_ok orcA_ok post h1 ?_ (fun qs a1 w1 hq h1 => fin qs a1 w1 (by simp [evs, SX.ev] at hq; exact hq.symm) h1)
        simp only [List.mem_cons, List.not_mem_nil, or_false, forall_eq_or_imp, forall_eq]
        simp [-holds_idx, holds_idxP, holds_cellsP, Base.ev, SX.ev, evs, Value.oneCell', hF, binPV, convPV, wt, wc, wa, g1, g2, g3, u1, u2, u3]
theorem walk (w : World) (v : Value) (len : Nat) (Z : Nat → Int) (hg : IsRow .u8 w v len Z) (a : Int) (wa : (Lit.int .u8 a).wf = true) :
    Calls Try.prog 8 #[v, .int .u8 a] w fun e w' => e = .returned (.bool true) ∧ Ex w w' := by
  obtain ⟨p, hbp, hlen, hr⟩ := rowU hg
  obtain ⟨h0, h1⟩ := bounds_u8 wa
  obtain ⟨n, rfl⟩ : ∃ n : Nat, a = (n : Int) := ⟨a.toNat, by omega⟩
  refine told_true (told 0) rfl (us := [v, .int .u8 (n : Int)]) (ps := [pRow encU p, pU (n : Int)]) (spec_of fL ⟨p, n, hlen, hbp, by omega, rfl, rfl⟩) rfl rfl (fun i p u hp hu => ?_)
  match i, hp, hu with
  | 0, hp, hu => simp at hp hu; subst hp; subst hu; exact hr
  | 1, hp, hu => simp at hp hu; subst hp; subst hu; exact plainReads rfl
  | i + 2, hp, hu => simp at hp
end Go.Proofs.Ytnelcjofgpplgaa.stateBoots
