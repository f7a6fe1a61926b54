/- FileAll by the symbolic engine. -/
import Derived.Test.YtfcdbknmajfkaaaMay
import Derived.Test.YtfcdbknmajfkaaaSymB
import Derived.Test.YtfcdbknmajfkaaaRal
import Derived.Test.YtfcdbknmajfkaaaFrameB
namespace Go.Proofs.Ytfcdbknmajfkaaa.fileAll
open Go Go.RowKit eng SX Fact fil fileFronts pck may
open pck hiding F F20 F21
open fileFronts hiding F F1 F2 F3 F22 t1 t2 t3 t22
open may hiding m1 m2 m3 m4
set_option linter.unusedVariables false
set_option linter.unusedSimpArgs false
set_option maxRecDepth 1000000

def tabF (f : FuncId) : Option FnE := cond (Nat.beq f 38) (some (EAll 1)) (cond (Nat.beq f 36) (some (EPut 2)) (cond (Nat.beq f 30) (some (ETrue 3)) (cond (Nat.beq f 39) (some (EAll 4)) (cond (Nat.beq f 37) (some (EPut 5)) (cond (Nat.beq f 34) (some (EMay 6)) (cond (Nat.beq f 35) (some (EMay 7)) none))))))
def tabQ (f : FuncId) : Option PtrE := cond (Nat.beq f 32) (some (EWo 22)) (cond (Nat.beq f 33) (some (EWr1 21)) none)
def orcA : Orc := orcOr (orcFn tabF) (orcP tabQ)
noncomputable def flL := flat (bodyOf Try.prog 8)
noncomputable def lpL := flat (loopBody (nth flL 8))
def shL : Shape := ⟨[(0, .leaf), (1, .leaf), (2, .agg 2)], [], [none, some true, none, none], 74, 8⟩
def shR : Shape := ⟨[(6, .leaf)], [], [none], 74, 8⟩
def shLl : Shape := ⟨[(0, .leaf), (8, .own 0 2 2), (9, .leaf)], [wbox 2], [none, none], 74, 8⟩
theorem q1 : segTo Try.prog orcA 10000 flL shL [1, 1] shR [] = some (.ret, [.fn 30 (ETrue 3) [], .is (.fn 3 [] 0) (.bool true), .ok (.slen (.var 0)), .ok (.bin .gtr (.slen (.var 0)) (.con (.int .i64 24))), .is (.bin .gtr (.slen (.var 0)) (.con (.int .i64 24))) (.bool true), .ok (.con (.bool true))], [.con (.bool true)]) := by kernel_rfl
theorem q2 : segTo Try.prog orcA 10000 flL shL [1, 0, 1] shR [] = some (.ret, [.fn 30 (ETrue 3) [], .is (.fn 3 [] 0) (.bool true), .ok (.slen (.var 0)), .ok (.bin .gtr (.slen (.var 0)) (.con (.int .i64 24))), .is (.bin .gtr (.slen (.var 0)) (.con (.int .i64 24))) (.bool false), .ok (.len (.var 1)), .ok (.bin .gtr (.len (.var 1)) (.con (.int .i64 20))), .is (.bin .gtr (.len (.var 1)) (.con (.int .i64 20))) (.bool true), .ok (.con (.bool true))], [.con (.bool true)]) := by kernel_rfl
theorem q3 : segTo Try.prog orcA 10000 flL shL [1, 0, 0, 1] shR [] = some (.ret, [.fn 30 (ETrue 3) [], .is (.fn 3 [] 0) (.bool true), .ok (.slen (.var 0)), .ok (.bin .gtr (.slen (.var 0)) (.con (.int .i64 24))), .is (.bin .gtr (.slen (.var 0)) (.con (.int .i64 24))) (.bool false), .ok (.len (.var 1)), .ok (.bin .gtr (.len (.var 1)) (.con (.int .i64 20))), .is (.bin .gtr (.len (.var 1)) (.con (.int .i64 20))) (.bool false), .ok (.slen (.var 3)), .ok (.bin .gtr (.slen (.var 3)) (.con (.int .i64 40))), .is (.bin .gtr (.slen (.var 3)) (.con (.int .i64 40))) (.bool true), .ok (.con (.bool true))], [.con (.bool true)]) := by kernel_rfl
theorem pre0 : segTo Try.prog orcA 10000 (flL.take 8) shL [1, 0, 0, 0, 0] shLl [(6, 0)] hApp = some (.normal, [.fn 30 (ETrue 3) [], .is (.fn 3 [] 0) (.bool true), .ok (.slen (.var 0)), .ok (.bin .gtr (.slen (.var 0)) (.con (.int .i64 24))), .is (.bin .gtr (.slen (.var 0)) (.con (.int .i64 24))) (.bool false), .ok (.len (.var 1)), .ok (.bin .gtr (.len (.var 1)) (.con (.int .i64 20))), .is (.bin .gtr (.len (.var 1)) (.con (.int .i64 20))) (.bool false), .ok (.slen (.var 3)), .ok (.bin .gtr (.slen (.var 3)) (.con (.int .i64 40))), .is (.bin .gtr (.slen (.var 3)) (.con (.int .i64 40))) (.bool false), .fp 32 (EWo 22) [.con (.int .i64 8), .var 1, .con (.int .i64 0)], .is (.len (.fn 22 [.con (.int .i64 8), .var 1, .con (.int .i64 0)] 0)) (.int .i64 0), .ok (.fn 22 [.con (.int .i64 8), .var 1, .con (.int .i64 0)] 2), .fp 33 (EWr1 21) [.fn 22 [.con (.int .i64 8), .var 1, .con (.int .i64 0)] 1, .fn 22 [.con (.int .i64 8), .var 1, .con (.int .i64 0)] 2], .ok (.fn 21 [.fn 22 [.con (.int .i64 8), .var 1, .con (.int .i64 0)] 1, .fn 22 [.con (.int .i64 8), .var 1, .con (.int .i64 0)] 2] 0), .ok (.fn 21 [.fn 22 [.con (.int .i64 8), .var 1, .con (.int .i64 0)] 1, .fn 22 [.con (.int .i64 8), .var 1, .con (.int .i64 0)] 2] 1), .ok (.fn 21 [.fn 22 [.con (.int .i64 8), .var 1, .con (.int .i64 0)] 1, .fn 22 [.con (.int .i64 8), .var 1, .con (.int .i64 0)] 2] 3), rng (.con (.int .i64 0)) (.len (.lit 2 [.var 2, .var 3, .fn 21 [.fn 22 [.con (.int .i64 8), .var 1, .con (.int .i64 0)] 1, .fn 22 [.con (.int .i64 8), .var 1, .con (.int .i64 0)] 2] 0, .fn 21 [.fn 22 [.con (.int .i64 8), .var 1, .con (.int .i64 0)] 1, .fn 22 [.con (.int .i64 8), .var 1, .con (.int .i64 0)] 2] 1])), upto (.len (.lit 2 [.var 2, .var 3, .fn 21 [.fn 22 [.con (.int .i64 8), .var 1, .con (.int .i64 0)] 1, .fn 22 [.con (.int .i64 8), .var 1, .con (.int .i64 0)] 2] 0, .fn 21 [.fn 22 [.con (.int .i64 8), .var 1, .con (.int .i64 0)] 1, .fn 22 [.con (.int .i64 8), .var 1, .con (.int .i64 0)] 2] 1])) 4294967296, .ok (.var 0), .ok (.con (.int .i64 0)), same (.len (.lit 2 [.var 2, .var 3, .fn 21 [.fn 22 [.con (.int .i64 8), .var 1, .con (.int .i64 0)] 1, .fn 22 [.con (.int .i64 8), .var 1, .con (.int .i64 0)] 2] 0, .fn 21 [.fn 22 [.con (.int .i64 8), .var 1, .con (.int .i64 0)] 1, .fn 22 [.con (.int .i64 8), .var 1, .con (.int .i64 0)] 2] 1])) (.len (.lit 2 [.var 2, .var 3, .fn 21 [.fn 22 [.con (.int .i64 8), .var 1, .con (.int .i64 0)] 1, .fn 22 [.con (.int .i64 8), .var 1, .con (.int .i64 0)] 2] 0, .fn 21 [.fn 22 [.con (.int .i64 8), .var 1, .con (.int .i64 0)] 1, .fn 22 [.con (.int .i64 8), .var 1, .con (.int .i64 0)] 2] 1]))], [.var 0, .con (.int .i64 0), .lit 2 [.var 2, .var 3, .fn 21 [.fn 22 [.con (.int .i64 8), .var 1, .con (.int .i64 0)] 1, .fn 22 [.con (.int .i64 8), .var 1, .con (.int .i64 0)] 2] 0, .fn 21 [.fn 22 [.con (.int .i64 8), .var 1, .con (.int .i64 0)] 1, .fn 22 [.con (.int .i64 8), .var 1, .con (.int .i64 0)] 2] 1]]) := by kernel_rfl
theorem pre1 : segTo Try.prog orcA 10000 (flL.take 8) shL [1, 0, 0, 0, 1] shLl [(4, 1)] hApp = some (.normal, [.fn 30 (ETrue 3) [], .is (.fn 3 [] 0) (.bool true), .ok (.slen (.var 0)), .ok (.bin .gtr (.slen (.var 0)) (.con (.int .i64 24))), .is (.bin .gtr (.slen (.var 0)) (.con (.int .i64 24))) (.bool false), .ok (.len (.var 1)), .ok (.bin .gtr (.len (.var 1)) (.con (.int .i64 20))), .is (.bin .gtr (.len (.var 1)) (.con (.int .i64 20))) (.bool false), .ok (.slen (.var 3)), .ok (.bin .gtr (.slen (.var 3)) (.con (.int .i64 40))), .is (.bin .gtr (.slen (.var 3)) (.con (.int .i64 40))) (.bool false), .fp 32 (EWo 22) [.con (.int .i64 8), .var 1, .con (.int .i64 0)], rng (.con (.int .i64 0)) (.len (.fn 22 [.con (.int .i64 8), .var 1, .con (.int .i64 0)] 0)), .ok (.fn 22 [.con (.int .i64 8), .var 1, .con (.int .i64 0)] 2), .fp 33 (EWr1 21) [.fn 22 [.con (.int .i64 8), .var 1, .con (.int .i64 0)] 1, .fn 22 [.con (.int .i64 8), .var 1, .con (.int .i64 0)] 2], .ok (.fn 21 [.fn 22 [.con (.int .i64 8), .var 1, .con (.int .i64 0)] 1, .fn 22 [.con (.int .i64 8), .var 1, .con (.int .i64 0)] 2] 0), .ok (.fn 21 [.fn 22 [.con (.int .i64 8), .var 1, .con (.int .i64 0)] 1, .fn 22 [.con (.int .i64 8), .var 1, .con (.int .i64 0)] 2] 1), .ok (.fn 21 [.fn 22 [.con (.int .i64 8), .var 1, .con (.int .i64 0)] 1, .fn 22 [.con (.int .i64 8), .var 1, .con (.int .i64 0)] 2] 3), same (.len (.fn 22 [.con (.int .i64 8), .var 1, .con (.int .i64 0)] 0)) (.len (.fn 22 [.con (.int .i64 8), .var 1, .con (.int .i64 0)] 0)), upto (.len (rop ROp.cat [.fn 22 [.con (.int .i64 8), .var 1, .con (.int .i64 0)] 0, .lit 2 [.var 2, .var 3, .fn 21 [.fn 22 [.con (.int .i64 8), .var 1, .con (.int .i64 0)] 1, .fn 22 [.con (.int .i64 8), .var 1, .con (.int .i64 0)] 2] 0, .fn 21 [.fn 22 [.con (.int .i64 8), .var 1, .con (.int .i64 0)] 1, .fn 22 [.con (.int .i64 8), .var 1, .con (.int .i64 0)] 2] 1]])) 4294967296, .ok (.var 0), .ok (.con (.int .i64 0)), same (.len (rop ROp.cat [.fn 22 [.con (.int .i64 8), .var 1, .con (.int .i64 0)] 0, .lit 2 [.var 2, .var 3, .fn 21 [.fn 22 [.con (.int .i64 8), .var 1, .con (.int .i64 0)] 1, .fn 22 [.con (.int .i64 8), .var 1, .con (.int .i64 0)] 2] 0, .fn 21 [.fn 22 [.con (.int .i64 8), .var 1, .con (.int .i64 0)] 1, .fn 22 [.con (.int .i64 8), .var 1, .con (.int .i64 0)] 2] 1]])) (.len (rop ROp.cat [.fn 22 [.con (.int .i64 8), .var 1, .con (.int .i64 0)] 0, .lit 2 [.var 2, .var 3, .fn 21 [.fn 22 [.con (.int .i64 8), .var 1, .con (.int .i64 0)] 1, .fn 22 [.con (.int .i64 8), .var 1, .con (.int .i64 0)] 2] 0, .fn 21 [.fn 22 [.con (.int .i64 8), .var 1, .con (.int .i64 0)] 1, .fn 22 [.con (.int .i64 8), .var 1, .con (.int .i64 0)] 2] 1]]))], [.var 0, .con (.int .i64 0), rop ROp.cat [.fn 22 [.con (.int .i64 8), .var 1, .con (.int .i64 0)] 0, .lit 2 [.var 2, .var 3, .fn 21 [.fn 22 [.con (.int .i64 8), .var 1, .con (.int .i64 0)] 1, .fn 22 [.con (.int .i64 8), .var 1, .con (.int .i64 0)] 2] 0, .fn 21 [.fn 22 [.con (.int .i64 8), .var 1, .con (.int .i64 0)] 1, .fn 22 [.con (.int .i64 8), .var 1, .con (.int .i64 0)] 2] 1]]]) := by kernel_rfl
theorem ex : segTo Try.prog orcA 10000 lpL shLl [0] shLl [(0, 0)] = some (.exit 0, [.ok (.bin .lss (.var 1) (.len (.var 2))), .is (.bin .lss (.var 1) (.len (.var 2))) (.bool false), .ok (.var 0), .ok (.var 1), same (.len (.var 2)) (.len (.var 2))], [.var 0, .var 1, .var 2]) := by kernel_rfl
theorem b1 : segTo Try.prog orcA 10000 lpL shLl [1, 1, 1, 0] shLl [(0, 0)] = some (.normal, [.ok (.bin .lss (.var 1) (.len (.var 2))), .is (.bin .lss (.var 1) (.len (.var 2))) (.bool true), rng (.var 1) (.len (.var 2)), .idx (.var 2) (.var 1) 2 2, .fn 34 (EMay 6) [.cell (.var 2) (.var 1) 2 0, .cell (.var 2) (.var 1) 2 1], .is (.fn 6 [.cell (.var 2) (.var 1) 2 0, .cell (.var 2) (.var 1) 2 1] 0) (.bool true), rng (.var 1) (.len (.var 2)), .idx (.var 2) (.var 1) 2 2, .fn 35 (EMay 7) [.cell (.var 2) (.var 1) 2 0, .cell (.var 2) (.var 1) 2 1], .is (.fn 7 [.cell (.var 2) (.var 1) 2 0, .cell (.var 2) (.var 1) 2 1] 0) (.bool true), rng (.var 1) (.len (.var 2)), .idx (.var 2) (.var 1) 2 2, .fn 36 (EPut 2) [.var 0, .cell (.var 2) (.var 1) 2 0, .cell (.var 2) (.var 1) 2 1], .ok (.fn 2 [.var 0, .cell (.var 2) (.var 1) 2 0, .cell (.var 2) (.var 1) 2 1] 0), rng (.var 1) (.len (.var 2)), .idx (.var 2) (.var 1) 2 2, .fn 37 (EPut 5) [.var 0, .cell (.var 2) (.var 1) 2 0, .cell (.var 2) (.var 1) 2 1], .ok (.fn 5 [.var 0, .cell (.var 2) (.var 1) 2 0, .cell (.var 2) (.var 1) 2 1] 0), .ok (.bin .neq (.fn 2 [.var 0, .cell (.var 2) (.var 1) 2 0, .cell (.var 2) (.var 1) 2 1] 0) (.fn 5 [.var 0, .cell (.var 2) (.var 1) 2 0, .cell (.var 2) (.var 1) 2 1] 0)), .is (.bin .neq (.fn 2 [.var 0, .cell (.var 2) (.var 1) 2 0, .cell (.var 2) (.var 1) 2 1] 0) (.fn 5 [.var 0, .cell (.var 2) (.var 1) 2 0, .cell (.var 2) (.var 1) 2 1] 0)) (.bool false), .ok (.bin .add (.var 1) (.con (.int .i64 1))), .ok (.var 0), .ok (.bin .add (.var 1) (.con (.int .i64 1))), same (.len (.var 2)) (.len (.var 2))], [.var 0, .bin .add (.var 1) (.con (.int .i64 1)), .var 2]) := by kernel_rfl
theorem b0 : segTo Try.prog orcA 10000 lpL shLl [1, 0, 0, 0] shLl [(0, 0)] = some (.normal, [.ok (.bin .lss (.var 1) (.len (.var 2))), .is (.bin .lss (.var 1) (.len (.var 2))) (.bool true), rng (.var 1) (.len (.var 2)), .idx (.var 2) (.var 1) 2 2, .fn 34 (EMay 6) [.cell (.var 2) (.var 1) 2 0, .cell (.var 2) (.var 1) 2 1], .is (.fn 6 [.cell (.var 2) (.var 1) 2 0, .cell (.var 2) (.var 1) 2 1] 0) (.bool false), rng (.var 1) (.len (.var 2)), .idx (.var 2) (.var 1) 2 2, .fn 35 (EMay 7) [.cell (.var 2) (.var 1) 2 0, .cell (.var 2) (.var 1) 2 1], .is (.fn 7 [.cell (.var 2) (.var 1) 2 0, .cell (.var 2) (.var 1) 2 1] 0) (.bool false), rng (.var 1) (.len (.var 2)), .idx (.var 2) (.var 1) 2 2, .fn 36 (EPut 2) [.var 0, .cell (.var 2) (.var 1) 2 0, .cell (.var 2) (.var 1) 2 1], .ok (.fn 2 [.var 0, .cell (.var 2) (.var 1) 2 0, .cell (.var 2) (.var 1) 2 1] 0), rng (.var 1) (.len (.var 2)), .idx (.var 2) (.var 1) 2 2, .fn 37 (EPut 5) [.var 0, .cell (.var 2) (.var 1) 2 0, .cell (.var 2) (.var 1) 2 1], .ok (.fn 5 [.var 0, .cell (.var 2) (.var 1) 2 0, .cell (.var 2) (.var 1) 2 1] 0), .ok (.bin .neq (.fn 2 [.var 0, .cell (.var 2) (.var 1) 2 0, .cell (.var 2) (.var 1) 2 1] 0) (.fn 5 [.var 0, .cell (.var 2) (.var 1) 2 0, .cell (.var 2) (.var 1) 2 1] 0)), .is (.bin .neq (.fn 2 [.var 0, .cell (.var 2) (.var 1) 2 0, .cell (.var 2) (.var 1) 2 1] 0) (.fn 5 [.var 0, .cell (.var 2) (.var 1) 2 0, .cell (.var 2) (.var 1) 2 1] 0)) (.bool false), .ok (.bin .add (.var 1) (.con (.int .i64 1))), .ok (.var 0), .ok (.bin .add (.var 1) (.con (.int .i64 1))), same (.len (.var 2)) (.len (.var 2))], [.var 0, .bin .add (.var 1) (.con (.int .i64 1)), .var 2]) := by kernel_rfl
theorem post : segTo Try.prog orcA 10000 (flL.drop 9) shLl [1] shR [] = some (.ret, [.fn 38 (EAll 1) [.var 0, .var 2], .ok (.fn 1 [.var 0, .var 2] 0), .fn 39 (EAll 4) [.var 0, .var 2], .ok (.fn 4 [.var 0, .var 2] 0), .ok (.bin .eql (.fn 1 [.var 0, .var 2] 0) (.fn 4 [.var 0, .var 2] 0)), .is (.bin .eql (.fn 1 [.var 0, .var 2] 0) (.fn 4 [.var 0, .var 2] 0)) (.bool true), .ok (.con (.bool true))], [.con (.bool true)]) := by kernel_rfl

theorem cutL : flL = flL.take 8 ++ .block (blockId (nth flL 8)) (.loop (loopBody (nth flL 8))) :: flL.drop 9 := by kernel_rfl
def ELaw (k : Nat) : FnE := { k := k, ins := [none, none, some 2], leaks := [false, true, false, false], outs := [none], kinds := [.truth] }
def RL (ps qs : List PV) : Prop := ∃ (b : ByteArray) (l : List Nat) (o : Int) (s : ByteArray), b.size ≤ 9223372036854775807 ∧ l.length ≤ 9223372036854775807 ∧ (∀ z ∈ l, z < 256) ∧ -9223372036854775808 ≤ o ∧ o ≤ 9223372036854775807 ∧ s.size ≤ 9223372036854775807 ∧ ps = [pS b, pRow encU l, pI o, pS s] ∧ qs = [pB true]
theorem fL : ∀ ps q1 q2, RL ps q1 → RL ps q2 → q1 = q2 := by
  rintro ps q1 q2 ⟨_, _, _, _, _, _, _, _, _, _, _, rfl⟩ ⟨_, _, _, _, _, _, _, _, _, _, _, rfl⟩; rfl
theorem orcA_ok : OrcOk Try.prog orcA := orcOr_ok (orcFn_ok tabF) (orcP_ok tabQ)
noncomputable def G : Fns := fun k => match k with | 1 => spec RAll | 2 => spec RPut | 3 => spec RTrue | 4 => spec RAll | 5 => spec RPut | 6 => spec RMay | 7 => spec RMay | 21 => spec RWr1 | 22 => spec RWs | _ => fun _ => none
theorem ranB8 : isTrue ((theEng Try.prog fil.noOrc 100000).call 30 [] ⟨.nil, 0, []⟩) = true := by kernel_rfl
theorem u1 : ToldF 38 (EAll 1) (G 1) := toldAll 1
theorem u2 : ToldF 36 (EPut 2) (G 2) := toldPut 2
theorem u3 : ToldF 30 (ETrue 3) (G 3) := told_closed 3 fun w => calls_true names_ok mixed_ok fil.noOrc_ok (args := []) ranB8 w
theorem u4 : ToldF 39 (EAll 4) (G 4) := ral.told 4
theorem u5 : ToldF 37 (EPut 5) (G 5) := rpw.told 5
theorem u6 : ToldF 34 (EMay 6) (G 6) := toldMay 6
theorem u7 : ToldF 35 (EMay 7) (G 7) := toldRef 7
theorem u21 : ToldP 33 (EWr1 21) (G 21) := toldWr1 21
theorem u22 : ToldP 32 (EWo 22) (G 22) := toldWo 22
theorem G3 : G 3 [] = some [pB true] := spec_of fTrue ⟨rfl, rfl⟩
abbrev stA (b : ByteArray) (ws : List (Int × ByteArray)) (i : Nat) : List PV := [pS b, pI (i : Int), pRow encW ws]
theorem row2 (o : Int) (s : ByteArray) (o' : Int) (s' : ByteArray) : (PV.row 2 [pI o, pS s, pI o', pS s']) = pRow encW [(o, s), (o', s')] := by simp [pRow, Enc.all, encW]
theorem r_catW2 (a b : List (Int × ByteArray)) : ropPV .cat [pRow encW a, pRow encW b] = some (pRow encW (a ++ b)) := by simp [ropPV, pRow, Enc.all]
set_option maxHeartbeats 4000000 in
theorem told (k0 : Nat) : ToldF 8 (ELaw k0) (spec RL) := by
  refine told_by G _ (bodyOf Try.prog 8) Try.func8 (by kernel_rfl) shL (by kernel_rfl) ?_ ?_
  · intro ps qs h i hi
    obtain ⟨b, l, o, s, _, _, _, _, _, _, rfl, rfl⟩ := of_spec h
    simp [shL] at hi
    match i, hi with
    | 0, hi => exact ⟨_, rfl, rfl⟩
    | 1, hi => simp at hi
    | 2, hi => exact ⟨_, rfl, rfl⟩
    | 3, hi => exact ⟨_, rfl, rfl⟩
    | i + 4, hi => simp at hi
  · intro C ps qs hF h a w hsh
    obtain ⟨b, l, o, s, hb, hl, hz, ho1, ho2, hs, rfl, rfl⟩ := of_spec h
    show wpL Try.prog flL _ a w
    have fin : ∀ qs a1 w1, qs = [pB true] → InShape C shR qs a1 w1 → (AX.ret = .normal → wpL Try.prog [] (fun e a' w' => (e = .normal ∨ e = .ret) ∧ ∃ sh' ps' es, InShape C sh' ps' a' w' ∧ resTo Try.prog Try.f8 sh' (ELaw k0) = some es ∧ evs (fun i => ps'[i]?) G es = some [pB true]) a1 w1) ∧ (AX.ret ≠ .normal → (AX.ret.to = .normal ∨ AX.ret.to = .ret) ∧ ∃ sh' ps' es, InShape C sh' ps' a1 w1 ∧ resTo Try.prog Try.f8 sh' (ELaw k0) = some es ∧ evs (fun i => ps'[i]?) G es = some [pB true]) := by
      rintro qs a1 w1 rfl h1
      exact ⟨fun h => (by cases h), fun _ => ⟨.inr rfl, shR, _, [SX.var 0], h1, by kernel_rfl, rfl⟩⟩
    by_cases hb1 : 24 < b.size
    · rw [← List.append_nil flL]
      refine seg_ok names_ok mixed_ok orcA_ok q1 hsh ?_ (fun qs a1 w1 hq h1 => fin qs a1 w1 (by simp [evs, SX.ev] at hq; exact hq.symm) h1)
      simp only [List.mem_cons, List.not_mem_nil, or_false, forall_eq_or_imp, forall_eq]
      simp [Base.ev, SX.ev, evs, Value.oneCell', hF, slenPV, binPV, G3, u3]
      omega
    by_cases hl1 : 20 < l.length
    · rw [← List.append_nil flL]
      refine seg_ok names_ok mixed_ok orcA_ok q2 hsh ?_ (fun qs a1 w1 hq h1 => fin qs a1 w1 (by simp [evs, SX.ev] at hq; exact hq.symm) h1)
      simp only [List.mem_cons, List.not_mem_nil, or_false, forall_eq_or_imp, forall_eq]
      simp [Base.ev, SX.ev, evs, Value.oneCell', hF, slenPV, lenPV_row, binPV, G3, u3]
      omega
    by_cases hs1 : 40 < s.size
    · rw [← List.append_nil flL]
      refine seg_ok names_ok mixed_ok orcA_ok q3 hsh ?_ (fun qs a1 w1 hq h1 => fin qs a1 w1 (by simp [evs, SX.ev] at hq; exact hq.symm) h1)
      simp only [List.mem_cons, List.not_mem_nil, or_false, forall_eq_or_imp, forall_eq]
      simp [Base.ev, SX.ev, evs, Value.oneCell', hF, slenPV, lenPV_row, binPV, G3, u3]
      omega
    have ok : OkP l 0 := ⟨by omega, by omega, hz⟩
    have e22 : G 22 [pI 8, pRow encU l, pI 0] = some [pRow encW (writes l 0 8).1, pRow encU l, pI ((writes l 0 8).2 : Int)] := spec_of fWs ⟨8, 0, l, by omega, ok, rfl, rfl⟩
    have okw : OkP l (writes l 0 8).2 := by
      have : ∀ c n, OkP l n → OkP l (wseq l c n).2 := fun c => by
        induction c with
        | zero => intro n h; exact h
        | succ c ih => intro n h; exact ih _ (okW h)
      exact this _ _ (okN ok)
    have e21 : G 21 [pRow encU l, pI ((writes l 0 8).2 : Int)] = some [pI (wr1 l (writes l 0 8).2).1.1, pS (wr1 l (writes l 0 8).2).1.2, pRow encU l, pI ((wr1 l (writes l 0 8).2).2 : Int)] := spec_of fWr1 ⟨_, l, okw, rfl, rfl⟩
    have hws : ∀ w ∈ (writes l 0 8).1, 0 ≤ w.1 ∧ w.1 < 10 ∧ w.2.size ≤ 14 := wseq_ok l _ _
    have hw1 : 0 ≤ (wr1 l (writes l 0 8).2).1.1 ∧ (wr1 l (writes l 0 8).2).1.1 < 10 ∧ (wr1 l (writes l 0 8).2).1.2.size ≤ 14 := by
      have := wseq_ok l 1 (writes l 0 8).2 (wr1 l (writes l 0 8).2).1 (by simp [wseq])
      exact this
    have hwl : (writes l 0 8).1.length ≤ 8 := by
      have := numV_lt (l := l) (n := 0) (m := 9) (by omega)
      simp only [writes, wseq_len]
      show numV l 0 9 ≤ 8
      omega
    generalize (wr1 l (writes l 0 8).2).2 = n3 at *
    generalize (wr1 l (writes l 0 8).2).1 = y at *
    generalize (writes l 0 8).2 = n2 at *
    generalize (writes l 0 8).1 = ws at *
    obtain ⟨yo, ys⟩ := y
    simp only at e21 hw1
    -- from the loop on
    have loop : ∀ ws : List (Int × ByteArray), ws.length ≤ 1000 → (∀ w ∈ ws, -9223372036854775808 ≤ w.1 ∧ w.1 ≤ 9223372036854775807 ∧ w.2.size ≤ 1000000) → ∀ a w, InShape C shLl (stA b ws 0) a w → wpL Try.prog (.block (blockId (nth flL 8)) (.loop (loopBody (nth flL 8))) :: flL.drop 9) (fun e a' w' => (e = .normal ∨ e = .ret) ∧ ∃ sh' ps' es, InShape C sh' ps' a' w' ∧ resTo Try.prog Try.f8 sh' (ELaw k0) = some es ∧ evs (fun i => ps'[i]?) G es = some [pB true]) a w := by
      intro ws hwn hwf a w hin
      refine block_loop (fun q a w => ∃ i, i ≤ ws.length ∧ q = ws.length - i ∧ InShape C shLl (stA b ws i) a w) ?_ (n := ws.length) ⟨0, by omega, by omega, hin⟩
      rintro q a w ⟨i, hi, rfl, hin⟩
      show wpL Try.prog lpL _ a w
      rw [← List.append_nil lpL]
      by_cases hlt : i < ws.length
      · obtain ⟨c0', c1'⟩ := cellW2 ws i hlt
        obtain ⟨z1, z2, z3⟩ := hwf _ (List.getElem_mem hlt)
        have i2 : (Fact.idx (var 2) (var 1) 2 2).holds (C.with (stA b ws i)) := idx_row encW ws i 2 2 rfl hlt (by decide)
        have v3 : IntKind.i64.wrap ((i : Int) + 1) = (i : Int) + 1 := wrapI _ (by omega) (by omega)
        have e6 : G 6 [pI ws[i].1, pS ws[i].2] = some [pB (mayW ws[i])] := spec_of fMay ⟨ws[i].1, ws[i].2, z1, z2, by omega, rfl, rfl⟩
        have e7 : G 7 [pI ws[i].1, pS ws[i].2] = some [pB (mayW ws[i])] := e6
        have e2 : G 2 [pS b, pI ws[i].1, pS ws[i].2] = some [pS (bs (putW b.data.toList ws[i]))] := spec_of fPut ⟨b, ws[i].1, ws[i].2, by omega, z1, z2, z3, rfl, rfl⟩
        have e5 : G 5 [pS b, pI ws[i].1, pS ws[i].2] = some [pS (bs (putW b.data.toList ws[i]))] := e2
        generalize bs (putW b.data.toList ws[i]) = x at e2 e5
        have done : ∀ qs, qs = stA b ws (i + 1) → ∀ a1 w1, InShape C shLl qs a1 w1 → ∃ n', n' < ws.length - i ∧ ∃ j, j ≤ ws.length ∧ n' = ws.length - j ∧ InShape C shLl (stA b ws j) a1 w1 := fun qs hq a1 w1 h => ⟨ws.length - (i + 1), by omega, i + 1, by omega, rfl, by rw [← hq]; exact h⟩
        cases hm : mayW ws[i] with
        | true =>
          rw [hm] at e6 e7
          generalize ws[i] = y at *
          refine seg_ok names_ok mixed_ok orcA_ok b1 hin ?_ ?_
          · simp only [List.mem_cons, List.not_mem_nil, or_false, forall_eq_or_imp, forall_eq]
            simp [-holds_idx, Base.ev, SX.ev, evs, Value.oneCell', hF, lenPV_row, binPV, c0', c1', i2, v3, e6, e7, e2, e5, u2, u5, u6, u7, hlt]
          · intro qs a1 w1' hq hx
            refine ⟨fun _ => .inl ⟨rfl, ?_⟩, fun h => absurd rfl h⟩
            simp [evs, SX.ev, binPV, v3] at hq
            exact done qs hq.symm a1 w1' hx
        | false =>
          rw [hm] at e6 e7
          generalize ws[i] = y at *
          refine seg_ok names_ok mixed_ok orcA_ok b0 hin ?_ ?_
          · simp only [List.mem_cons, List.not_mem_nil, or_false, forall_eq_or_imp, forall_eq]
            simp [-holds_idx, Base.ev, SX.ev, evs, Value.oneCell', hF, lenPV_row, binPV, c0', c1', i2, v3, e6, e7, e2, e5, u2, u5, u6, u7, hlt]
          · intro qs a1 w1' hq hx
            refine ⟨fun _ => .inl ⟨rfl, ?_⟩, fun h => absurd rfl h⟩
            simp [evs, SX.ev, binPV, v3] at hq
            exact done qs hq.symm a1 w1' hx
      · have hie : i = ws.length := by omega
        subst hie
        refine seg_ok names_ok mixed_ok orcA_ok ex hin ?_ ?_
        · simp only [List.mem_cons, List.not_mem_nil, or_false, forall_eq_or_imp, forall_eq]
          simp [Base.ev, SX.ev, evs, Value.oneCell', lenPV_row, binPV]
        · intro qs a1 w1' hq h1
          refine ⟨fun h => (by cases h), fun _ => .inr (.inl ⟨by rw [show blockId (nth flL 8) = 0 by kernel_rfl]; rfl, ?_⟩)⟩
          simp [evs, SX.ev] at hq
          subst hq
          rw [← List.append_nil (flL.drop 9)]
          have g1 : G 1 [pS b, pRow encW ws] = some [pS (bs (allW b.data.toList ws))] := spec_of fAll ⟨b, ws, by omega, hwn, hwf, rfl, rfl⟩
          have g4 : G 4 [pS b, pRow encW ws] = some [pS (bs (allW b.data.toList ws))] := g1
          generalize bs (allW b.data.toList ws) = x at g1 g4
          refine seg_ok names_ok mixed_ok orcA_ok post h1 ?_ (fun qs a1 w1 hq h1 => fin qs a1 w1 (by simp [evs, SX.ev] at hq; exact hq.symm) h1)
          simp only [List.mem_cons, List.not_mem_nil, or_false, forall_eq_or_imp, forall_eq]
          simp [Base.ev, SX.ev, evs, Value.oneCell', hF, binPV, g1, g4, u1, u4]
    rw [cutL]
    have hmem : ∀ w ∈ ws ++ [(o, s), (yo, ys)], -9223372036854775808 ≤ w.1 ∧ w.1 ≤ 9223372036854775807 ∧ w.2.size ≤ 1000000 := fun w hw => by
      rcases List.mem_append.1 hw with hw | hw
      · have := hws w hw; omega
      · simp only [List.mem_cons, List.not_mem_nil, or_false] at hw
        rcases hw with rfl | rfl
        · exact ⟨ho1, ho2, by simp only; omega⟩
        · simp only; omega
    by_cases h0 : ws = []
    · subst h0
      refine seg_ok names_ok mixed_ok orcA_ok pre0 hsh ?_ ?_
      · simp only [List.mem_cons, List.not_mem_nil, or_false, forall_eq_or_imp, forall_eq]
        simp [Base.ev, SX.ev, evs, Value.oneCell', hF, slenPV, lenPV_row, binPV, G3, u3, u21, u22, e21, e22, row2]
        exact ⟨by omega, by omega, by omega, ⟨2, rfl, by omega⟩, 2, rfl⟩
      · intro qs a1 w1' hq h1
        refine ⟨fun _ => ?_, fun h => absurd rfl h⟩
        simp [evs, SX.ev, hF, e21, e22, row2] at hq
        subst hq
        exact loop [(o, s), (yo, ys)] (by simp) (by simpa using hmem) a1 w1' h1
    · have hpos : 0 < ws.length := List.length_pos_iff.2 h0
      refine seg_ok names_ok mixed_ok orcA_ok pre1 hsh ?_ ?_
      · simp only [List.mem_cons, List.not_mem_nil, or_false, forall_eq_or_imp, forall_eq]
        simp [Base.ev, SX.ev, evs, Value.oneCell', hF, slenPV, lenPV_row, binPV, G3, u3, u21, u22, e21, e22, row2, r_catW2]
        exact ⟨by omega, by omega, by omega, hpos, ⟨ws.length + 2, by omega, by omega⟩, ws.length + 2, by omega⟩
      · intro qs a1 w1' hq h1
        refine ⟨fun _ => ?_, fun h => absurd rfl h⟩
        simp [evs, SX.ev, hF, e21, e22, row2, r_catW2] at hq
        subst hq
        exact loop (ws ++ [(o, s), (yo, ys)]) (by simp; omega) hmem a1 w1' h1
theorem walk (w : World) (b : ByteArray) (hb : b.size ≤ maxLen) (v : Value) (len : Nat) (Z : Nat → Int) (hg : IsRow .u8 w v len Z) (cs : List Value) (hc : LKs [.int .i64, .str] cs) :
    Calls Try.prog 8 #[.string b, v, .agg cs.toArray] w fun e w' => e = .returned (.bool true) ∧ Ex w w' := by
  obtain ⟨l, hbl, hlen, hr⟩ := rowU hg
  obtain ⟨hcl, hck⟩ := hc
  match cs, hcl with
  | [x, y], _ =>
    obtain ⟨o, rfl, ho⟩ := hck 0 _ x rfl rfl
    obtain ⟨s, rfl, hs⟩ := hck 1 _ y rfl rfl
    obtain ⟨h0, h1⟩ := bounds_i64 ho
    refine told_true (told 0) rfl (us := [.string b, v, .int .i64 o, .string s]) (ps := [pS b, pRow encU l, pI o, pS s]) (spec_of fL ⟨b, l, o, s, maxLen_le hb, hlen, hbl, h0, h1, maxLen_le hs, rfl, rfl⟩) rfl rfl (fun i p u hp hu => ?_)
    match i, hp, hu with
    | 0, hp, hu => simp at hp hu; subst hp; subst hu; exact plainReads rfl
    | 1, hp, hu => simp at hp hu; subst hp; subst hu; exact hr
    | 2, hp, hu => simp at hp hu; subst hp; subst hu; exact plainReads rfl
    | 3, hp, hu => simp at hp hu; subst hp; subst hu; exact plainReads rfl
    | i + 4, hp, hu => simp at hp
end Go.Proofs.Ytfcdbknmajfkaaa.fileAll
