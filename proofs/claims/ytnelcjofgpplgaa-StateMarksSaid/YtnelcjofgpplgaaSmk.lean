/- StateMarks by the symbolic engine. -/
import Derived.Test.YtnelcjofgpplgaaSlc
namespace Go.Proofs.Ytnelcjofgpplgaa.stateMarks
open Go Go.RowKit eng SX Fact fil fileFronts dirs pck may sta
open fileFronts
open pck hiding F F20 F21
open dirs hiding shR shRl shRR flR lpR cutR f0 f1 f2 f3 m0 m1 m2 x2 x3 n1
open may hiding m1 m2 m3 m4 r1 r2 r3 r4 r5
set_option linter.unusedVariables false
set_option linter.unusedSimpArgs false
set_option maxRecDepth 1000000

def tabA (f : FuncId) : Option FnE := cond (Nat.beq f 9) (some (ETrue 7)) (cond (Nat.beq f 14) (some (EOpen 1)) (cond (Nat.beq f 16) (some (EFlush 2)) none))
def tabAP (f : FuncId) : Option PtrE := cond (Nat.beq f 11) (some (ESt 24)) (cond (Nat.beq f 29) (some (ENum 20)) (cond (Nat.beq f 13) (some (EWo 22)) (cond (Nat.beq f 12) (some (ENm 23)) (cond (Nat.beq f 30) (some (EWr1 21)) none))))
def orcA : Orc := orcOr (orcFn tabA) (orcP tabAP)
def hM (f : FuncId) (o : Oper) : Option Hint := cond (pck.isApp o.op) (some .own) (some .parts)
noncomputable def flA := flat (bodyOf Try.prog 5)
def sh0 : Shape := ⟨[(0, .leaf), (1, .leaf), (2, .leaf), (3, .leaf)], [], [some true, some true, none, none], 152, 5⟩
def shL : Shape := ⟨[(9, .ptr 0 0 0 0), (10, .leaf), (11, .leaf), (13, .ptr 1 0 0 0), (14, .ptr 2 0 0 0), (15, .ptr 3 0 0 0), (16, .ptr 4 0 0 0)], [sbox true, sbox true, mbox, sbox true, mbox], [none, none, some true, some true, none, some true, some true, none, none, none, none, none, some true, some true, none, none, none, none, none], 152, 5⟩
def kbox : BoxT := ⟨66, 0, false, [.leaf, .leaf], none, false⟩
def shP : Shape := ⟨[(9, .ptr 0 0 0 0), (10, .leaf), (11, .leaf), (12, .ptr 1 0 0 0)], [sbox true, kbox], [none, none, some true, some true, none, some true, none], 152, 5⟩
def shO : Shape := ⟨[(9, .ptr 0 0 0 0), (10, .leaf), (11, .leaf), (12, .ptr 1 0 0 0), (13, .ptr 2 0 0 0), (14, .ptr 3 0 0 0)], [sbox true, kbox, sbox true, mbox], [none, none, some true, some true, none, some true, none, some true, some true, none, none, none, none, none], 152, 5⟩
def shE : Shape := ⟨[(8, .leaf)], [], [none], 152, 5⟩
@[simp] def zSmk1 : List SX := [.con (.int .i64 3), .fn 20 [.con (.int .i64 6), .var 5, .var 6] 1, .fn 20 [.con (.int .i64 6), .var 5, .var 6] 2]
@[simp] def zSmk2 : SX := .con (.int .i64 1)
@[simp] def zSmk3 : SX := .con (.int .i64 2)
@[simp] def zSmk4 : SX := .con (.int .i64 0)
@[simp] def zSmk5 : List SX := [.var 2, .var 3, .var 4, .var 0, .var 1, .bin .add zSmk2 (.fn 20 [.con (.int .i64 6), .var 5, .var 6] 0), rop ROp.cat [.fn 22 zSmk1 0, .lit 1 [.fn 21 [.fn 22 zSmk1 1, .fn 22 zSmk1 2] 0, .fn 21 [.fn 22 zSmk1 1, .fn 22 zSmk1 2] 1]]]
@[simp] def zSmk6 : List SX := [.var 2, .var 3, .var 4, .var 0, .var 1, .bin .add zSmk2 (.fn 20 [.con (.int .i64 6), .var 5, .var 6] 0), .lit 1 [.fn 21 [.fn 22 zSmk1 1, .fn 22 zSmk1 2] 0, .fn 21 [.fn 22 zSmk1 1, .fn 22 zSmk1 2] 1]]
@[simp] def zSmk7 : SX := rop ROp.notB [rop ROp.allB [rop ROp.eqI [.cell (.var 13) zSmk4 4 0, .cell (.var 3) zSmk4 4 0], rop ROp.eqI [.cell (.var 13) zSmk4 4 1, .cell (.var 3) zSmk4 4 1], rop ROp.eqI [.cell (.var 13) zSmk4 4 2, .cell (.var 3) zSmk4 4 2], rop ROp.eqI [.cell (.var 13) zSmk4 4 3, .cell (.var 3) zSmk4 4 3]]]
@[simp] def zSmk8 : SX := rop ROp.notB [rop ROp.allB [rop ROp.eqI [.cell (.var 13) zSmk2 4 0, .cell (.var 3) zSmk2 4 0], rop ROp.eqI [.cell (.var 13) zSmk2 4 1, .cell (.var 3) zSmk2 4 1], rop ROp.eqI [.cell (.var 13) zSmk2 4 2, .cell (.var 3) zSmk2 4 2], rop ROp.eqI [.cell (.var 13) zSmk2 4 3, .cell (.var 3) zSmk2 4 3]]]
@[simp] def zSmk9 : SX := rop ROp.notB [rop ROp.allB [rop ROp.eqI [.cell (.var 13) zSmk3 4 0, .cell (.var 3) zSmk3 4 0], rop ROp.eqI [.cell (.var 13) zSmk3 4 1, .cell (.var 3) zSmk3 4 1], rop ROp.eqI [.cell (.var 13) zSmk3 4 2, .cell (.var 3) zSmk3 4 2], rop ROp.eqI [.cell (.var 13) zSmk3 4 3, .cell (.var 3) zSmk3 4 3]]]
@[simp] def zSmk10 : SX := rop ROp.notB [rop ROp.allB [rop ROp.eqI [.cell (.var 6) zSmk4 4 0, .cell (.var 3) zSmk4 4 0], rop ROp.eqI [.cell (.var 6) zSmk4 4 1, .cell (.var 3) zSmk4 4 1], rop ROp.eqI [.cell (.var 6) zSmk4 4 2, .cell (.var 3) zSmk4 4 2], rop ROp.eqI [.cell (.var 6) zSmk4 4 3, .cell (.var 3) zSmk4 4 3]]]
@[simp] def zSmk11 : SX := rop ROp.notB [rop ROp.allB [rop ROp.eqI [.cell (.var 6) zSmk2 4 0, .cell (.var 3) zSmk2 4 0], rop ROp.eqI [.cell (.var 6) zSmk2 4 1, .cell (.var 3) zSmk2 4 1], rop ROp.eqI [.cell (.var 6) zSmk2 4 2, .cell (.var 3) zSmk2 4 2], rop ROp.eqI [.cell (.var 6) zSmk2 4 3, .cell (.var 3) zSmk2 4 3]]]
@[simp] def zSmk12 : SX := rop ROp.notB [rop ROp.allB [rop ROp.eqI [.cell (.var 6) zSmk3 4 0, .cell (.var 3) zSmk3 4 0], rop ROp.eqI [.cell (.var 6) zSmk3 4 1, .cell (.var 3) zSmk3 4 1], rop ROp.eqI [.cell (.var 6) zSmk3 4 2, .cell (.var 3) zSmk3 4 2], rop ROp.eqI [.cell (.var 6) zSmk3 4 3, .cell (.var 3) zSmk3 4 3]]]
@[simp] def zSmk13 : List SX := [.var 2, .var 3, .var 4, .var 0, .var 1, .fn 23 [.var 5, .var 6] 0]
@[simp] def zSmk14 : List SX := [.fn 22 zSmk1 1, .fn 22 zSmk1 2]
@[simp] def zSmk15 : SX := .bin .neq (.len (.var 13)) (.con (.int .i64 3))
@[simp] def zSmk16 : SX := .bin .neq (.len (.var 6)) (.con (.int .i64 3))
@[simp] def zSmk17 : SX := .bin .eql (.con (.int .i64 3)) (.var 0)
@[simp] def zSmk18 : SX := .cell (.var 3) zSmk4 4 0
@[simp] def zSmk19 : SX := .cell (.var 3) zSmk2 4 0
@[simp] def zSmk20 : SX := .cell (.var 3) zSmk3 4 0
@[simp] def zSmk21 : SX := .bin .neq (.var 15) (.var 1)
@[simp] def zSmk22 : SX := .bin .eql (.var 14) (.var 4)
@[simp] def zSmk23 : SX := .bin .neq (.var 8) (.var 1)
@[simp] def zSmk24 : SX := .bin .eql (.var 7) (.var 4)
@[simp] def zSmk25 : SX := rop ROp.notB [rop ROp.allB [rop ROp.eqI [.cell (.var 13) zSmk4 4 0, .var 15], rop ROp.eqI [.cell (.var 13) zSmk4 4 1, .var 16], rop ROp.eqI [.cell (.var 13) zSmk4 4 2, .var 17], rop ROp.eqI [.cell (.var 13) zSmk4 4 3, .var 18]]]
@[simp] def zSmk26 : SX := rop ROp.notB [rop ROp.allB [rop ROp.eqI [.cell (.var 13) zSmk2 4 0, .var 15], rop ROp.eqI [.cell (.var 13) zSmk2 4 1, .var 16], rop ROp.eqI [.cell (.var 13) zSmk2 4 2, .var 17], rop ROp.eqI [.cell (.var 13) zSmk2 4 3, .var 18]]]
@[simp] def zSmk27 : SX := rop ROp.notB [rop ROp.allB [rop ROp.eqI [.cell (.var 13) zSmk3 4 0, .var 15], rop ROp.eqI [.cell (.var 13) zSmk3 4 1, .var 16], rop ROp.eqI [.cell (.var 13) zSmk3 4 2, .var 17], rop ROp.eqI [.cell (.var 13) zSmk3 4 3, .var 18]]]
@[simp] def zSmk28 : SX := rop ROp.notB [rop ROp.allB [rop ROp.eqI [.cell (.var 6) zSmk4 4 0, .var 8], rop ROp.eqI [.cell (.var 6) zSmk4 4 1, .var 9], rop ROp.eqI [.cell (.var 6) zSmk4 4 2, .var 10], rop ROp.eqI [.cell (.var 6) zSmk4 4 3, .var 11]]]
@[simp] def zSmk29 : SX := rop ROp.notB [rop ROp.allB [rop ROp.eqI [.cell (.var 6) zSmk2 4 0, .var 8], rop ROp.eqI [.cell (.var 6) zSmk2 4 1, .var 9], rop ROp.eqI [.cell (.var 6) zSmk2 4 2, .var 10], rop ROp.eqI [.cell (.var 6) zSmk2 4 3, .var 11]]]
@[simp] def zSmk30 : SX := rop ROp.notB [rop ROp.allB [rop ROp.eqI [.cell (.var 6) zSmk3 4 0, .var 8], rop ROp.eqI [.cell (.var 6) zSmk3 4 1, .var 9], rop ROp.eqI [.cell (.var 6) zSmk3 4 2, .var 10], rop ROp.eqI [.cell (.var 6) zSmk3 4 3, .var 11]]]
@[simp] def zSmk31 : List SX := [.con (.int .i64 6), .var 5, .var 6]
@[simp] def zSmk32 : SX := .lit 1 [.fn 21 zSmk14 0, .fn 21 zSmk14 1]
@[simp] def zSmk33 : SX := .bin .gtr (.len (.var 0)) (.con (.int .i64 60))
@[simp] def zSmk34 : SX := .cell (.var 3) zSmk4 4 1
@[simp] def zSmk35 : SX := .cell (.var 3) zSmk4 4 2
@[simp] def zSmk36 : SX := .cell (.var 3) zSmk4 4 3
@[simp] def zSmk37 : SX := .bin .eql zSmk2 (.var 0)
@[simp] def zSmk38 : SX := .cell (.var 3) zSmk2 4 1
@[simp] def zSmk39 : SX := .cell (.var 3) zSmk2 4 2
@[simp] def zSmk40 : SX := .cell (.var 3) zSmk2 4 3
@[simp] def zSmk41 : SX := .bin .eql zSmk3 (.var 0)
@[simp] def zSmk42 : SX := .cell (.var 3) zSmk3 4 1
@[simp] def zSmk43 : SX := .cell (.var 3) zSmk3 4 2
@[simp] def zSmk44 : SX := .cell (.var 3) zSmk3 4 3
@[simp] def zSmk45 : List SX := [.con (.int .i64 25), .var 0, zSmk4]
@[simp] def zSmk46 : SX := .con (.bool true)
@[simp] def zSmk47 : SX := .conv .i64 (.bin .rem (.var 3) (.con (.int .u8 12)))
@[simp] def zSmk48 : SX := .conv .i64 (.bin .rem (.var 2) (.con (.int .u8 3)))
@[simp] def zSmk49 : SX := .bin .gtr (.len (.var 1)) (.con (.int .i64 10))
@[simp] def zSmk50 : SX := .cell (.var 13) zSmk4 4 0
@[simp] def zSmk51 : SX := .cell (.var 13) zSmk4 4 1
@[simp] def zSmk52 : SX := .cell (.var 13) zSmk4 4 2
@[simp] def zSmk53 : SX := .cell (.var 13) zSmk4 4 3
@[simp] def zSmk54 : SX := .cell (.var 13) zSmk2 4 0
@[simp] def zSmk55 : SX := .cell (.var 13) zSmk2 4 1
@[simp] def zSmk56 : SX := .cell (.var 13) zSmk2 4 2
@[simp] def zSmk57 : SX := .cell (.var 13) zSmk2 4 3
@[simp] def zSmk58 : SX := .cell (.var 13) zSmk3 4 0
@[simp] def zSmk59 : SX := .cell (.var 13) zSmk3 4 1
@[simp] def zSmk60 : SX := .cell (.var 13) zSmk3 4 2
@[simp] def zSmk61 : SX := .cell (.var 13) zSmk3 4 3
@[simp] def zSmk62 : SX := .cell (.var 6) zSmk4 4 0
@[simp] def zSmk63 : SX := .cell (.var 6) zSmk4 4 1
@[simp] def zSmk64 : SX := .cell (.var 6) zSmk4 4 2
@[simp] def zSmk65 : SX := .cell (.var 6) zSmk4 4 3
@[simp] def zSmk66 : SX := .cell (.var 6) zSmk2 4 0
@[simp] def zSmk67 : SX := .cell (.var 6) zSmk2 4 1
@[simp] def zSmk68 : SX := .cell (.var 6) zSmk2 4 2
@[simp] def zSmk69 : SX := .cell (.var 6) zSmk2 4 3
@[simp] def zSmk70 : SX := .cell (.var 6) zSmk3 4 0
@[simp] def zSmk71 : SX := .cell (.var 6) zSmk3 4 1
@[simp] def zSmk72 : SX := .cell (.var 6) zSmk3 4 2
@[simp] def zSmk73 : SX := .cell (.var 6) zSmk3 4 3
theorem q1 : segTo Try.prog orcA 10000 flA sh0 [1, 1] shE [] hM = some (.ret, [.fn 9 (ETrue 7) [], .is (.fn 7 [] 0) (.bool true), .ok (.len (.var 0)), .ok zSmk33, .is zSmk33 (.bool true), .ok zSmk46], [zSmk46]) := by kernel_rfl
theorem q2 : segTo Try.prog orcA 10000 flA sh0 [1, 0, 1] shE [] hM = some (.ret, [.fn 9 (ETrue 7) [], .is (.fn 7 [] 0) (.bool true), .ok (.len (.var 0)), .ok zSmk33, .is zSmk33 (.bool false), .ok (.len (.var 1)), .ok zSmk49, .is zSmk49 (.bool true), .ok zSmk46], [zSmk46]) := by kernel_rfl
theorem pre : segTo Try.prog orcA 10000 (flA.take 8) sh0 [1, 0, 0] shP [(6, 0), (7, 0)] hM = some (.normal, [.fn 9 (ETrue 7) [], .is (.fn 7 [] 0) (.bool true), .ok (.len (.var 0)), .ok zSmk33, .is zSmk33 (.bool false), .ok (.len (.var 1)), .ok zSmk49, .is zSmk49 (.bool false), .fp 11 (ESt 24) zSmk45, .ok (.fn 24 zSmk45 2), .ok (.fn 24 zSmk45 4), .ok (.bin .rem (.var 2) (.con (.int .u8 3))), .ok zSmk48, .ok (.bin .add zSmk2 zSmk48), .ok (.bin .rem (.var 3) (.con (.int .u8 12))), .ok zSmk47, .ok (.bin .add zSmk2 zSmk47), .ok (.bin .add zSmk2 zSmk48), .ok (.bin .add zSmk2 zSmk47), .ok (.fn 24 zSmk45 2), .ok zSmk4], [.bin .add zSmk2 zSmk48, .bin .add zSmk2 zSmk47, .fn 24 zSmk45 0, .fn 24 zSmk45 1, .fn 24 zSmk45 2, .var 1, zSmk4]) := by kernel_rfl
theorem opn : segTo Try.prog orcA 10000 ((flA.drop 8).take 1) shP [] shO [(0, 0), (1, 0), (8, 0), (9, 0)] hM = some (.normal, [.fp 12 (ENm 23) [.var 5, .var 6], .ok (.fn 23 [.var 5, .var 6] 0), .ok (.fn 23 [.var 5, .var 6] 2), .fn 14 (EOpen 1) zSmk13, .ok (.fn 1 zSmk13 2), .ok (.fn 1 zSmk13 3), .ok (.fn 1 zSmk13 4), .ok (.fn 1 zSmk13 5), .ok (.fn 1 zSmk13 6), .ok (.var 0), .ok (.var 1), .ok (.var 4), .ok (.fn 23 [.var 5, .var 6] 2), .ok (.fn 1 zSmk13 2), .ok (.fn 1 zSmk13 3), .ok (.fn 1 zSmk13 4), .ok (.fn 1 zSmk13 5), .ok (.fn 1 zSmk13 6)], [.var 0, .var 1, .var 2, .var 3, .var 4, .fn 23 [.var 5, .var 6] 1, .fn 23 [.var 5, .var 6] 2, .fn 1 zSmk13 0, .fn 1 zSmk13 1, .fn 1 zSmk13 2, .fn 1 zSmk13 3, .fn 1 zSmk13 4, .fn 1 zSmk13 5, .fn 1 zSmk13 6]) := by kernel_rfl
theorem fl0 : segTo Try.prog orcA 10000 ((flA.drop 9).take 1) shO [0] shL [(0, 0), (2, 0), (3, 0), (16, 0), (17, 0)] hM = some (.normal, [.fp 29 (ENum 20) zSmk31, .ok (.fn 20 zSmk31 0), .ok (.fn 20 zSmk31 2), .ok (.bin .add zSmk2 (.fn 20 zSmk31 0)), .fp 13 (EWo 22) zSmk1, .is (.len (.fn 22 zSmk1 0)) (.int .i64 0), .ok (.fn 22 zSmk1 2), .fp 30 (EWr1 21) zSmk14, .ok (.fn 21 zSmk14 0), .ok (.fn 21 zSmk14 1), .ok (.fn 21 zSmk14 3), rng zSmk4 (.len zSmk32), upto (.len zSmk32) 4294967296, .fn 16 (EFlush 2) zSmk6, same (.len zSmk32) (.len zSmk32), .ok (.fn 2 zSmk6 2), .ok (.fn 2 zSmk6 3), .ok (.fn 2 zSmk6 4), .ok (.fn 2 zSmk6 5), .ok (.fn 2 zSmk6 6), .ok (.var 0), .ok (.var 1), .ok (.var 4), .ok (.var 9), .ok (.var 10), .ok (.var 11), .ok (.var 12), .ok (.var 13), .ok (.fn 2 zSmk6 2), .ok (.fn 2 zSmk6 3), .ok (.fn 2 zSmk6 4), .ok (.fn 2 zSmk6 5), .ok (.fn 2 zSmk6 6)], [.var 0, .var 1, .var 2, .var 3, .var 4, .var 7, .var 8, .var 9, .var 10, .var 11, .var 12, .var 13, .fn 2 zSmk6 0, .fn 2 zSmk6 1, .fn 2 zSmk6 2, .fn 2 zSmk6 3, .fn 2 zSmk6 4, .fn 2 zSmk6 5, .fn 2 zSmk6 6]) := by kernel_rfl
theorem fl1 : segTo Try.prog orcA 10000 ((flA.drop 9).take 1) shO [1] shL [(0, 0), (2, 0), (3, 0), (16, 0), (17, 0)] hM = some (.normal, [.fp 29 (ENum 20) zSmk31, .ok (.fn 20 zSmk31 0), .ok (.fn 20 zSmk31 2), .ok (.bin .add zSmk2 (.fn 20 zSmk31 0)), .fp 13 (EWo 22) zSmk1, rng zSmk4 (.len (.fn 22 zSmk1 0)), .ok (.fn 22 zSmk1 2), .fp 30 (EWr1 21) zSmk14, .ok (.fn 21 zSmk14 0), .ok (.fn 21 zSmk14 1), .ok (.fn 21 zSmk14 3), same (.len (.fn 22 zSmk1 0)) (.len (.fn 22 zSmk1 0)), upto (.len (rop ROp.cat [.fn 22 zSmk1 0, zSmk32])) 4294967296, .fn 16 (EFlush 2) zSmk5, same (.len (rop ROp.cat [.fn 22 zSmk1 0, zSmk32])) (.len (rop ROp.cat [.fn 22 zSmk1 0, zSmk32])), .ok (.fn 2 zSmk5 2), .ok (.fn 2 zSmk5 3), .ok (.fn 2 zSmk5 4), .ok (.fn 2 zSmk5 5), .ok (.fn 2 zSmk5 6), .ok (.var 0), .ok (.var 1), .ok (.var 4), .ok (.var 9), .ok (.var 10), .ok (.var 11), .ok (.var 12), .ok (.var 13), .ok (.fn 2 zSmk5 2), .ok (.fn 2 zSmk5 3), .ok (.fn 2 zSmk5 4), .ok (.fn 2 zSmk5 5), .ok (.fn 2 zSmk5 6)], [.var 0, .var 1, .var 2, .var 3, .var 4, .var 7, .var 8, .var 9, .var 10, .var 11, .var 12, .var 13, .fn 2 zSmk5 0, .fn 2 zSmk5 1, .fn 2 zSmk5 2, .fn 2 zSmk5 3, .fn 2 zSmk5 4, .fn 2 zSmk5 5, .fn 2 zSmk5 6]) := by kernel_rfl
theorem po10 : segTo Try.prog orcA 10000 (flA.drop 10) shL [0, 0, 0, 0, 1, 0, 0, 0, 0, 0, 0, 0, 0, 0, 1, 1] shE [] hM = some (.ret, [.ok (.len (.var 6)), .ok zSmk16, .is zSmk16 (.bool false), .ok (.len (.var 13)), .ok zSmk15, .is zSmk15 (.bool false), .ok zSmk23, .is zSmk23 (.bool false), .ok zSmk21, .is zSmk21 (.bool false), .idx (.var 3) zSmk4 4 4, .idx (.var 3) zSmk4 4 4, .ok zSmk18, .ok zSmk34, .ok zSmk35, .ok zSmk36, .idx (.var 3) zSmk4 4 4, .idx (.var 3) zSmk4 4 4, .ok zSmk18, .ok zSmk34, .ok zSmk35, .ok zSmk36, .ok zSmk37, .is zSmk37 (.bool true), .idx (.var 3) zSmk4 4 4, .idx (.var 3) zSmk4 4 1, .ok zSmk18, .ok (.bin .gtr (.var 1) zSmk18), .is (.bin .gtr (.var 1) zSmk18) (.bool false), .idx (.var 6) zSmk4 4 4, .idx (.var 6) zSmk4 4 4, .ok zSmk62, .ok zSmk63, .ok zSmk64, .ok zSmk65, .ok zSmk10, .is zSmk10 (.bool false), .idx (.var 13) zSmk4 4 4, .idx (.var 13) zSmk4 4 4, .ok zSmk50, .ok zSmk51, .ok zSmk52, .ok zSmk53, .ok zSmk7, .is zSmk7 (.bool false), .idx (.var 3) zSmk2 4 4, .idx (.var 3) zSmk2 4 4, .ok zSmk19, .ok zSmk38, .ok zSmk39, .ok zSmk40, .idx (.var 3) zSmk2 4 4, .idx (.var 3) zSmk2 4 4, .ok zSmk19, .ok zSmk38, .ok zSmk39, .ok zSmk40, .ok zSmk41, .is zSmk41 (.bool false), .idx (.var 6) zSmk2 4 4, .idx (.var 6) zSmk2 4 4, .ok zSmk66, .ok zSmk67, .ok zSmk68, .ok zSmk69, .ok zSmk11, .is zSmk11 (.bool false), .idx (.var 13) zSmk2 4 4, .idx (.var 13) zSmk2 4 4, .ok zSmk54, .ok zSmk55, .ok zSmk56, .ok zSmk57, .ok zSmk8, .is zSmk8 (.bool false), .idx (.var 3) zSmk3 4 4, .idx (.var 3) zSmk3 4 4, .ok zSmk20, .ok zSmk42, .ok zSmk43, .ok zSmk44, .idx (.var 3) zSmk3 4 4, .idx (.var 3) zSmk3 4 4, .ok zSmk20, .ok zSmk42, .ok zSmk43, .ok zSmk44, .ok zSmk17, .is zSmk17 (.bool false), .idx (.var 6) zSmk3 4 4, .idx (.var 6) zSmk3 4 4, .ok zSmk70, .ok zSmk71, .ok zSmk72, .ok zSmk73, .ok zSmk12, .is zSmk12 (.bool false), .idx (.var 13) zSmk3 4 4, .idx (.var 13) zSmk3 4 4, .ok zSmk58, .ok zSmk59, .ok zSmk60, .ok zSmk61, .ok zSmk9, .is zSmk9 (.bool false), .ok zSmk24, .is zSmk24 (.bool true), .ok zSmk22, .is zSmk22 (.bool true), .ok zSmk46], [zSmk46]) := by kernel_rfl
theorem po11 : segTo Try.prog orcA 10000 (flA.drop 10) shL [0, 0, 0, 0, 1, 1, 0, 0, 0, 0, 0, 0, 0, 0, 1, 1] shE [] hM = some (.ret, [.ok (.len (.var 6)), .ok zSmk16, .is zSmk16 (.bool false), .ok (.len (.var 13)), .ok zSmk15, .is zSmk15 (.bool false), .ok zSmk23, .is zSmk23 (.bool false), .ok zSmk21, .is zSmk21 (.bool false), .idx (.var 3) zSmk4 4 4, .idx (.var 3) zSmk4 4 4, .ok zSmk18, .ok zSmk34, .ok zSmk35, .ok zSmk36, .idx (.var 3) zSmk4 4 4, .idx (.var 3) zSmk4 4 4, .ok zSmk18, .ok zSmk34, .ok zSmk35, .ok zSmk36, .ok zSmk37, .is zSmk37 (.bool true), .idx (.var 3) zSmk4 4 4, .idx (.var 3) zSmk4 4 1, .ok zSmk18, .ok (.bin .gtr (.var 1) zSmk18), .is (.bin .gtr (.var 1) zSmk18) (.bool true), .idx (.var 6) zSmk4 4 4, .idx (.var 6) zSmk4 4 4, .ok zSmk62, .ok zSmk63, .ok zSmk64, .ok zSmk65, .ok zSmk28, .is zSmk28 (.bool false), .idx (.var 13) zSmk4 4 4, .idx (.var 13) zSmk4 4 4, .ok zSmk50, .ok zSmk51, .ok zSmk52, .ok zSmk53, .ok zSmk25, .is zSmk25 (.bool false), .idx (.var 3) zSmk2 4 4, .idx (.var 3) zSmk2 4 4, .ok zSmk19, .ok zSmk38, .ok zSmk39, .ok zSmk40, .idx (.var 3) zSmk2 4 4, .idx (.var 3) zSmk2 4 4, .ok zSmk19, .ok zSmk38, .ok zSmk39, .ok zSmk40, .ok zSmk41, .is zSmk41 (.bool false), .idx (.var 6) zSmk2 4 4, .idx (.var 6) zSmk2 4 4, .ok zSmk66, .ok zSmk67, .ok zSmk68, .ok zSmk69, .ok zSmk11, .is zSmk11 (.bool false), .idx (.var 13) zSmk2 4 4, .idx (.var 13) zSmk2 4 4, .ok zSmk54, .ok zSmk55, .ok zSmk56, .ok zSmk57, .ok zSmk8, .is zSmk8 (.bool false), .idx (.var 3) zSmk3 4 4, .idx (.var 3) zSmk3 4 4, .ok zSmk20, .ok zSmk42, .ok zSmk43, .ok zSmk44, .idx (.var 3) zSmk3 4 4, .idx (.var 3) zSmk3 4 4, .ok zSmk20, .ok zSmk42, .ok zSmk43, .ok zSmk44, .ok zSmk17, .is zSmk17 (.bool false), .idx (.var 6) zSmk3 4 4, .idx (.var 6) zSmk3 4 4, .ok zSmk70, .ok zSmk71, .ok zSmk72, .ok zSmk73, .ok zSmk12, .is zSmk12 (.bool false), .idx (.var 13) zSmk3 4 4, .idx (.var 13) zSmk3 4 4, .ok zSmk58, .ok zSmk59, .ok zSmk60, .ok zSmk61, .ok zSmk9, .is zSmk9 (.bool false), .ok zSmk24, .is zSmk24 (.bool true), .ok zSmk22, .is zSmk22 (.bool true), .ok zSmk46], [zSmk46]) := by kernel_rfl
theorem po20 : segTo Try.prog orcA 10000 (flA.drop 10) shL [0, 0, 0, 0, 0, 0, 0, 1, 0, 0, 0, 0, 0, 0, 1, 1] shE [] hM = some (.ret, [.ok (.len (.var 6)), .ok zSmk16, .is zSmk16 (.bool false), .ok (.len (.var 13)), .ok zSmk15, .is zSmk15 (.bool false), .ok zSmk23, .is zSmk23 (.bool false), .ok zSmk21, .is zSmk21 (.bool false), .idx (.var 3) zSmk4 4 4, .idx (.var 3) zSmk4 4 4, .ok zSmk18, .ok zSmk34, .ok zSmk35, .ok zSmk36, .idx (.var 3) zSmk4 4 4, .idx (.var 3) zSmk4 4 4, .ok zSmk18, .ok zSmk34, .ok zSmk35, .ok zSmk36, .ok zSmk37, .is zSmk37 (.bool false), .idx (.var 6) zSmk4 4 4, .idx (.var 6) zSmk4 4 4, .ok zSmk62, .ok zSmk63, .ok zSmk64, .ok zSmk65, .ok zSmk10, .is zSmk10 (.bool false), .idx (.var 13) zSmk4 4 4, .idx (.var 13) zSmk4 4 4, .ok zSmk50, .ok zSmk51, .ok zSmk52, .ok zSmk53, .ok zSmk7, .is zSmk7 (.bool false), .idx (.var 3) zSmk2 4 4, .idx (.var 3) zSmk2 4 4, .ok zSmk19, .ok zSmk38, .ok zSmk39, .ok zSmk40, .idx (.var 3) zSmk2 4 4, .idx (.var 3) zSmk2 4 4, .ok zSmk19, .ok zSmk38, .ok zSmk39, .ok zSmk40, .ok zSmk41, .is zSmk41 (.bool true), .idx (.var 3) zSmk2 4 4, .idx (.var 3) zSmk2 4 1, .ok zSmk19, .ok (.bin .gtr (.var 1) zSmk19), .is (.bin .gtr (.var 1) zSmk19) (.bool false), .idx (.var 6) zSmk2 4 4, .idx (.var 6) zSmk2 4 4, .ok zSmk66, .ok zSmk67, .ok zSmk68, .ok zSmk69, .ok zSmk11, .is zSmk11 (.bool false), .idx (.var 13) zSmk2 4 4, .idx (.var 13) zSmk2 4 4, .ok zSmk54, .ok zSmk55, .ok zSmk56, .ok zSmk57, .ok zSmk8, .is zSmk8 (.bool false), .idx (.var 3) zSmk3 4 4, .idx (.var 3) zSmk3 4 4, .ok zSmk20, .ok zSmk42, .ok zSmk43, .ok zSmk44, .idx (.var 3) zSmk3 4 4, .idx (.var 3) zSmk3 4 4, .ok zSmk20, .ok zSmk42, .ok zSmk43, .ok zSmk44, .ok zSmk17, .is zSmk17 (.bool false), .idx (.var 6) zSmk3 4 4, .idx (.var 6) zSmk3 4 4, .ok zSmk70, .ok zSmk71, .ok zSmk72, .ok zSmk73, .ok zSmk12, .is zSmk12 (.bool false), .idx (.var 13) zSmk3 4 4, .idx (.var 13) zSmk3 4 4, .ok zSmk58, .ok zSmk59, .ok zSmk60, .ok zSmk61, .ok zSmk9, .is zSmk9 (.bool false), .ok zSmk24, .is zSmk24 (.bool true), .ok zSmk22, .is zSmk22 (.bool true), .ok zSmk46], [zSmk46]) := by kernel_rfl
theorem po21 : segTo Try.prog orcA 10000 (flA.drop 10) shL [0, 0, 0, 0, 0, 0, 0, 1, 1, 0, 0, 0, 0, 0, 1, 1] shE [] hM = some (.ret, [.ok (.len (.var 6)), .ok zSmk16, .is zSmk16 (.bool false), .ok (.len (.var 13)), .ok zSmk15, .is zSmk15 (.bool false), .ok zSmk23, .is zSmk23 (.bool false), .ok zSmk21, .is zSmk21 (.bool false), .idx (.var 3) zSmk4 4 4, .idx (.var 3) zSmk4 4 4, .ok zSmk18, .ok zSmk34, .ok zSmk35, .ok zSmk36, .idx (.var 3) zSmk4 4 4, .idx (.var 3) zSmk4 4 4, .ok zSmk18, .ok zSmk34, .ok zSmk35, .ok zSmk36, .ok zSmk37, .is zSmk37 (.bool false), .idx (.var 6) zSmk4 4 4, .idx (.var 6) zSmk4 4 4, .ok zSmk62, .ok zSmk63, .ok zSmk64, .ok zSmk65, .ok zSmk10, .is zSmk10 (.bool false), .idx (.var 13) zSmk4 4 4, .idx (.var 13) zSmk4 4 4, .ok zSmk50, .ok zSmk51, .ok zSmk52, .ok zSmk53, .ok zSmk7, .is zSmk7 (.bool false), .idx (.var 3) zSmk2 4 4, .idx (.var 3) zSmk2 4 4, .ok zSmk19, .ok zSmk38, .ok zSmk39, .ok zSmk40, .idx (.var 3) zSmk2 4 4, .idx (.var 3) zSmk2 4 4, .ok zSmk19, .ok zSmk38, .ok zSmk39, .ok zSmk40, .ok zSmk41, .is zSmk41 (.bool true), .idx (.var 3) zSmk2 4 4, .idx (.var 3) zSmk2 4 1, .ok zSmk19, .ok (.bin .gtr (.var 1) zSmk19), .is (.bin .gtr (.var 1) zSmk19) (.bool true), .idx (.var 6) zSmk2 4 4, .idx (.var 6) zSmk2 4 4, .ok zSmk66, .ok zSmk67, .ok zSmk68, .ok zSmk69, .ok zSmk29, .is zSmk29 (.bool false), .idx (.var 13) zSmk2 4 4, .idx (.var 13) zSmk2 4 4, .ok zSmk54, .ok zSmk55, .ok zSmk56, .ok zSmk57, .ok zSmk26, .is zSmk26 (.bool false), .idx (.var 3) zSmk3 4 4, .idx (.var 3) zSmk3 4 4, .ok zSmk20, .ok zSmk42, .ok zSmk43, .ok zSmk44, .idx (.var 3) zSmk3 4 4, .idx (.var 3) zSmk3 4 4, .ok zSmk20, .ok zSmk42, .ok zSmk43, .ok zSmk44, .ok zSmk17, .is zSmk17 (.bool false), .idx (.var 6) zSmk3 4 4, .idx (.var 6) zSmk3 4 4, .ok zSmk70, .ok zSmk71, .ok zSmk72, .ok zSmk73, .ok zSmk12, .is zSmk12 (.bool false), .idx (.var 13) zSmk3 4 4, .idx (.var 13) zSmk3 4 4, .ok zSmk58, .ok zSmk59, .ok zSmk60, .ok zSmk61, .ok zSmk9, .is zSmk9 (.bool false), .ok zSmk24, .is zSmk24 (.bool true), .ok zSmk22, .is zSmk22 (.bool true), .ok zSmk46], [zSmk46]) := by kernel_rfl
theorem po30 : segTo Try.prog orcA 10000 (flA.drop 10) shL [0, 0, 0, 0, 0, 0, 0, 0, 0, 0, 1, 0, 0, 0, 1, 1] shE [] hM = some (.ret, [.ok (.len (.var 6)), .ok zSmk16, .is zSmk16 (.bool false), .ok (.len (.var 13)), .ok zSmk15, .is zSmk15 (.bool false), .ok zSmk23, .is zSmk23 (.bool false), .ok zSmk21, .is zSmk21 (.bool false), .idx (.var 3) zSmk4 4 4, .idx (.var 3) zSmk4 4 4, .ok zSmk18, .ok zSmk34, .ok zSmk35, .ok zSmk36, .idx (.var 3) zSmk4 4 4, .idx (.var 3) zSmk4 4 4, .ok zSmk18, .ok zSmk34, .ok zSmk35, .ok zSmk36, .ok zSmk37, .is zSmk37 (.bool false), .idx (.var 6) zSmk4 4 4, .idx (.var 6) zSmk4 4 4, .ok zSmk62, .ok zSmk63, .ok zSmk64, .ok zSmk65, .ok zSmk10, .is zSmk10 (.bool false), .idx (.var 13) zSmk4 4 4, .idx (.var 13) zSmk4 4 4, .ok zSmk50, .ok zSmk51, .ok zSmk52, .ok zSmk53, .ok zSmk7, .is zSmk7 (.bool false), .idx (.var 3) zSmk2 4 4, .idx (.var 3) zSmk2 4 4, .ok zSmk19, .ok zSmk38, .ok zSmk39, .ok zSmk40, .idx (.var 3) zSmk2 4 4, .idx (.var 3) zSmk2 4 4, .ok zSmk19, .ok zSmk38, .ok zSmk39, .ok zSmk40, .ok zSmk41, .is zSmk41 (.bool false), .idx (.var 6) zSmk2 4 4, .idx (.var 6) zSmk2 4 4, .ok zSmk66, .ok zSmk67, .ok zSmk68, .ok zSmk69, .ok zSmk11, .is zSmk11 (.bool false), .idx (.var 13) zSmk2 4 4, .idx (.var 13) zSmk2 4 4, .ok zSmk54, .ok zSmk55, .ok zSmk56, .ok zSmk57, .ok zSmk8, .is zSmk8 (.bool false), .idx (.var 3) zSmk3 4 4, .idx (.var 3) zSmk3 4 4, .ok zSmk20, .ok zSmk42, .ok zSmk43, .ok zSmk44, .idx (.var 3) zSmk3 4 4, .idx (.var 3) zSmk3 4 4, .ok zSmk20, .ok zSmk42, .ok zSmk43, .ok zSmk44, .ok zSmk17, .is zSmk17 (.bool true), .idx (.var 3) zSmk3 4 4, .idx (.var 3) zSmk3 4 1, .ok zSmk20, .ok (.bin .gtr (.var 1) zSmk20), .is (.bin .gtr (.var 1) zSmk20) (.bool false), .idx (.var 6) zSmk3 4 4, .idx (.var 6) zSmk3 4 4, .ok zSmk70, .ok zSmk71, .ok zSmk72, .ok zSmk73, .ok zSmk12, .is zSmk12 (.bool false), .idx (.var 13) zSmk3 4 4, .idx (.var 13) zSmk3 4 4, .ok zSmk58, .ok zSmk59, .ok zSmk60, .ok zSmk61, .ok zSmk9, .is zSmk9 (.bool false), .ok zSmk24, .is zSmk24 (.bool true), .ok zSmk22, .is zSmk22 (.bool true), .ok zSmk46], [zSmk46]) := by kernel_rfl
theorem po31 : segTo Try.prog orcA 10000 (flA.drop 10) shL [0, 0, 0, 0, 0, 0, 0, 0, 0, 0, 1, 1, 0, 0, 1, 1] shE [] hM = some (.ret, [.ok (.len (.var 6)), .ok zSmk16, .is zSmk16 (.bool false), .ok (.len (.var 13)), .ok zSmk15, .is zSmk15 (.bool false), .ok zSmk23, .is zSmk23 (.bool false), .ok zSmk21, .is zSmk21 (.bool false), .idx (.var 3) zSmk4 4 4, .idx (.var 3) zSmk4 4 4, .ok zSmk18, .ok zSmk34, .ok zSmk35, .ok zSmk36, .idx (.var 3) zSmk4 4 4, .idx (.var 3) zSmk4 4 4, .ok zSmk18, .ok zSmk34, .ok zSmk35, .ok zSmk36, .ok zSmk37, .is zSmk37 (.bool false), .idx (.var 6) zSmk4 4 4, .idx (.var 6) zSmk4 4 4, .ok zSmk62, .ok zSmk63, .ok zSmk64, .ok zSmk65, .ok zSmk10, .is zSmk10 (.bool false), .idx (.var 13) zSmk4 4 4, .idx (.var 13) zSmk4 4 4, .ok zSmk50, .ok zSmk51, .ok zSmk52, .ok zSmk53, .ok zSmk7, .is zSmk7 (.bool false), .idx (.var 3) zSmk2 4 4, .idx (.var 3) zSmk2 4 4, .ok zSmk19, .ok zSmk38, .ok zSmk39, .ok zSmk40, .idx (.var 3) zSmk2 4 4, .idx (.var 3) zSmk2 4 4, .ok zSmk19, .ok zSmk38, .ok zSmk39, .ok zSmk40, .ok zSmk41, .is zSmk41 (.bool false), .idx (.var 6) zSmk2 4 4, .idx (.var 6) zSmk2 4 4, .ok zSmk66, .ok zSmk67, .ok zSmk68, .ok zSmk69, .ok zSmk11, .is zSmk11 (.bool false), .idx (.var 13) zSmk2 4 4, .idx (.var 13) zSmk2 4 4, .ok zSmk54, .ok zSmk55, .ok zSmk56, .ok zSmk57, .ok zSmk8, .is zSmk8 (.bool false), .idx (.var 3) zSmk3 4 4, .idx (.var 3) zSmk3 4 4, .ok zSmk20, .ok zSmk42, .ok zSmk43, .ok zSmk44, .idx (.var 3) zSmk3 4 4, .idx (.var 3) zSmk3 4 4, .ok zSmk20, .ok zSmk42, .ok zSmk43, .ok zSmk44, .ok zSmk17, .is zSmk17 (.bool true), .idx (.var 3) zSmk3 4 4, .idx (.var 3) zSmk3 4 1, .ok zSmk20, .ok (.bin .gtr (.var 1) zSmk20), .is (.bin .gtr (.var 1) zSmk20) (.bool true), .idx (.var 6) zSmk3 4 4, .idx (.var 6) zSmk3 4 4, .ok zSmk70, .ok zSmk71, .ok zSmk72, .ok zSmk73, .ok zSmk30, .is zSmk30 (.bool false), .idx (.var 13) zSmk3 4 4, .idx (.var 13) zSmk3 4 4, .ok zSmk58, .ok zSmk59, .ok zSmk60, .ok zSmk61, .ok zSmk27, .is zSmk27 (.bool false), .ok zSmk24, .is zSmk24 (.bool true), .ok zSmk22, .is zSmk22 (.bool true), .ok zSmk46], [zSmk46]) := by kernel_rfl

def ELaw (k : Nat) : FnE := { k := k, ins := [none, none, none, none], leaks := [true, true, false, false], outs := [none], kinds := [.truth] }
def RL (ps qs : List PV) : Prop := ∃ (p m : List Nat) (c q : Nat), p.length ≤ 9223372036854775807 ∧ (∀ z ∈ p, z < 256) ∧ m.length ≤ 9223372036854775807 ∧ (∀ z ∈ m, z < 256) ∧ c < 256 ∧ q < 256 ∧ ps = [pRow encU p, pRow encU m, pU (c : Int), pU (q : Int)] ∧ qs = [pB true]
theorem fL : ∀ ps q1 q2, RL ps q1 → RL ps q2 → q1 = q2 := by
  rintro ps q1 q2 ⟨_, _, _, _, _, _, _, _, _, _, _, rfl⟩ ⟨_, _, _, _, _, _, _, _, _, _, _, rfl⟩; rfl
noncomputable def G : Fns := fun k => match k with | 1 => spec ROpenP | 2 => spec RFlushP | 7 => spec RTrue | 20 => spec RNum | 21 => spec RWr1 | 22 => spec RWs | 23 => spec RNm | 24 => spec RSt | _ => fun _ => none
theorem u1 : ToldF 14 (EOpen 1) (G 1) := toldOpenP 1
theorem u2 : ToldF 16 (EFlush 2) (G 2) := toldFlushP 2
theorem u7 : ToldF 9 (ETrue 7) (G 7) := told_closed 7 fun w => calls_true names_ok mixed_ok fil.noOrc_ok (args := []) ranB w
theorem u20 : ToldP 29 (ENum 20) (G 20) := toldNum 20
theorem u21 : ToldP 30 (EWr1 21) (G 21) := toldWr1 21
theorem u22 : ToldP 13 (EWo 22) (G 22) := toldWo 22
theorem u23 : ToldP 12 (ENm 23) (G 23) := toldNm 23
theorem u24 : ToldP 11 (ESt 24) (G 24) := toldSt 24
theorem G7 : G 7 [] = some [pB true] := spec_of fTrue ⟨rfl, rfl⟩
theorem orcA_ok : OrcOk Try.prog orcA := orcOr_ok (orcFn_ok tabA) (orcP_ok tabAP)
@[simp] theorem kWo (k : Nat) : (EWo k).k = k := rfl
theorem cutA : flA = flA.take 8 ++ ((flA.drop 8).take 1 ++ ((flA.drop 9).take 1 ++ flA.drop 10)) := by kernel_rfl
theorem three {l : List MarkM} (h : l.length = 3) : ∃ x y z, l = [x, y, z] := by
  match l, h with
  | [x, y, z], _ => exact ⟨x, y, z, rfl⟩
theorem cells3 (x y z : MarkM) : cellPV (pRow encM [x, y, z]) (pI 0) 4 0 = some (pI x.1) ∧ cellPV (pRow encM [x, y, z]) (pI 0) 4 1 = some (pI x.2.1) ∧ cellPV (pRow encM [x, y, z]) (pI 0) 4 2 = some (pI x.2.2.1) ∧ cellPV (pRow encM [x, y, z]) (pI 0) 4 3 = some (pI x.2.2.2) ∧ cellPV (pRow encM [x, y, z]) (pI 1) 4 0 = some (pI y.1) ∧ cellPV (pRow encM [x, y, z]) (pI 1) 4 1 = some (pI y.2.1) ∧ cellPV (pRow encM [x, y, z]) (pI 1) 4 2 = some (pI y.2.2.1) ∧ cellPV (pRow encM [x, y, z]) (pI 1) 4 3 = some (pI y.2.2.2) ∧ cellPV (pRow encM [x, y, z]) (pI 2) 4 0 = some (pI z.1) ∧ cellPV (pRow encM [x, y, z]) (pI 2) 4 1 = some (pI z.2.1) ∧ cellPV (pRow encM [x, y, z]) (pI 2) 4 2 = some (pI z.2.2.1) ∧ cellPV (pRow encM [x, y, z]) (pI 2) 4 3 = some (pI z.2.2.2) := ⟨rfl, rfl, rfl, rfl, rfl, rfl, rfl, rfl, rfl, rfl, rfl, rfl⟩
theorem idx3 (x y z : MarkM) : IdxP (some (pRow encM [x, y, z])) (some (pI 0)) 4 4 ∧ IdxP (some (pRow encM [x, y, z])) (some (pI 0)) 4 1 ∧ IdxP (some (pRow encM [x, y, z])) (some (pI 1)) 4 4 ∧ IdxP (some (pRow encM [x, y, z])) (some (pI 1)) 4 1 ∧ IdxP (some (pRow encM [x, y, z])) (some (pI 2)) 4 4 ∧ IdxP (some (pRow encM [x, y, z])) (some (pI 2)) 4 1 := ⟨idxP_row encM [x, y, z] 0 4 4 .i64 rfl (show 0 < 3 by omega) (by decide), idxP_row encM [x, y, z] 0 4 1 .i64 rfl (show 0 < 3 by omega) (by decide), idxP_row encM [x, y, z] 1 4 4 .i64 rfl (show 1 < 3 by omega) (by decide), idxP_row encM [x, y, z] 1 4 1 .i64 rfl (show 1 < 3 by omega) (by decide), idxP_row encM [x, y, z] 2 4 4 .i64 rfl (show 2 < 3 by omega) (by decide), idxP_row encM [x, y, z] 2 4 1 .i64 rfl (show 2 < 3 by omega) (by decide)⟩
theorem len3 (x y z : MarkM) : lenPV (pRow encM [x, y, z]) = some (pI 3) := rfl
theorem put1 (x y z m : MarkM) : putMk [x, y, z] 1 m = if x.1 < m.1 then [m, y, z] else [x, y, z] := by simp [putMk]
theorem put2 (x y z m : MarkM) : putMk [x, y, z] 2 m = if y.1 < m.1 then [x, m, z] else [x, y, z] := by simp [putMk]
theorem put3 (x y z m : MarkM) : putMk [x, y, z] 3 m = if z.1 < m.1 then [x, y, m] else [x, y, z] := by simp [putMk]
set_option maxHeartbeats 4000000 in
theorem told (k0 : Nat) : ToldF 5 (ELaw k0) (spec RL) := by
  refine told_by G _ (bodyOf Try.prog 5) Try.func5 (by kernel_rfl) sh0 (by kernel_rfl) ?_ ?_
  · intro ps qs h i hi
    obtain ⟨p, m, c, q, _, _, _, _, _, _, rfl, rfl⟩ := of_spec h
    simp [sh0] at hi
    match i, hi with
    | 0, hi => simp at hi
    | 1, hi => simp at hi
    | 2, hi => exact ⟨_, rfl, rfl⟩
    | 3, hi => exact ⟨_, rfl, rfl⟩
    | i + 4, hi => simp at hi
  · intro C ps qs hF h a w hsh
    obtain ⟨p, m, c, q, hp, hz, hm, hzm, hc, hq, rfl, rfl⟩ := of_spec h
    show wpL Try.prog flA _ a w
    have fin : ∀ qs a1 w1, qs = [pB true] → InShape C shE qs a1 w1 → (AX.ret = .normal → wpL Try.prog [] (fun e a' w' => (e = .normal ∨ e = .ret) ∧ ∃ sh' ps' es, InShape C sh' ps' a' w' ∧ resTo Try.prog Try.f5 sh' (ELaw k0) = some es ∧ evs (fun i => ps'[i]?) G es = some [pB true]) a1 w1) ∧ (AX.ret ≠ .normal → (AX.ret.to = .normal ∨ AX.ret.to = .ret) ∧ ∃ sh' ps' es, InShape C sh' ps' a1 w1 ∧ resTo Try.prog Try.f5 sh' (ELaw k0) = some es ∧ evs (fun i => ps'[i]?) G es = some [pB true]) := by
      rintro qs a1 w1 rfl h1
      exact ⟨fun h => (by cases h), fun _ => ⟨.inr rfl, shE, _, [SX.var 0], h1, by kernel_rfl, rfl⟩⟩
    by_cases hp1 : 60 < p.length
    · rw [← List.append_nil flA]
      refine seg_ok names_ok mixed_ok orcA_ok stateMarks.q1 hsh ?_ (fun qs a1 w1 hq h1 => fin qs a1 w1 (by simp [evs, SX.ev] at hq; exact hq.symm) h1)
      simp only [List.mem_cons, List.not_mem_nil, or_false, forall_eq_or_imp, forall_eq]
      simp [-holds_idx, holds_idxP, holds_cellsP, Base.ev, SX.ev, evs, Value.oneCell', hF, lenPV_row, binPV, G7, u7]
      all_goals omega
    by_cases hm1 : 10 < m.length
    · rw [← List.append_nil flA]
      refine seg_ok names_ok mixed_ok orcA_ok q2 hsh ?_ (fun qs a1 w1 hq h1 => fin qs a1 w1 (by simp [evs, SX.ev] at hq; exact hq.symm) h1)
      simp only [List.mem_cons, List.not_mem_nil, or_false, forall_eq_or_imp, forall_eq]
      simp [-holds_idx, holds_idxP, holds_cellsP, Base.ev, SX.ev, evs, Value.oneCell', hF, lenPV_row, binPV, G7, u7]
      all_goals omega
    rw [cutA]
    obtain ⟨s, n2, md, e24⟩ := made (p := p) (by omega) hz
    have e24 : G 24 [pI 25, pRow encU p, pI 0] = some [pRow encF s.files, pRow encM s.marks, pI s.epoch, pRow encU p, pI (n2 : Int)] := e24
    have hrc : c % 3 < 3 := Nat.mod_lt _ (by omega)
    have wtc : ((c : Int).tmod 3) = ((c % 3 : Nat) : Int) := rfl
    have hrq : q % 12 < 12 := Nat.mod_lt _ (by omega)
    have wtq : ((q : Int).tmod 12) = ((q % 12 : Nat) : Int) := rfl
    generalize c % 3 = cc at *
    generalize q % 12 = qq at *
    have wc : IntKind.i64.wrap (cc : Int) = (cc : Int) := wrapI _ (by omega) (by omega)
    have wq : IntKind.i64.wrap (qq : Int) = (qq : Int) := wrapI _ (by omega) (by omega)
    have wc1 : IntKind.i64.wrap (1 + (cc : Int)) = 1 + (cc : Int) := wrapI _ (by omega) (by omega)
    have wq1 : IntKind.i64.wrap (1 + (qq : Int)) = 1 + (qq : Int) := wrapI _ (by omega) (by omega)
    refine seg_ok names_ok mixed_ok orcA_ok pre hsh ?_ ?_
    · simp only [List.mem_cons, List.not_mem_nil, or_false, forall_eq_or_imp, forall_eq]
      simp [-holds_idx, holds_idxP, holds_cellsP, Base.ev, SX.ev, evs, Value.oneCell', hF, lenPV_row, binPV, convPV, wtc, wtq, wc, wq, wc1, wq1, G7, u7, e24, u24]
      all_goals omega
    intro qs a1 w1 hq h1
    refine ⟨fun _ => ?_, fun h => absurd rfl h⟩
    simp [evs, SX.ev, hF, e24, binPV, convPV, wtc, wtq, wc, wq, wc1, wq1] at hq
    subst hq
    -- opened
    have okm : OkP m 0 := ⟨by omega, by omega, hzm⟩
    have e23 : G 23 [pRow encU m, pI 0] = some [pS (nmt (numV m 0 10)), pRow encU m, pI (numN m 0 : Int)] := spec_of fNm ⟨0, m, okm, rfl, rfl⟩
    have okm1 := pck.okN okm
    have hns := nmt_size (numV m 0 10)
    generalize nmt (numV m 0 10) = nm at *
    generalize numN m 0 = n1 at *
    have e1 : G 1 [pRow encF s.files, pRow encM s.marks, pI s.epoch, pI (1 + (cc : Int)), pI (1 + (qq : Int)), pS nm] = some (pSt (openS s (1 + (cc : Int)) (1 + (qq : Int)) nm).1 ++ pMk (openS s (1 + (cc : Int)) (1 + (qq : Int)) nm).2) := spec_of fOpenP ⟨s, _, _, nm, md.may, by omega, by omega, by omega, by omega, by omega, rfl, rfl⟩
    obtain ⟨ho1, ho2, ho3⟩ := open_parts s (1 + (cc : Int)) (1 + (qq : Int)) nm
    generalize (openS s (1 + (cc : Int)) (1 + (qq : Int)) nm).1 = s1 at *
    generalize (openS s (1 + (cc : Int)) (1 + (qq : Int)) nm).2 = k1 at *
    refine seg_ok names_ok mixed_ok orcA_ok opn h1 ?_ ?_
    · simp only [List.mem_cons, List.not_mem_nil, or_false, forall_eq_or_imp, forall_eq]
      simp [-holds_idx, holds_idxP, holds_cellsP, Base.ev, SX.ev, evs, Value.oneCell', hF, e23, e1, u23, u1]
    intro qs a1 w1 hq h1
    refine ⟨fun _ => ?_, fun h => absurd rfl h⟩
    simp [evs, SX.ev, hF, e23, e1] at hq
    subst hq
    -- written
    have e20 : G 20 [pI 6, pRow encU m, pI (n1 : Int)] = some [pI (numV m n1 6 : Int), pRow encU m, pI (numN m n1 : Int)] := spec_of fNum ⟨6, n1, m, by omega, by omega, okm1.n, okm1.len, okm1.u8, rfl, rfl⟩
    have hv6 : numV m n1 6 < 6 := numV_lt (by omega)
    have okm2 := pck.okN okm1
    generalize numV m n1 6 = v6 at *
    generalize numN m n1 = n3 at *
    have e22 : G 22 [pI 3, pRow encU m, pI (n3 : Int)] = some [pRow encW (writes m n3 3).1, pRow encU m, pI ((writes m n3 3).2 : Int)] := spec_of fWs ⟨3, n3, m, by omega, okm2, rfl, rfl⟩
    have okm3 := writes_n (most := 3) okm2
    have hws := some_writes m n3 3
    have hwl := writes_len m n3 3
    generalize (writes m n3 3).1 = ws at *
    generalize (writes m n3 3).2 = n4 at *
    have e21 : G 21 [pRow encU m, pI (n4 : Int)] = some [pI (wr1 m n4).1.1, pS (wr1 m n4).1.2, pRow encU m, pI ((wr1 m n4).2 : Int)] := spec_of fWr1 ⟨n4, m, okm3, rfl, rfl⟩
    have hw1 := one_write m n4
    generalize (wr1 m n4).1 = wx at *
    generalize (wr1 m n4).2 = n5 at *
    have hwf : ∀ w ∈ ws ++ [wx], -9223372036854775808 ≤ w.1 ∧ w.1 ≤ 9223372036854775807 ∧ w.2.size ≤ 1000000 := fun w hw => by
      rcases List.mem_append.1 hw with h | h
      · have := hws w h; omega
      · simp only [List.mem_singleton] at h; subst h; omega
    have e2 : G 2 [pRow encF s.files, pRow encM s.marks, pI s.epoch, pI (1 + (cc : Int)), pI (1 + (qq : Int)), pI (1 + (v6 : Int)), pRow encW (ws ++ [wx])] = some (pSt (flushS s (1 + (cc : Int)) (1 + (qq : Int)) (1 + (v6 : Int)) (ws ++ [wx])).1 ++ pMk (flushS s (1 + (cc : Int)) (1 + (qq : Int)) (1 + (v6 : Int)) (ws ++ [wx])).2) := spec_of fFlushP ⟨s, _, _, _, ws ++ [wx], md.may, by omega, by omega, by omega, by omega, by omega, by omega, by simp; omega, hwf, rfl, rfl⟩
    obtain ⟨hf1, hf2, hf3⟩ := flush_parts s (1 + (cc : Int)) (1 + (qq : Int)) (1 + (v6 : Int)) (ws ++ [wx])
    generalize (flushS s (1 + (cc : Int)) (1 + (qq : Int)) (1 + (v6 : Int)) (ws ++ [wx])).1 = s2 at *
    generalize (flushS s (1 + (cc : Int)) (1 + (qq : Int)) (1 + (v6 : Int)) (ws ++ [wx])).2 = k2 at *
    have w6 : IntKind.i64.wrap (1 + (v6 : Int)) = 1 + (v6 : Int) := wrapI _ (by omega) (by omega)
    -- what is left
    have post : ∀ a w, InShape C shL [pI (1 + (cc : Int)), pI (1 + (qq : Int)), pRow encF s.files, pRow encM s.marks, pI s.epoch, pRow encF s1.files, pRow encM s1.marks, pI s1.epoch, pI k1.1, pI k1.2.1, pI k1.2.2.1, pI k1.2.2.2, pRow encF s2.files, pRow encM s2.marks, pI s2.epoch, pI k2.1, pI k2.2.1, pI k2.2.2.1, pI k2.2.2.2] a w → wpL Try.prog (flA.drop 10) (fun e a' w' => (e = .normal ∨ e = .ret) ∧ ∃ sh' ps' es, InShape C sh' ps' a' w' ∧ resTo Try.prog Try.f5 sh' (ELaw k0) = some es ∧ evs (fun i => ps'[i]?) G es = some [pB true]) a w := by
      clear e1 e2 e20 e21 e22 e23 e24 hsh h1 hws hwf
      intro a w hin
      rw [← List.append_nil (flA.drop 10)]
      obtain ⟨x0, x1, x2, hx⟩ := three md.may.ml
      rw [ho1, hf1, ho3, hf3, hx] at hin
      obtain ⟨b1, b2, b3, b4⟩ := k1
      obtain ⟨d1, d2, d3, d4⟩ := k2
      simp only at ho2 hf2
      subst ho2
      subst hf2
      have hcc : cc = 0 ∨ cc = 1 ∨ cc = 2 := by omega
      rcases hcc with rfl | rfl | rfl
      · rw [show (1 : Int) + ((0 : Nat) : Int) = 1 from rfl, put1, put1] at hin
        by_cases hg : x0.1 < 1 + (qq : Int)
        · simp only [hg, if_true] at hin
          have ia := idx3 (1 + (qq : Int), b2, b3, b4) x1 x2
          have ca := cells3 (1 + (qq : Int), b2, b3, b4) x1 x2
          have la := len3 (1 + (qq : Int), b2, b3, b4) x1 x2
          have ib := idx3 (1 + (qq : Int), d2, d3, d4) x1 x2
          have cb := cells3 (1 + (qq : Int), d2, d3, d4) x1 x2
          have lb := len3 (1 + (qq : Int), d2, d3, d4) x1 x2
          have is := idx3 x0 x1 x2
          have cs := cells3 x0 x1 x2
          have ls := len3 x0 x1 x2
          generalize hra : pRow encM [(1 + (qq : Int), b2, b3, b4), x1, x2] = ra at *
          generalize hrb : pRow encM [(1 + (qq : Int), d2, d3, d4), x1, x2] = rb at *
          generalize hrs : pRow encM [x0, x1, x2] = rs at *
          refine seg_ok names_ok mixed_ok orcA_ok po11 hin ?_ (fun qs a1 w1 hq h1 => fin qs a1 w1 (by simp [evs, SX.ev] at hq; exact hq.symm) h1)
          simp only [List.mem_cons, List.not_mem_nil, or_false, forall_eq_or_imp, forall_eq]
          simp [-holds_idx, holds_idxP, holds_cellsP, Base.ev, SX.ev, evs, Value.oneCell', la, lb, ls, ia, ib, is, ca, cb, cs, binPV, r_eqI, r_all4, rnot, hg]
        · simp only [hg, if_false] at hin
          have ia := idx3 x0 x1 x2
          have ca := cells3 x0 x1 x2
          have la := len3 x0 x1 x2
          have ib := idx3 x0 x1 x2
          have cb := cells3 x0 x1 x2
          have lb := len3 x0 x1 x2
          have is := idx3 x0 x1 x2
          have cs := cells3 x0 x1 x2
          have ls := len3 x0 x1 x2
          have ia := is
          generalize hrs : pRow encM [x0, x1, x2] = rs at *
          refine seg_ok names_ok mixed_ok orcA_ok po10 hin ?_ (fun qs a1 w1 hq h1 => fin qs a1 w1 (by simp [evs, SX.ev] at hq; exact hq.symm) h1)
          simp only [List.mem_cons, List.not_mem_nil, or_false, forall_eq_or_imp, forall_eq]
          simp [-holds_idx, holds_idxP, holds_cellsP, Base.ev, SX.ev, evs, Value.oneCell', la, lb, ls, ia, ib, is, ca, cb, cs, binPV, r_eqI, r_all4, rnot, hg]
      · rw [show (1 : Int) + ((1 : Nat) : Int) = 2 from rfl, put2, put2] at hin
        by_cases hg : x1.1 < 1 + (qq : Int)
        · simp only [hg, if_true] at hin
          have ia := idx3 x0 (1 + (qq : Int), b2, b3, b4) x2
          have ca := cells3 x0 (1 + (qq : Int), b2, b3, b4) x2
          have la := len3 x0 (1 + (qq : Int), b2, b3, b4) x2
          have ib := idx3 x0 (1 + (qq : Int), d2, d3, d4) x2
          have cb := cells3 x0 (1 + (qq : Int), d2, d3, d4) x2
          have lb := len3 x0 (1 + (qq : Int), d2, d3, d4) x2
          have is := idx3 x0 x1 x2
          have cs := cells3 x0 x1 x2
          have ls := len3 x0 x1 x2
          generalize hra : pRow encM [x0, (1 + (qq : Int), b2, b3, b4), x2] = ra at *
          generalize hrb : pRow encM [x0, (1 + (qq : Int), d2, d3, d4), x2] = rb at *
          generalize hrs : pRow encM [x0, x1, x2] = rs at *
          refine seg_ok names_ok mixed_ok orcA_ok po21 hin ?_ (fun qs a1 w1 hq h1 => fin qs a1 w1 (by simp [evs, SX.ev] at hq; exact hq.symm) h1)
          simp only [List.mem_cons, List.not_mem_nil, or_false, forall_eq_or_imp, forall_eq]
          simp [-holds_idx, holds_idxP, holds_cellsP, Base.ev, SX.ev, evs, Value.oneCell', la, lb, ls, ia, ib, is, ca, cb, cs, binPV, r_eqI, r_all4, rnot, hg]
        · simp only [hg, if_false] at hin
          have ia := idx3 x0 x1 x2
          have ca := cells3 x0 x1 x2
          have la := len3 x0 x1 x2
          have ib := idx3 x0 x1 x2
          have cb := cells3 x0 x1 x2
          have lb := len3 x0 x1 x2
          have is := idx3 x0 x1 x2
          have cs := cells3 x0 x1 x2
          have ls := len3 x0 x1 x2
          have ia := is
          generalize hrs : pRow encM [x0, x1, x2] = rs at *
          refine seg_ok names_ok mixed_ok orcA_ok po20 hin ?_ (fun qs a1 w1 hq h1 => fin qs a1 w1 (by simp [evs, SX.ev] at hq; exact hq.symm) h1)
          simp only [List.mem_cons, List.not_mem_nil, or_false, forall_eq_or_imp, forall_eq]
          simp [-holds_idx, holds_idxP, holds_cellsP, Base.ev, SX.ev, evs, Value.oneCell', la, lb, ls, ia, ib, is, ca, cb, cs, binPV, r_eqI, r_all4, rnot, hg]
      · rw [show (1 : Int) + ((2 : Nat) : Int) = 3 from rfl, put3, put3] at hin
        by_cases hg : x2.1 < 1 + (qq : Int)
        · simp only [hg, if_true] at hin
          have ia := idx3 x0 x1 (1 + (qq : Int), b2, b3, b4)
          have ca := cells3 x0 x1 (1 + (qq : Int), b2, b3, b4)
          have la := len3 x0 x1 (1 + (qq : Int), b2, b3, b4)
          have ib := idx3 x0 x1 (1 + (qq : Int), d2, d3, d4)
          have cb := cells3 x0 x1 (1 + (qq : Int), d2, d3, d4)
          have lb := len3 x0 x1 (1 + (qq : Int), d2, d3, d4)
          have is := idx3 x0 x1 x2
          have cs := cells3 x0 x1 x2
          have ls := len3 x0 x1 x2
          generalize hra : pRow encM [x0, x1, (1 + (qq : Int), b2, b3, b4)] = ra at *
          generalize hrb : pRow encM [x0, x1, (1 + (qq : Int), d2, d3, d4)] = rb at *
          generalize hrs : pRow encM [x0, x1, x2] = rs at *
          refine seg_ok names_ok mixed_ok orcA_ok po31 hin ?_ (fun qs a1 w1 hq h1 => fin qs a1 w1 (by simp [evs, SX.ev] at hq; exact hq.symm) h1)
          simp only [List.mem_cons, List.not_mem_nil, or_false, forall_eq_or_imp, forall_eq]
          simp [-holds_idx, holds_idxP, holds_cellsP, Base.ev, SX.ev, evs, Value.oneCell', la, lb, ls, ia, ib, is, ca, cb, cs, binPV, r_eqI, r_all4, rnot, hg]
        · simp only [hg, if_false] at hin
          have ia := idx3 x0 x1 x2
          have ca := cells3 x0 x1 x2
          have la := len3 x0 x1 x2
          have ib := idx3 x0 x1 x2
          have cb := cells3 x0 x1 x2
          have lb := len3 x0 x1 x2
          have is := idx3 x0 x1 x2
          have cs := cells3 x0 x1 x2
          have ls := len3 x0 x1 x2
          have ia := is
          generalize hrs : pRow encM [x0, x1, x2] = rs at *
          refine seg_ok names_ok mixed_ok orcA_ok po30 hin ?_ (fun qs a1 w1 hq h1 => fin qs a1 w1 (by simp [evs, SX.ev] at hq; exact hq.symm) h1)
          simp only [List.mem_cons, List.not_mem_nil, or_false, forall_eq_or_imp, forall_eq]
          simp [-holds_idx, holds_idxP, holds_cellsP, Base.ev, SX.ev, evs, Value.oneCell', la, lb, ls, ia, ib, is, ca, cb, cs, binPV, r_eqI, r_all4, rnot, hg]
    by_cases hw0 : ws = []
    · subst hw0
      have rl : (PV.row 1 [pI wx.1, pS wx.2]) = pRow encW ([] ++ [wx]) := by simp [pRow, Enc.all, encW]
      have hlx : ([] ++ [wx] : List (Int × ByteArray)).length = 1 := rfl
      generalize ([] ++ [wx] : List (Int × ByteArray)) = wl at *
      refine seg_ok names_ok mixed_ok orcA_ok fl0 h1 ?_ (fun qs a1 w1 hq h1 => ⟨fun _ => post a1 w1 (by simp [evs, SX.ev, hF, e20, e21, e22, e2, rl, binPV, w6] at hq; subst hq; exact h1), fun h => absurd rfl h⟩)
      simp only [List.mem_cons, List.not_mem_nil, or_false, forall_eq_or_imp, forall_eq]
      simp [-holds_idx, holds_idxP, holds_cellsP, Base.ev, SX.ev, evs, Value.oneCell', hF, lenPV_row, binPV, e20, e21, e22, e2, rl, w6, hlx, u20, u21, u22, u2]
    · have rc : ropPV .cat [pRow encW ws, .row 1 [pI wx.1, pS wx.2]] = some (pRow encW (ws ++ [wx])) := by simp [ropPV, pRow, Enc.all, encW]
      have hwn : 1 ≤ ws.length := by
        cases ws with
        | nil => exact absurd rfl hw0
        | cons x r => simp
      have hlx : (ws ++ [wx]).length = ws.length + 1 := by simp
      generalize ws ++ [wx] = wl at *
      refine seg_ok names_ok mixed_ok orcA_ok fl1 h1 ?_ (fun qs a1 w1 hq h1 => ⟨fun _ => post a1 w1 (by simp [evs, SX.ev, hF, e20, e21, e22, e2, rc, binPV, w6] at hq; subst hq; exact h1), fun h => absurd rfl h⟩)
      simp only [List.mem_cons, List.not_mem_nil, or_false, forall_eq_or_imp, forall_eq]
      simp [-holds_idx, holds_idxP, holds_cellsP, Base.ev, SX.ev, evs, Value.oneCell', hF, lenPV_row, lenPV_r, binPV, e20, e21, e22, e2, rc, w6, hlx, u20, u21, u22, u2]
      all_goals omega
theorem walk (w : World) (v : Value) (len : Nat) (Z : Nat → Int) (hg : IsRow .u8 w v len Z) (v1 : Value) (len1 : Nat) (Z1 : Nat → Int) (hg1 : IsRow .u8 w v1 len1 Z1) (a : Int) (wa : (Lit.int .u8 a).wf = true) (b : Int) (wb : (Lit.int .u8 b).wf = true) :
    Calls Try.prog 5 #[v, v1, .int .u8 a, .int .u8 b] w fun e w' => e = .returned (.bool true) ∧ Ex w w' := by
  obtain ⟨p, hbp, hlen, hr⟩ := rowU hg
  obtain ⟨m, hbm, hlm, hrm⟩ := rowU hg1
  obtain ⟨h0, h1⟩ := bounds_u8 wa
  obtain ⟨n, rfl⟩ : ∃ n : Nat, a = (n : Int) := ⟨a.toNat, by omega⟩
  obtain ⟨h2, h3⟩ := bounds_u8 wb
  obtain ⟨q, rfl⟩ : ∃ n : Nat, b = (n : Int) := ⟨b.toNat, by omega⟩
  refine told_true (told 0) rfl (us := [v, v1, .int .u8 (n : Int), .int .u8 (q : Int)]) (ps := [pRow encU p, pRow encU m, pU (n : Int), pU (q : Int)]) (spec_of fL ⟨p, m, n, q, hlen, hbp, hlm, hbm, by omega, by omega, rfl, rfl⟩) rfl rfl (fun i p u hp hu => ?_)
  match i, hp, hu with
  | 0, hp, hu => simp at hp hu; subst hp; subst hu; exact hr
  | 1, hp, hu => simp at hp hu; subst hp; subst hu; exact hrm
  | 2, hp, hu => simp at hp hu; subst hp; subst hu; exact plainReads rfl
  | 3, hp, hu => simp at hp hu; subst hp; subst hu; exact plainReads rfl
  | i + 4, hp, hu => simp at hp
end Go.Proofs.Ytnelcjofgpplgaa.stateMarks
