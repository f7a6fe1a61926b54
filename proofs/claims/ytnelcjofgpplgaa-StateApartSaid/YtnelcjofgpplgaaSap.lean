/- StateApart by the symbolic engine. -/
import Derived.Test.YtnelcjofgpplgaaSlc
namespace Go.Proofs.Ytnelcjofgpplgaa.stateApart
open Go Go.RowKit eng SX Fact fil fileFronts dirs pck may sta
open fileFronts
open pck hiding F F20 F21
open dirs hiding shR shRl shRR flR lpR cutR f0 f1 f2 f3 m0 m1 m2 x2 x3 n1
open may hiding m1 m2 m3 m4 r1 r2 r3 r4 r5
set_option linter.unusedVariables false
set_option linter.unusedSimpArgs false
set_option maxRecDepth 1000000

def tabA (f : FuncId) : Option FnE := cond (Nat.beq f 9) (some (ETrue 7)) (cond (Nat.beq f 14) (some (EOpen 1)) (cond (Nat.beq f 16) (some (EFlush 2)) (cond (Nat.beq f 19) (some (EOpen 3)) none)))
def tabAP (f : FuncId) : Option PtrE := cond (Nat.beq f 11) (some (ESt 24)) (cond (Nat.beq f 29) (some (ENum 20)) (cond (Nat.beq f 13) (some (EWo 22)) (cond (Nat.beq f 12) (some (ENm 23)) (cond (Nat.beq f 30) (some (EWr1 21)) none))))
def orcA : Orc := orcOr (orcFn tabA) (orcP tabAP)
def hM (f : FuncId) (o : Oper) : Option Hint := cond (pck.isApp o.op) (some .own) (some .parts)
noncomputable def flA := flat (bodyOf Try.prog 7)
noncomputable def lpA := flat (loopBody (nth flA 14))
def kbox : BoxT := ⟨66, 0, false, [.leaf, .leaf], none, false⟩
def sh0 : Shape := ⟨[(0, .leaf), (1, .leaf), (2, .leaf)], [], [some true, some true, none], 178, 7⟩
def shP : Shape := ⟨[(7, .ptr 0 0 0 0), (8, .ptr 1 0 0 0), (9, .leaf)], [sbox true, kbox], [none, some true, some true, none, some true, none], 178, 7⟩
def shA : Shape := ⟨[(7, .ptr 0 0 0 0), (8, .ptr 1 0 0 0), (9, .leaf), (10, .ptr 2 0 0 0)], [sbox true, kbox, sbox true], [none, some true, some true, none, some true, none, some true, some true, none], 178, 7⟩
def shB : Shape := ⟨[(7, .ptr 0 0 0 0), (8, .ptr 1 0 0 0), (9, .leaf), (10, .ptr 2 0 0 0), (12, .ptr 3 0 0 0)], [sbox true, kbox, sbox true, sbox true], [none, some true, some true, none, some true, none, some true, some true, none, some true, some true, none], 178, 7⟩
def shC : Shape := ⟨[(7, .ptr 0 0 0 0), (9, .leaf), (10, .ptr 1 0 0 0), (12, .ptr 2 0 0 0), (14, .ptr 3 0 0 0), (15, .ptr 4 0 0 0)], [sbox true, sbox true, sbox true, sbox true, mbox], [none, some true, some true, none, some true, some true, none, some true, some true, none, some true, some true, none, none, none, none, none], 178, 7⟩
def shL : Shape := ⟨[(7, .ptr 0 0 0 0), (9, .leaf), (10, .ptr 1 0 0 0), (12, .ptr 2 0 0 0), (14, .ptr 3 0 0 0), (15, .ptr 4 0 0 0), (16, .leaf)], [sbox true, sbox true, sbox true, sbox true, mbox], [none, none, some true, some true, none, some true, some true, none, some true, some true, none, some true, some true, none, none, none, none, none], 178, 7⟩
def shE : Shape := ⟨[(6, .leaf)], [], [none], 178, 7⟩
@[simp] def zSap1 : List SX := [.fn 22 [.con (.int .i64 3), .var 4, .var 5] 1, .fn 22 [.con (.int .i64 3), .var 4, .var 5] 2]
@[simp] def zSap2 : SX := rop ROp.notB [rop ROp.allB [rop ROp.eqS [.cell (.var 11) (.var 1) 3 0, .cell (.var 2) (.var 1) 3 0], rop ROp.eqI [.cell (.var 11) (.var 1) 3 1, .cell (.var 2) (.var 1) 3 1], rop ROp.eqS [.cell (.var 11) (.var 1) 3 2, .cell (.var 2) (.var 1) 3 2]]]
@[simp] def zSap3 : SX := .con (.int .i64 1)
@[simp] def zSap4 : SX := rop ROp.notB [rop ROp.allB [rop ROp.eqS [.cell (.var 5) (.var 1) 3 0, .cell (.var 2) (.var 1) 3 0], rop ROp.eqI [.cell (.var 5) (.var 1) 3 1, .cell (.var 2) (.var 1) 3 1], rop ROp.eqS [.cell (.var 5) (.var 1) 3 2, .cell (.var 2) (.var 1) 3 2]]]
@[simp] def zSap5 : SX := rop ROp.notB [rop ROp.allB [rop ROp.eqS [.cell (.var 8) (.var 1) 3 0, .cell (.var 2) (.var 1) 3 0], rop ROp.eqI [.cell (.var 8) (.var 1) 3 1, .cell (.var 2) (.var 1) 3 1], rop ROp.eqS [.cell (.var 8) (.var 1) 3 2, .cell (.var 2) (.var 1) 3 2]]]
@[simp] def zSap6 : List SX := [.var 1, .var 2, .var 3, zSap3, .con (.int .i64 900), .var 0, rop ROp.cat [.fn 22 [.con (.int .i64 3), .var 4, .var 5] 0, .lit 1 [.fn 21 zSap1 0, .fn 21 zSap1 1]]]
@[simp] def zSap7 : List SX := [.var 1, .var 2, .var 3, zSap3, .con (.int .i64 900), .fn 23 [.var 4, .var 5] 0]
@[simp] def zSap8 : SX := .bin .neq (.cell (.var 2) (.var 1) 3 0) (.con (.string { data := { toList := [] } }))
@[simp] def zSap9 : List SX := [.var 0, .bin .add (.var 1) zSap3, .var 2, .var 3, .var 4, .var 5, .var 6, .var 7, .var 8, .var 9, .var 10, .var 11, .var 12, .var 13, .var 14, .var 15, .var 16, .var 17]
@[simp] def zSap10 : List SX := [.var 1, .var 2, .var 3, zSap3, .con (.int .i64 900), .var 0, .lit 1 [.fn 21 zSap1 0, .fn 21 zSap1 1]]
@[simp] def zSap11 : SX := .bin .sub (.var 0) zSap3
@[simp] def zSap12 : SX := .bin .neq (.var 1) (.bin .sub (.var 16) zSap3)
@[simp] def zSap13 : SX := .bin .lss (.var 1) (.con (.int .i64 6))
@[simp] def zSap14 : List SX := [.var 1, .var 2, .var 3, zSap3, .con (.int .i64 900), .var 0]
@[simp] def zSap15 : SX := .cell (.var 2) (.var 1) 3 0
@[simp] def zSap16 : SX := .cell (.var 2) (.var 1) 3 1
@[simp] def zSap17 : SX := .cell (.var 2) (.var 1) 3 2
@[simp] def zSap18 : List SX := [.con (.int .i64 3), .var 4, .var 5]
@[simp] def zSap19 : SX := .bin .neq (.var 1) zSap11
@[simp] def zSap20 : SX := .bin .add (.var 1) zSap3
@[simp] def zSap21 : List SX := [.con (.int .i64 25), .var 0, .con (.int .i64 0)]
@[simp] def zSap22 : SX := rop ROp.allB [rop ROp.eqS [.cell (.var 8) zSap11 3 0, .con (.string { data := { toList := [] } })], rop ROp.eqI [.cell (.var 8) zSap11 3 1, .con (.int .i64 0)], rop ROp.eqS [.cell (.var 8) zSap11 3 2, .con (.string { data := { toList := [] } })]]
@[simp] def zSap23 : SX := .bin .gtr (.len (.var 0)) (.con (.int .i64 60))
@[simp] def zSap24 : SX := .lit 1 [.fn 21 zSap1 0, .fn 21 zSap1 1]
@[simp] def zSap25 : SX := .cell (.var 11) (.var 1) 3 0
@[simp] def zSap26 : SX := .cell (.var 11) (.var 1) 3 1
@[simp] def zSap27 : SX := .cell (.var 11) (.var 1) 3 2
@[simp] def zSap28 : SX := .conv .i64 (.bin .rem (.var 2) (.con (.int .u8 6)))
@[simp] def zSap29 : SX := .bin .sub (.var 16) zSap3
@[simp] def zSap30 : SX := .bin .gtr (.len (.var 1)) (.con (.int .i64 10))
@[simp] def zSap31 : SX := .len (rop ROp.cat [.fn 22 zSap18 0, zSap24])
theorem q1 : segTo Try.prog orcA 10000 flA sh0 [1, 1] shE [] hM = some (.ret, [.fn 9 (ETrue 7) [], .is (.fn 7 [] 0) (.bool true), .ok (.len (.var 0)), .ok zSap23, .is zSap23 (.bool true), .ok (.con (.bool true))], [.con (.bool true)]) := by kernel_rfl
theorem q2 : segTo Try.prog orcA 10000 flA sh0 [1, 0, 1] shE [] hM = some (.ret, [.fn 9 (ETrue 7) [], .is (.fn 7 [] 0) (.bool true), .ok (.len (.var 0)), .ok zSap23, .is zSap23 (.bool false), .ok (.len (.var 1)), .ok zSap30, .is zSap30 (.bool true), .ok (.con (.bool true))], [.con (.bool true)]) := by kernel_rfl
theorem pre : segTo Try.prog orcA 10000 (flA.take 8) sh0 [1, 0, 0] shP [(6, 0), (7, 0)] hM = some (.normal, [.fn 9 (ETrue 7) [], .is (.fn 7 [] 0) (.bool true), .ok (.len (.var 0)), .ok zSap23, .is zSap23 (.bool false), .ok (.len (.var 1)), .ok zSap30, .is zSap30 (.bool false), .fp 11 (ESt 24) zSap21, .ok (.fn 24 zSap21 2), .ok (.fn 24 zSap21 4), .ok (.bin .rem (.var 2) (.con (.int .u8 6))), .ok zSap28, .ok (.bin .add zSap3 zSap28), .ok (.bin .add zSap3 zSap28), .ok (.fn 24 zSap21 2), .ok (.con (.int .i64 0))], [.bin .add zSap3 zSap28, .fn 24 zSap21 0, .fn 24 zSap21 1, .fn 24 zSap21 2, .var 1, .con (.int .i64 0)]) := by kernel_rfl
theorem fl0 : segTo Try.prog orcA 10000 ((flA.drop 8).take 1) shP [0] shA [(0, 0), (1, 0), (11, 0)] hM = some (.normal, [.fp 13 (EWo 22) zSap18, .is (.len (.fn 22 zSap18 0)) (.int .i64 0), .ok (.fn 22 zSap18 2), .fp 30 (EWr1 21) zSap1, .ok (.fn 21 zSap1 0), .ok (.fn 21 zSap1 1), .ok (.fn 21 zSap1 3), rng (.con (.int .i64 0)) (.len zSap24), upto (.len zSap24) 4294967296, .fn 16 (EFlush 2) zSap10, same (.len zSap24) (.len zSap24), .ok (.fn 2 zSap10 2), .ok (.fn 2 zSap10 3), .ok (.fn 2 zSap10 4), .ok (.fn 2 zSap10 5), .ok (.fn 2 zSap10 6), .ok (.var 0), .ok (.var 3), .ok (.fn 21 zSap1 3), .ok (.fn 2 zSap10 2)], [.var 0, .var 1, .var 2, .var 3, .fn 21 zSap1 2, .fn 21 zSap1 3, .fn 2 zSap10 0, .fn 2 zSap10 1, .fn 2 zSap10 2]) := by kernel_rfl
theorem fl1 : segTo Try.prog orcA 10000 ((flA.drop 8).take 1) shP [1] shA [(0, 0), (1, 0), (11, 0)] hM = some (.normal, [.fp 13 (EWo 22) zSap18, rng (.con (.int .i64 0)) (.len (.fn 22 zSap18 0)), .ok (.fn 22 zSap18 2), .fp 30 (EWr1 21) zSap1, .ok (.fn 21 zSap1 0), .ok (.fn 21 zSap1 1), .ok (.fn 21 zSap1 3), same (.len (.fn 22 zSap18 0)) (.len (.fn 22 zSap18 0)), upto zSap31 4294967296, .fn 16 (EFlush 2) zSap6, same zSap31 zSap31, .ok (.fn 2 zSap6 2), .ok (.fn 2 zSap6 3), .ok (.fn 2 zSap6 4), .ok (.fn 2 zSap6 5), .ok (.fn 2 zSap6 6), .ok (.var 0), .ok (.var 3), .ok (.fn 21 zSap1 3), .ok (.fn 2 zSap6 2)], [.var 0, .var 1, .var 2, .var 3, .fn 21 zSap1 2, .fn 21 zSap1 3, .fn 2 zSap6 0, .fn 2 zSap6 1, .fn 2 zSap6 2]) := by kernel_rfl
theorem gon : segTo Try.prog orcA 10000 ((flA.drop 9).take 1) shA [] shB [(0, 0), (1, 0), (2, 0), (10, 0)] hM = some (.normal, [.fn 19 (EOpen 3) zSap14, .ok (.fn 3 zSap14 2), .ok (.fn 3 zSap14 3), .ok (.fn 3 zSap14 4), .ok (.fn 3 zSap14 5), .ok (.fn 3 zSap14 6), .ok (.var 0), .ok (.var 3), .ok (.var 5), .ok (.var 8), .ok (.fn 3 zSap14 2)], [.var 0, .var 1, .var 2, .var 3, .var 4, .var 5, .var 6, .var 7, .var 8, .fn 3 zSap14 0, .fn 3 zSap14 1, .fn 3 zSap14 2]) := by kernel_rfl
theorem opn : segTo Try.prog orcA 10000 ((flA.drop 10).take 1) shB [] shC [(0, 0), (2, 0), (3, 0), (14, 0), (15, 0)] hM = some (.normal, [.fp 12 (ENm 23) [.var 4, .var 5], .ok (.fn 23 [.var 4, .var 5] 0), .ok (.fn 23 [.var 4, .var 5] 2), .fn 14 (EOpen 1) zSap7, .ok (.fn 1 zSap7 2), .ok (.fn 1 zSap7 3), .ok (.fn 1 zSap7 4), .ok (.fn 1 zSap7 5), .ok (.fn 1 zSap7 6), .ok (.var 0), .ok (.var 3), .ok (.var 8), .ok (.var 11), .ok (.fn 1 zSap7 2), .ok (.fn 1 zSap7 3), .ok (.fn 1 zSap7 4), .ok (.fn 1 zSap7 5), .ok (.fn 1 zSap7 6)], [.var 0, .var 1, .var 2, .var 3, .var 6, .var 7, .var 8, .var 9, .var 10, .var 11, .fn 1 zSap7 0, .fn 1 zSap7 1, .fn 1 zSap7 2, .fn 1 zSap7 3, .fn 1 zSap7 4, .fn 1 zSap7 5, .fn 1 zSap7 6]) := by kernel_rfl
theorem lns : segTo Try.prog orcA 10000 ((flA.drop 11).take 3) shC [0, 0, 0] shL [(0, 0), (1, 0), (2, 0), (3, 0), (4, 0)] hM = some (.normal, [.ok (.len (.var 4)), .ok (.bin .neq (.len (.var 4)) (.con (.int .i64 6))), .is (.bin .neq (.len (.var 4)) (.con (.int .i64 6))) (.bool false), .ok (.len (.var 7)), .ok (.bin .neq (.len (.var 7)) (.con (.int .i64 6))), .is (.bin .neq (.len (.var 7)) (.con (.int .i64 6))) (.bool false), .ok (.len (.var 10)), .ok (.bin .neq (.len (.var 10)) (.con (.int .i64 6))), .is (.bin .neq (.len (.var 10)) (.con (.int .i64 6))) (.bool false), .ok (.var 0), .ok (.con (.int .i64 0)), .ok (.var 3), .ok (.var 6), .ok (.var 9), .ok (.var 12), .ok (.var 13), .ok (.var 14), .ok (.var 15), .ok (.var 16)], [.var 0, .con (.int .i64 0), .var 1, .var 2, .var 3, .var 4, .var 5, .var 6, .var 7, .var 8, .var 9, .var 10, .var 11, .var 12, .var 13, .var 14, .var 15, .var 16]) := by kernel_rfl
theorem lx : segTo Try.prog orcA 10000 lpA shL [0] shL [(0, 0), (1, 0), (2, 0), (3, 0), (4, 0)] hM = some (.exit 0, [.ok zSap13, .is zSap13 (.bool false), .ok (.var 0), .ok (.var 1), .ok (.var 4), .ok (.var 7), .ok (.var 10), .ok (.var 13), .ok (.var 14), .ok (.var 15), .ok (.var 16), .ok (.var 17)], [.var 0, .var 1, .var 2, .var 3, .var 4, .var 5, .var 6, .var 7, .var 8, .var 9, .var 10, .var 11, .var 12, .var 13, .var 14, .var 15, .var 16, .var 17]) := by kernel_rfl
theorem l000 : segTo Try.prog orcA 10000 lpA shL [1, 0, 0, 0] shL [(0, 0), (1, 0), (2, 0), (3, 0), (4, 0)] hM = some (.normal, [.ok zSap13, .is zSap13 (.bool true), .ok zSap11, .ok zSap19, .is zSap19 (.bool false), .ok zSap29, .ok zSap12, .is zSap12 (.bool false), .idx (.var 2) (.var 1) 3 3, .idx (.var 2) (.var 1) 3 1, .ok zSap15, .ok zSap8, .is zSap8 (.bool false), .ok zSap20, .ok (.var 0), .ok zSap20, .ok (.var 4), .ok (.var 7), .ok (.var 10), .ok (.var 13), .ok (.var 14), .ok (.var 15), .ok (.var 16), .ok (.var 17)], zSap9) := by kernel_rfl
theorem l001 : segTo Try.prog orcA 10000 lpA shL [1, 0, 0, 1, 0] shL [(0, 0), (1, 0), (2, 0), (3, 0), (4, 0)] hM = some (.normal, [.ok zSap13, .is zSap13 (.bool true), .ok zSap11, .ok zSap19, .is zSap19 (.bool false), .ok zSap29, .ok zSap12, .is zSap12 (.bool false), .idx (.var 2) (.var 1) 3 3, .idx (.var 2) (.var 1) 3 1, .ok zSap15, .ok zSap8, .is zSap8 (.bool true), .idx (.var 11) (.var 1) 3 3, .idx (.var 11) (.var 1) 3 3, .ok zSap25, .ok zSap26, .ok zSap27, .idx (.var 2) (.var 1) 3 3, .idx (.var 2) (.var 1) 3 3, .ok zSap15, .ok zSap16, .ok zSap17, .ok zSap2, .is zSap2 (.bool false), .ok zSap20, .ok (.var 0), .ok zSap20, .ok (.var 4), .ok (.var 7), .ok (.var 10), .ok (.var 13), .ok (.var 14), .ok (.var 15), .ok (.var 16), .ok (.var 17)], zSap9) := by kernel_rfl
theorem l010 : segTo Try.prog orcA 10000 lpA shL [1, 0, 1, 0, 0] shL [(0, 0), (1, 0), (2, 0), (3, 0), (4, 0)] hM = some (.normal, [.ok zSap13, .is zSap13 (.bool true), .ok zSap11, .ok zSap19, .is zSap19 (.bool false), .ok zSap29, .ok zSap12, .is zSap12 (.bool true), .idx (.var 11) (.var 1) 3 3, .idx (.var 11) (.var 1) 3 3, .ok zSap25, .ok zSap26, .ok zSap27, .idx (.var 2) (.var 1) 3 3, .idx (.var 2) (.var 1) 3 3, .ok zSap15, .ok zSap16, .ok zSap17, .ok zSap2, .is zSap2 (.bool false), .idx (.var 2) (.var 1) 3 3, .idx (.var 2) (.var 1) 3 1, .ok zSap15, .ok zSap8, .is zSap8 (.bool false), .ok zSap20, .ok (.var 0), .ok zSap20, .ok (.var 4), .ok (.var 7), .ok (.var 10), .ok (.var 13), .ok (.var 14), .ok (.var 15), .ok (.var 16), .ok (.var 17)], zSap9) := by kernel_rfl
theorem l011 : segTo Try.prog orcA 10000 lpA shL [1, 0, 1, 0, 1, 0] shL [(0, 0), (1, 0), (2, 0), (3, 0), (4, 0)] hM = some (.normal, [.ok zSap13, .is zSap13 (.bool true), .ok zSap11, .ok zSap19, .is zSap19 (.bool false), .ok zSap29, .ok zSap12, .is zSap12 (.bool true), .idx (.var 11) (.var 1) 3 3, .idx (.var 11) (.var 1) 3 3, .ok zSap25, .ok zSap26, .ok zSap27, .idx (.var 2) (.var 1) 3 3, .idx (.var 2) (.var 1) 3 3, .ok zSap15, .ok zSap16, .ok zSap17, .ok zSap2, .is zSap2 (.bool false), .idx (.var 2) (.var 1) 3 3, .idx (.var 2) (.var 1) 3 1, .ok zSap15, .ok zSap8, .is zSap8 (.bool true), .idx (.var 11) (.var 1) 3 3, .idx (.var 11) (.var 1) 3 3, .ok zSap25, .ok zSap26, .ok zSap27, .idx (.var 2) (.var 1) 3 3, .idx (.var 2) (.var 1) 3 3, .ok zSap15, .ok zSap16, .ok zSap17, .ok zSap2, .is zSap2 (.bool false), .ok zSap20, .ok (.var 0), .ok zSap20, .ok (.var 4), .ok (.var 7), .ok (.var 10), .ok (.var 13), .ok (.var 14), .ok (.var 15), .ok (.var 16), .ok (.var 17)], zSap9) := by kernel_rfl
theorem l100 : segTo Try.prog orcA 10000 lpA shL [1, 1, 0, 0, 0, 0] shL [(0, 0), (1, 0), (2, 0), (3, 0), (4, 0)] hM = some (.normal, [.ok zSap13, .is zSap13 (.bool true), .ok zSap11, .ok zSap19, .is zSap19 (.bool true), .idx (.var 5) (.var 1) 3 3, .idx (.var 5) (.var 1) 3 3, .ok (.cell (.var 5) (.var 1) 3 0), .ok (.cell (.var 5) (.var 1) 3 1), .ok (.cell (.var 5) (.var 1) 3 2), .idx (.var 2) (.var 1) 3 3, .idx (.var 2) (.var 1) 3 3, .ok zSap15, .ok zSap16, .ok zSap17, .ok zSap4, .is zSap4 (.bool false), .idx (.var 8) (.var 1) 3 3, .idx (.var 8) (.var 1) 3 3, .ok (.cell (.var 8) (.var 1) 3 0), .ok (.cell (.var 8) (.var 1) 3 1), .ok (.cell (.var 8) (.var 1) 3 2), .idx (.var 2) (.var 1) 3 3, .idx (.var 2) (.var 1) 3 3, .ok zSap15, .ok zSap16, .ok zSap17, .ok zSap5, .is zSap5 (.bool false), .ok zSap29, .ok zSap12, .is zSap12 (.bool false), .idx (.var 2) (.var 1) 3 3, .idx (.var 2) (.var 1) 3 1, .ok zSap15, .ok zSap8, .is zSap8 (.bool false), .ok zSap20, .ok (.var 0), .ok zSap20, .ok (.var 4), .ok (.var 7), .ok (.var 10), .ok (.var 13), .ok (.var 14), .ok (.var 15), .ok (.var 16), .ok (.var 17)], zSap9) := by kernel_rfl
theorem l101 : segTo Try.prog orcA 10000 lpA shL [1, 1, 0, 0, 0, 1, 0] shL [(0, 0), (1, 0), (2, 0), (3, 0), (4, 0)] hM = some (.normal, [.ok zSap13, .is zSap13 (.bool true), .ok zSap11, .ok zSap19, .is zSap19 (.bool true), .idx (.var 5) (.var 1) 3 3, .idx (.var 5) (.var 1) 3 3, .ok (.cell (.var 5) (.var 1) 3 0), .ok (.cell (.var 5) (.var 1) 3 1), .ok (.cell (.var 5) (.var 1) 3 2), .idx (.var 2) (.var 1) 3 3, .idx (.var 2) (.var 1) 3 3, .ok zSap15, .ok zSap16, .ok zSap17, .ok zSap4, .is zSap4 (.bool false), .idx (.var 8) (.var 1) 3 3, .idx (.var 8) (.var 1) 3 3, .ok (.cell (.var 8) (.var 1) 3 0), .ok (.cell (.var 8) (.var 1) 3 1), .ok (.cell (.var 8) (.var 1) 3 2), .idx (.var 2) (.var 1) 3 3, .idx (.var 2) (.var 1) 3 3, .ok zSap15, .ok zSap16, .ok zSap17, .ok zSap5, .is zSap5 (.bool false), .ok zSap29, .ok zSap12, .is zSap12 (.bool false), .idx (.var 2) (.var 1) 3 3, .idx (.var 2) (.var 1) 3 1, .ok zSap15, .ok zSap8, .is zSap8 (.bool true), .idx (.var 11) (.var 1) 3 3, .idx (.var 11) (.var 1) 3 3, .ok zSap25, .ok zSap26, .ok zSap27, .idx (.var 2) (.var 1) 3 3, .idx (.var 2) (.var 1) 3 3, .ok zSap15, .ok zSap16, .ok zSap17, .ok zSap2, .is zSap2 (.bool false), .ok zSap20, .ok (.var 0), .ok zSap20, .ok (.var 4), .ok (.var 7), .ok (.var 10), .ok (.var 13), .ok (.var 14), .ok (.var 15), .ok (.var 16), .ok (.var 17)], zSap9) := by kernel_rfl
theorem l110 : segTo Try.prog orcA 10000 lpA shL [1, 1, 0, 0, 1, 0, 0] shL [(0, 0), (1, 0), (2, 0), (3, 0), (4, 0)] hM = some (.normal, [.ok zSap13, .is zSap13 (.bool true), .ok zSap11, .ok zSap19, .is zSap19 (.bool true), .idx (.var 5) (.var 1) 3 3, .idx (.var 5) (.var 1) 3 3, .ok (.cell (.var 5) (.var 1) 3 0), .ok (.cell (.var 5) (.var 1) 3 1), .ok (.cell (.var 5) (.var 1) 3 2), .idx (.var 2) (.var 1) 3 3, .idx (.var 2) (.var 1) 3 3, .ok zSap15, .ok zSap16, .ok zSap17, .ok zSap4, .is zSap4 (.bool false), .idx (.var 8) (.var 1) 3 3, .idx (.var 8) (.var 1) 3 3, .ok (.cell (.var 8) (.var 1) 3 0), .ok (.cell (.var 8) (.var 1) 3 1), .ok (.cell (.var 8) (.var 1) 3 2), .idx (.var 2) (.var 1) 3 3, .idx (.var 2) (.var 1) 3 3, .ok zSap15, .ok zSap16, .ok zSap17, .ok zSap5, .is zSap5 (.bool false), .ok zSap29, .ok zSap12, .is zSap12 (.bool true), .idx (.var 11) (.var 1) 3 3, .idx (.var 11) (.var 1) 3 3, .ok zSap25, .ok zSap26, .ok zSap27, .idx (.var 2) (.var 1) 3 3, .idx (.var 2) (.var 1) 3 3, .ok zSap15, .ok zSap16, .ok zSap17, .ok zSap2, .is zSap2 (.bool false), .idx (.var 2) (.var 1) 3 3, .idx (.var 2) (.var 1) 3 1, .ok zSap15, .ok zSap8, .is zSap8 (.bool false), .ok zSap20, .ok (.var 0), .ok zSap20, .ok (.var 4), .ok (.var 7), .ok (.var 10), .ok (.var 13), .ok (.var 14), .ok (.var 15), .ok (.var 16), .ok (.var 17)], zSap9) := by kernel_rfl
theorem l111 : segTo Try.prog orcA 10000 lpA shL [1, 1, 0, 0, 1, 0, 1, 0] shL [(0, 0), (1, 0), (2, 0), (3, 0), (4, 0)] hM = some (.normal, [.ok zSap13, .is zSap13 (.bool true), .ok zSap11, .ok zSap19, .is zSap19 (.bool true), .idx (.var 5) (.var 1) 3 3, .idx (.var 5) (.var 1) 3 3, .ok (.cell (.var 5) (.var 1) 3 0), .ok (.cell (.var 5) (.var 1) 3 1), .ok (.cell (.var 5) (.var 1) 3 2), .idx (.var 2) (.var 1) 3 3, .idx (.var 2) (.var 1) 3 3, .ok zSap15, .ok zSap16, .ok zSap17, .ok zSap4, .is zSap4 (.bool false), .idx (.var 8) (.var 1) 3 3, .idx (.var 8) (.var 1) 3 3, .ok (.cell (.var 8) (.var 1) 3 0), .ok (.cell (.var 8) (.var 1) 3 1), .ok (.cell (.var 8) (.var 1) 3 2), .idx (.var 2) (.var 1) 3 3, .idx (.var 2) (.var 1) 3 3, .ok zSap15, .ok zSap16, .ok zSap17, .ok zSap5, .is zSap5 (.bool false), .ok zSap29, .ok zSap12, .is zSap12 (.bool true), .idx (.var 11) (.var 1) 3 3, .idx (.var 11) (.var 1) 3 3, .ok zSap25, .ok zSap26, .ok zSap27, .idx (.var 2) (.var 1) 3 3, .idx (.var 2) (.var 1) 3 3, .ok zSap15, .ok zSap16, .ok zSap17, .ok zSap2, .is zSap2 (.bool false), .idx (.var 2) (.var 1) 3 3, .idx (.var 2) (.var 1) 3 1, .ok zSap15, .ok zSap8, .is zSap8 (.bool true), .idx (.var 11) (.var 1) 3 3, .idx (.var 11) (.var 1) 3 3, .ok zSap25, .ok zSap26, .ok zSap27, .idx (.var 2) (.var 1) 3 3, .idx (.var 2) (.var 1) 3 3, .ok zSap15, .ok zSap16, .ok zSap17, .ok zSap2, .is zSap2 (.bool false), .ok zSap20, .ok (.var 0), .ok zSap20, .ok (.var 4), .ok (.var 7), .ok (.var 10), .ok (.var 13), .ok (.var 14), .ok (.var 15), .ok (.var 16), .ok (.var 17)], zSap9) := by kernel_rfl
theorem post : segTo Try.prog orcA 10000 (flA.drop 15) shL [1, 1] shE [] hM = some (.ret, [.ok zSap11, .idx (.var 5) zSap11 3 3, .idx (.var 5) zSap11 3 1, .ok (.cell (.var 5) zSap11 3 0), .ok zSap11, .idx (.var 2) zSap11 3 3, .idx (.var 2) zSap11 3 1, .ok (.cell (.var 2) zSap11 3 0), .ok (.bin .eql (.cell (.var 5) zSap11 3 0) (.cell (.var 2) zSap11 3 0)), .is (.bin .eql (.cell (.var 5) zSap11 3 0) (.cell (.var 2) zSap11 3 0)) (.bool true), .ok zSap11, .idx (.var 8) zSap11 3 3, .idx (.var 8) zSap11 3 3, .ok (.cell (.var 8) zSap11 3 0), .ok (.cell (.var 8) zSap11 3 1), .ok (.cell (.var 8) zSap11 3 2), .ok zSap22, .is zSap22 (.bool true), .ok (.con (.bool true))], [.con (.bool true)]) := by kernel_rfl

def ELaw (k : Nat) : FnE := { k := k, ins := [none, none, none], leaks := [true, true, false], outs := [none], kinds := [.truth] }
def RL (ps qs : List PV) : Prop := ∃ (p m : List Nat) (c : Nat), p.length ≤ 9223372036854775807 ∧ (∀ z ∈ p, z < 256) ∧ m.length ≤ 9223372036854775807 ∧ (∀ z ∈ m, z < 256) ∧ c < 256 ∧ ps = [pRow encU p, pRow encU m, pU (c : Int)] ∧ qs = [pB true]
theorem fL : ∀ ps q1 q2, RL ps q1 → RL ps q2 → q1 = q2 := by
  rintro ps q1 q2 ⟨_, _, _, _, _, _, _, _, _, rfl⟩ ⟨_, _, _, _, _, _, _, _, _, rfl⟩; rfl
noncomputable def G : Fns := fun k => match k with | 1 => spec ROpenP | 2 => spec RFlushP | 3 => spec RGoneP | 7 => spec RTrue | 21 => spec RWr1 | 22 => spec RWs | 23 => spec RNm | 24 => spec RSt | _ => fun _ => none
theorem u1 : ToldF 14 (EOpen 1) (G 1) := toldOpenP 1
theorem u2 : ToldF 16 (EFlush 2) (G 2) := toldFlushP 2
theorem u3 : ToldF 19 (EOpen 3) (G 3) := toldGoneP 3
theorem u7 : ToldF 9 (ETrue 7) (G 7) := told_closed 7 fun w => calls_true names_ok mixed_ok fil.noOrc_ok (args := []) ranB w
theorem u21 : ToldP 30 (EWr1 21) (G 21) := toldWr1 21
theorem u22 : ToldP 13 (EWo 22) (G 22) := toldWo 22
theorem u23 : ToldP 12 (ENm 23) (G 23) := toldNm 23
theorem u24 : ToldP 11 (ESt 24) (G 24) := toldSt 24
theorem G7 : G 7 [] = some [pB true] := spec_of fTrue ⟨rfl, rfl⟩
theorem orcA_ok : OrcOk Try.prog orcA := orcOr_ok (orcFn_ok tabA) (orcP_ok tabAP)
@[simp] theorem kWo (k : Nat) : (EWo k).k = k := rfl
theorem cutA : flA = flA.take 8 ++ ((flA.drop 8).take 1 ++ ((flA.drop 9).take 1 ++ ((flA.drop 10).take 1 ++ ((flA.drop 11).take 3 ++ .block (blockId (nth flA 14)) (.loop (loopBody (nth flA 14))) :: flA.drop 15)))) := by kernel_rfl
/-- Which files a deed leaves. -/
theorem flush_files {s : StM} {j : Nat} (hj : j < s.files.length) (c q : Int) (l : List (Int × ByteArray)) : (flushS s c q ((j : Int) + 1) l).1.files.length = s.files.length ∧ (∀ i, i ≠ j → (flushS s c q ((j : Int) + 1) l).1.files[i]? = s.files[i]?) ∧ ((flushS s c q ((j : Int) + 1) l).1.files[j]?).map Prod.fst = (s.files[j]?).map Prod.fst := by
  have hx : ((j : Int) + 1).toNat - 1 = j := by omega
  have hy : (0 : Int) < (j : Int) + 1 := by omega
  have hg : s.files.getD j f00 = s.files[j] := by simp [List.getD, hj]
  unfold flushS
  split
  · split
    · simp only [marked, hx, hy, if_true, hg, written]
      refine ⟨by simp, fun i hi => ?_, ?_⟩
      · rw [List.getElem?_set_ne (fun h => hi h.symm)]
      · rw [List.getElem?_set_self hj, List.getElem?_eq_getElem hj]; rfl
    · exact ⟨rfl, fun _ _ => rfl, rfl⟩
  · exact ⟨rfl, fun _ _ => rfl, rfl⟩
theorem gone_files {s : StM} (h : MayS s) {j : Nat} (hj : j < s.files.length) (c q : Int) : (goneS s c q ((j : Int) + 1)).1.files.length = s.files.length ∧ (∀ i, i ≠ j → (goneS s c q ((j : Int) + 1)).1.files[i]? = s.files[i]?) ∧ ((goneS s c q ((j : Int) + 1)).1.files[j]?) = some f00 := by
  have hx : ((j : Int) + 1).toNat - 1 = j := by omega
  have hy : (0 : Int) < (j : Int) + 1 := by omega
  have hg : s.files.getD j f00 = s.files[j] := by simp [List.getD, hj]
  cases hF : isF s ((j : Int) + 1) with
  | true =>
    simp only [goneS, hF, if_true, marked, hx, hy]
    refine ⟨by simp, fun i hi => ?_, ?_⟩
    · rw [List.getElem?_set_ne (fun h => hi h.symm)]
    · rw [List.getElem?_set_self hj]
  | false =>
    simp only [goneS, hF, Bool.false_eq_true, if_false, marked]
    refine ⟨rfl, fun _ _ => rfl, ?_⟩
    have this : (s.files[j]?.getD f00).1.toList = e0.toList := by
      have h1 : (1 : Int) ≤ (j : Int) + 1 := by omega
      have h2 : (j : Int) + 1 ≤ (s.files.length : Int) := by omega
      simpa [sta.isF, hx, h1, h2] using hF
    rw [show s.files[j]?.getD f00 = s.files[j] by simp [hj]] at this
    have hn := tl_inj this
    show s.files[j]? = some f00
    rw [List.getElem?_eq_getElem hj]
    rcases h.fv j hj with h0 | ⟨h1, _⟩
    · rw [isE0_eq h0]
    · have := (findN_some.1 h1).1
      rw [hn] at this
      exact absurd this (by decide)
theorem open_files {s : StM} (c q : Int) (name : ByteArray) : (openS s c q name).1.files.length = s.files.length ∧ (∀ i : Nat, (i : Int) + 1 ≠ (openS s c q name).2.2.2.1 → (openS s c q name).1.files[i]? = s.files[i]?) ∧ (∀ (i : Nat) (hi : i < s.files.length), s.files[i].1 ≠ e0 → (openS s c q name).1.files[i]? = s.files[i]?) := by
  unfold openS
  split
  · split
    · exact ⟨rfl, fun _ _ => rfl, fun _ _ _ => rfl⟩
    · split
      · rename_i j hr
        obtain ⟨hj, hn, _⟩ := List.findIdx?_eq_some_iff_getElem.1 hr
        have hx : ((j : Int) + 1).toNat - 1 = j := by omega
        have hy : (0 : Int) < (j : Int) + 1 := by omega
        simp only [marked, hx, hy, if_true]
        refine ⟨by simp, fun i hi => ?_, fun i hi h0 => ?_⟩
        · rw [List.getElem?_set_ne (by omega)]
        · rw [List.getElem?_set_ne]
          rintro rfl
          exact h0 (isN_iff.1 hn)
      · exact ⟨rfl, fun _ _ => rfl, fun _ _ _ => rfl⟩
  · exact ⟨rfl, fun _ _ => rfl, fun _ _ _ => rfl⟩
theorem at_same {α : Type} {l l' : List α} {i : Nat} (h : l[i]? = l'[i]?) (h1 : i < l.length) (h2 : i < l'.length) : l[i] = l'[i] := by
  rw [List.getElem?_eq_getElem h1, List.getElem?_eq_getElem h2] at h
  exact Option.some.inj h
set_option maxHeartbeats 4000000 in
theorem told (k0 : Nat) : ToldF 7 (ELaw k0) (spec RL) := by
  refine told_by G _ (bodyOf Try.prog 7) Try.func7 (by kernel_rfl) sh0 (by kernel_rfl) ?_ ?_
  · intro ps qs h i hi
    obtain ⟨p, m, c, _, _, _, _, _, rfl, rfl⟩ := of_spec h
    simp [sh0] at hi
    match i, hi with
    | 0, hi => simp at hi
    | 1, hi => simp at hi
    | 2, hi => exact ⟨_, rfl, rfl⟩
    | i + 3, hi => simp at hi
  · intro C ps qs hF h a w hsh
    obtain ⟨p, m, c, hp, hz, hm, hzm, hc, rfl, rfl⟩ := of_spec h
    show wpL Try.prog flA _ a w
    have fin : ∀ qs a1 w1, qs = [pB true] → InShape C shE qs a1 w1 → (AX.ret = .normal → wpL Try.prog [] (fun e a' w' => (e = .normal ∨ e = .ret) ∧ ∃ sh' ps' es, InShape C sh' ps' a' w' ∧ resTo Try.prog Try.f7 sh' (ELaw k0) = some es ∧ evs (fun i => ps'[i]?) G es = some [pB true]) a1 w1) ∧ (AX.ret ≠ .normal → (AX.ret.to = .normal ∨ AX.ret.to = .ret) ∧ ∃ sh' ps' es, InShape C sh' ps' a1 w1 ∧ resTo Try.prog Try.f7 sh' (ELaw k0) = some es ∧ evs (fun i => ps'[i]?) G es = some [pB true]) := by
      rintro qs a1 w1 rfl h1
      exact ⟨fun h => (by cases h), fun _ => ⟨.inr rfl, shE, _, [SX.var 0], h1, by kernel_rfl, rfl⟩⟩
    by_cases hp1 : 60 < p.length
    · rw [← List.append_nil flA]
      refine seg_ok names_ok mixed_ok orcA_ok stateApart.q1 hsh ?_ (fun qs a1 w1 hq h1 => fin qs a1 w1 (by simp [evs, SX.ev] at hq; exact hq.symm) h1)
      simp only [List.mem_cons, List.not_mem_nil, or_false, forall_eq_or_imp, forall_eq]
      simp [-holds_idx, holds_idxP, holds_cellsP, Base.ev, SX.ev, evs, Value.oneCell', hF, lenPV_row, binPV, G7, u7]
      all_goals omega
    by_cases hm1 : 10 < m.length
    · rw [← List.append_nil flA]
      refine seg_ok names_ok mixed_ok orcA_ok q2 hsh ?_ (fun qs a1 w1 hq h1 => fin qs a1 w1 (by simp [evs, SX.ev] at hq; exact hq.symm) h1)
      simp only [List.mem_cons, List.not_mem_nil, or_false, forall_eq_or_imp, forall_eq]
      simp [-holds_idx, holds_idxP, holds_cellsP, Base.ev, SX.ev, evs, Value.oneCell', hF, lenPV_row, binPV, G7, u7]
      all_goals omega
    rw [cutA]
    obtain ⟨s, n2, md, e24⟩ := made (p := p) (by omega) hz
    have e24 : G 24 [pI 25, pRow encU p, pI 0] = some [pRow encF s.files, pRow encM s.marks, pI s.epoch, pRow encU p, pI (n2 : Int)] := e24
    have hfl : s.files.length = 6 := md.may.fl
    have hrc : c % 6 < 6 := Nat.mod_lt _ (by omega)
    have wtc : ((c : Int).tmod 6) = ((c % 6 : Nat) : Int) := rfl
    generalize c % 6 = j at *
    have wc : IntKind.i64.wrap (j : Int) = (j : Int) := wrapI _ (by omega) (by omega)
    have wc1 : IntKind.i64.wrap (1 + (j : Int)) = 1 + (j : Int) := wrapI _ (by omega) (by omega)
    refine seg_ok names_ok mixed_ok orcA_ok pre hsh ?_ ?_
    · simp only [List.mem_cons, List.not_mem_nil, or_false, forall_eq_or_imp, forall_eq]
      simp [-holds_idx, holds_idxP, holds_cellsP, Base.ev, SX.ev, evs, Value.oneCell', hF, lenPV_row, binPV, convPV, wtc, wc, wc1, G7, u7, e24, u24]
      all_goals omega
    intro qs a1 w1 hq h1
    refine ⟨fun _ => ?_, fun h => absurd rfl h⟩
    simp [evs, SX.ev, hF, e24, binPV, convPV, wtc, wc, wc1] at hq
    subst hq
    -- written
    have okm2 : OkP m 0 := ⟨by omega, by omega, hzm⟩
    have e22 : G 22 [pI 3, pRow encU m, pI 0] = some [pRow encW (writes m 0 3).1, pRow encU m, pI ((writes m 0 3).2 : Int)] := spec_of fWs ⟨3, 0, m, by omega, okm2, rfl, rfl⟩
    have okm3 := writes_n (most := 3) okm2
    have hws := some_writes m 0 3
    have hwl := writes_len m 0 3
    generalize (writes m 0 3).1 = ws at *
    generalize (writes m 0 3).2 = n4 at *
    have e21 : G 21 [pRow encU m, pI (n4 : Int)] = some [pI (wr1 m n4).1.1, pS (wr1 m n4).1.2, pRow encU m, pI ((wr1 m n4).2 : Int)] := spec_of fWr1 ⟨n4, m, okm3, rfl, rfl⟩
    have hw1 := one_write m n4
    have okm4 : OkP m (wr1 m n4).2 := pck.okW okm3
    generalize (wr1 m n4).1 = wx at *
    generalize (wr1 m n4).2 = n5 at *
    have hwf : ∀ w ∈ ws ++ [wx], -9223372036854775808 ≤ w.1 ∧ w.1 ≤ 9223372036854775807 ∧ w.2.size ≤ 1000000 := fun w hw => by
      rcases List.mem_append.1 hw with h | h
      · have := hws w h; omega
      · simp only [List.mem_singleton] at h; subst h; omega
    have hj : j < s.files.length := by omega
    have hjc : (1 : Int) + (j : Int) = (j : Int) + 1 := by omega
    have e2 : G 2 [pRow encF s.files, pRow encM s.marks, pI s.epoch, pI 1, pI 900, pI (1 + (j : Int)), pRow encW (ws ++ [wx])] = some (pSt (flushS s 1 900 ((j : Int) + 1) (ws ++ [wx])).1 ++ pMk (flushS s 1 900 ((j : Int) + 1) (ws ++ [wx])).2) := by
      rw [hjc]
      exact spec_of fFlushP ⟨s, _, _, _, ws ++ [wx], md.may, by omega, by omega, by omega, by omega, by omega, by omega, by simp; omega, hwf, rfl, rfl⟩
    obtain ⟨ha1, ha2, ha3⟩ := flush_files hj 1 900 (ws ++ [wx])
    generalize (flushS s 1 900 ((j : Int) + 1) (ws ++ [wx])).1 = sa at *
    generalize (flushS s 1 900 ((j : Int) + 1) (ws ++ [wx])).2 = ka at *
    -- gone
    have e3 : G 3 [pRow encF s.files, pRow encM s.marks, pI s.epoch, pI 1, pI 900, pI (1 + (j : Int))] = some (pSt (goneS s 1 900 ((j : Int) + 1)).1 ++ pMk (goneS s 1 900 ((j : Int) + 1)).2) := by
      rw [hjc]
      exact spec_of fGoneP ⟨s, _, _, _, md.may, by omega, by omega, by omega, by omega, by omega, by omega, rfl, rfl⟩
    obtain ⟨hb1, hb2, hb3⟩ := gone_files md.may hj 1 900
    generalize (goneS s 1 900 ((j : Int) + 1)).1 = sb at *
    generalize (goneS s 1 900 ((j : Int) + 1)).2 = kb at *
    -- opened
    have e23 : G 23 [pRow encU m, pI (n5 : Int)] = some [pS (nmt (numV m n5 10)), pRow encU m, pI (numN m n5 : Int)] := spec_of fNm ⟨n5, m, okm4, rfl, rfl⟩
    have hns := nmt_size (numV m n5 10)
    generalize nmt (numV m n5 10) = nm at *
    generalize numN m n5 = n6 at *
    have e1 : G 1 [pRow encF s.files, pRow encM s.marks, pI s.epoch, pI 1, pI 900, pS nm] = some (pSt (openS s 1 900 nm).1 ++ pMk (openS s 1 900 nm).2) := spec_of fOpenP ⟨s, _, _, nm, md.may, by omega, by omega, by omega, by omega, by omega, rfl, rfl⟩
    obtain ⟨hc1, hc2, hc3⟩ := open_files (s := s) 1 900 nm
    have hmf : 0 ≤ (openS s 1 900 nm).2.2.2.1 ∧ (openS s 1 900 nm).2.2.2.1 ≤ 1000000 := by
      unfold openS
      split
      · split
        · rename_i i hi
          obtain ⟨h2, _⟩ := List.findIdx?_eq_some_iff_getElem.1 hi
          simp only; omega
        · split
          · rename_i i hi
            obtain ⟨h2, _⟩ := List.findIdx?_eq_some_iff_getElem.1 hi
            simp only; omega
          · simp
      · simp
    generalize (openS s 1 900 nm).1 = sc at *
    generalize (openS s 1 900 nm).2 = kc at *
    obtain ⟨k1, k2, k3, k4⟩ := kc
    simp only at hc2 hmf
    -- behind the deeds
    have post : ∀ a w, InShape C shA [pI (1 + (j : Int)), pRow encF s.files, pRow encM s.marks, pI s.epoch, pRow encU m, pI (n5 : Int), pRow encF sa.files, pRow encM sa.marks, pI sa.epoch] a w → wpL Try.prog ((flA.drop 9).take 1 ++ ((flA.drop 10).take 1 ++ ((flA.drop 11).take 3 ++ .block (blockId (nth flA 14)) (.loop (loopBody (nth flA 14))) :: flA.drop 15))) (fun e a' w' => (e = .normal ∨ e = .ret) ∧ ∃ sh' ps' es, InShape C sh' ps' a' w' ∧ resTo Try.prog Try.f7 sh' (ELaw k0) = some es ∧ evs (fun i => ps'[i]?) G es = some [pB true]) a w := by
      clear e2 e21 e22 e24 hsh h1 hws hwf
      intro a w hin
      refine seg_ok names_ok mixed_ok orcA_ok gon hin ?_ ?_
      · simp only [List.mem_cons, List.not_mem_nil, or_false, forall_eq_or_imp, forall_eq]
        simp [-holds_idx, holds_idxP, holds_cellsP, Base.ev, SX.ev, evs, Value.oneCell', hF, e3, u3]
      intro qs a1 w1 hq h1
      refine ⟨fun _ => ?_, fun h => absurd rfl h⟩
      simp [evs, SX.ev, hF, e3] at hq
      subst hq
      refine seg_ok names_ok mixed_ok orcA_ok opn h1 ?_ ?_
      · simp only [List.mem_cons, List.not_mem_nil, or_false, forall_eq_or_imp, forall_eq]
        simp [-holds_idx, holds_idxP, holds_cellsP, Base.ev, SX.ev, evs, Value.oneCell', hF, e1, e23, u1, u23]
      intro qs a1 w1 hq h1
      refine ⟨fun _ => ?_, fun h => absurd rfl h⟩
      simp [evs, SX.ev, hF, e1, e23] at hq
      subst hq
      have hla : (sa.files.length : Int) = 6 := by omega
      have hlb : (sb.files.length : Int) = 6 := by omega
      have hlc : (sc.files.length : Int) = 6 := by omega
      refine seg_ok names_ok mixed_ok orcA_ok lns h1 ?_ ?_
      · simp only [List.mem_cons, List.not_mem_nil, or_false, forall_eq_or_imp, forall_eq]
        simp [-holds_idx, holds_idxP, holds_cellsP, Base.ev, SX.ev, evs, Value.oneCell', hF, lenPV_row, binPV, hla, hlb, hlc]
      intro qs a1 w1 hq h1
      refine ⟨fun _ => ?_, fun h => absurd rfl h⟩
      simp [evs, SX.ev] at hq
      subst hq
      clear e1 e3 e23
      refine block_loop (fun q a w => ∃ i : Nat, i ≤ 6 ∧ q = 6 - i ∧ InShape C shL [pI (1 + (j : Int)), pI (i : Int), pRow encF s.files, pRow encM s.marks, pI s.epoch, pRow encF sa.files, pRow encM sa.marks, pI sa.epoch, pRow encF sb.files, pRow encM sb.marks, pI sb.epoch, pRow encF sc.files, pRow encM sc.marks, pI sc.epoch, pI k1, pI k2, pI k3, pI k4] a w) ?_ (n := 6) ⟨0, by omega, by omega, h1⟩
      rintro q a w ⟨i, hi, rfl, hin⟩
      show wpL Try.prog lpA _ a w
      rw [← List.append_nil lpA]
      by_cases hlt : i < 6
      · have v3 : IntKind.i64.wrap ((i : Int) + 1) = (i : Int) + 1 := wrapI _ (by omega) (by omega)
        have hlt6 : (i : Int) < 6 := by omega
        have hia : i < sa.files.length := by omega
        have hib : i < sb.files.length := by omega
        have hic : i < sc.files.length := by omega
        have his : i < s.files.length := by omega
        obtain ⟨s0, s1, s2⟩ := cellF s.files i his
        obtain ⟨a0, a1', a2⟩ := cellF sa.files i hia
        obtain ⟨b0, b1', b2'⟩ := cellF sb.files i hib
        obtain ⟨c0, c1, c2⟩ := cellF sc.files i hic
        have xs := idxP_row encF s.files i 3 3 .i64 rfl his (by decide)
        have xs1 := idxP_row encF s.files i 3 1 .i64 rfl his (by decide)
        have xa := idxP_row encF sa.files i 3 3 .i64 rfl hia (by decide)
        have xb := idxP_row encF sb.files i 3 3 .i64 rfl hib (by decide)
        have xc := idxP_row encF sc.files i 3 3 .i64 rfl hic (by decide)
        have ea : i ≠ j → sa.files[i] = s.files[i] := fun h => at_same (ha2 i h) hia his
        have eb : i ≠ j → sb.files[i] = s.files[i] := fun h => at_same (hb2 i h) hib his
        have ec1 : (i : Int) + 1 ≠ k3 → sc.files[i] = s.files[i] := fun h => at_same (hc2 i h) hic his
        have ec2 : s.files[i].1 ≠ e0 → sc.files[i] = s.files[i] := fun h => at_same (hc3 i his h) hic his
        have wn : IntKind.i64.wrap (1 + (j : Int) - 1) = (j : Int) := by rw [wrapI _ (by omega) (by omega)]; omega
        have wj : IntKind.i64.wrap (j : Int) = (j : Int) := wc
        have wm : IntKind.i64.wrap (k3 - 1) = k3 - 1 := wrapI _ (by omega) (by omega)
        have hE : s.files[i].1 ≠ e0 ↔ s.files[i].1.toList ≠ [] := by
          rw [← e0_list]
          exact ⟨fun h e => h (tl_inj e), fun h e => h (by rw [e])⟩
        have next : ∀ qs a1 w1, qs = [pI (1 + (j : Int)), pI ((i : Int) + 1), pRow encF s.files, pRow encM s.marks, pI s.epoch, pRow encF sa.files, pRow encM sa.marks, pI sa.epoch, pRow encF sb.files, pRow encM sb.marks, pI sb.epoch, pRow encF sc.files, pRow encM sc.marks, pI sc.epoch, pI k1, pI k2, pI k3, pI k4] → InShape C shL qs a1 w1 → ∃ n', n' < 6 - i ∧ ∃ i : Nat, i ≤ 6 ∧ n' = 6 - i ∧ InShape C shL [pI (1 + (j : Int)), pI (i : Int), pRow encF s.files, pRow encM s.marks, pI s.epoch, pRow encF sa.files, pRow encM sa.marks, pI sa.epoch, pRow encF sb.files, pRow encM sb.marks, pI sb.epoch, pRow encF sc.files, pRow encM sc.marks, pI sc.epoch, pI k1, pI k2, pI k3, pI k4] a1 w1 := by
          rintro qs a1 w1 rfl h
          exact ⟨6 - (i + 1), by omega, i + 1, by omega, rfl, h⟩
        have wi : IntKind.i64.wrap (i : Int) = (i : Int) := wrapI _ (by omega) (by omega)
        by_cases h1d : i = j
        · by_cases h2d : (i : Int) + 1 = k3
          · by_cases h3d : s.files[i].1.toList = []
            · clear ea eb ec1 ec2 hE
              generalize s.files[i] = fx at *
              subst h1d
              subst h2d
              refine seg_ok names_ok mixed_ok orcA_ok l000 hin ?_ (fun qs a1 w1 hq h1 => ⟨fun _ => .inl ⟨rfl, next qs a1 w1 (by simp [evs, SX.ev, binPV, v3] at hq; exact hq.symm) h1⟩, fun h => absurd rfl h⟩)
              simp only [List.mem_cons, List.not_mem_nil, or_false, forall_eq_or_imp, forall_eq]
              simp [-holds_idx, holds_idxP, holds_cellsP, Base.ev, SX.ev, evs, Value.oneCell', lenPV_row, binPV, v3, wn, wm, wi, hlt6, h3d, s0, s1, s2, a0, a1', a2, b0, b1', b2', c0, c1, c2, xs, xs1, xa, xb, xc, r_eqI, r_eqS, r_all3, rnot]
            · rw [ec2 (hE.2 h3d)] at c0 c1 c2
              clear ea eb ec1 ec2 hE
              generalize s.files[i] = fx at *
              subst h1d
              subst h2d
              refine seg_ok names_ok mixed_ok orcA_ok l001 hin ?_ (fun qs a1 w1 hq h1 => ⟨fun _ => .inl ⟨rfl, next qs a1 w1 (by simp [evs, SX.ev, binPV, v3] at hq; exact hq.symm) h1⟩, fun h => absurd rfl h⟩)
              simp only [List.mem_cons, List.not_mem_nil, or_false, forall_eq_or_imp, forall_eq]
              simp [-holds_idx, holds_idxP, holds_cellsP, Base.ev, SX.ev, evs, Value.oneCell', lenPV_row, binPV, v3, wn, wm, wi, hlt6, h3d, s0, s1, s2, a0, a1', a2, b0, b1', b2', c0, c1, c2, xs, xs1, xa, xb, xc, r_eqI, r_eqS, r_all3, rnot]
          · by_cases h3d : s.files[i].1.toList = []
            · rw [ec1 h2d] at c0 c1 c2
              clear ea eb ec1 ec2 hE
              generalize s.files[i] = fx at *
              subst h1d
              have g2 : ¬ ((i : Int) = k3 - 1) := by omega
              refine seg_ok names_ok mixed_ok orcA_ok l010 hin ?_ (fun qs a1 w1 hq h1 => ⟨fun _ => .inl ⟨rfl, next qs a1 w1 (by simp [evs, SX.ev, binPV, v3] at hq; exact hq.symm) h1⟩, fun h => absurd rfl h⟩)
              simp only [List.mem_cons, List.not_mem_nil, or_false, forall_eq_or_imp, forall_eq]
              simp [-holds_idx, holds_idxP, holds_cellsP, Base.ev, SX.ev, evs, Value.oneCell', lenPV_row, binPV, v3, wn, wm, wi, hlt6, g2, h3d, s0, s1, s2, a0, a1', a2, b0, b1', b2', c0, c1, c2, xs, xs1, xa, xb, xc, r_eqI, r_eqS, r_all3, rnot]
            · rw [ec1 h2d] at c0 c1 c2
              clear ea eb ec1 ec2 hE
              generalize s.files[i] = fx at *
              subst h1d
              have g2 : ¬ ((i : Int) = k3 - 1) := by omega
              refine seg_ok names_ok mixed_ok orcA_ok l011 hin ?_ (fun qs a1 w1 hq h1 => ⟨fun _ => .inl ⟨rfl, next qs a1 w1 (by simp [evs, SX.ev, binPV, v3] at hq; exact hq.symm) h1⟩, fun h => absurd rfl h⟩)
              simp only [List.mem_cons, List.not_mem_nil, or_false, forall_eq_or_imp, forall_eq]
              simp [-holds_idx, holds_idxP, holds_cellsP, Base.ev, SX.ev, evs, Value.oneCell', lenPV_row, binPV, v3, wn, wm, wi, hlt6, g2, h3d, s0, s1, s2, a0, a1', a2, b0, b1', b2', c0, c1, c2, xs, xs1, xa, xb, xc, r_eqI, r_eqS, r_all3, rnot]
        · by_cases h2d : (i : Int) + 1 = k3
          · by_cases h3d : s.files[i].1.toList = []
            · rw [ea h1d] at a0 a1' a2
              rw [eb h1d] at b0 b1' b2'
              clear ea eb ec1 ec2 hE
              generalize s.files[i] = fx at *
              have g1 : ¬ ((i : Int) = (j : Int)) := by omega
              subst h2d
              refine seg_ok names_ok mixed_ok orcA_ok l100 hin ?_ (fun qs a1 w1 hq h1 => ⟨fun _ => .inl ⟨rfl, next qs a1 w1 (by simp [evs, SX.ev, binPV, v3] at hq; exact hq.symm) h1⟩, fun h => absurd rfl h⟩)
              simp only [List.mem_cons, List.not_mem_nil, or_false, forall_eq_or_imp, forall_eq]
              simp [-holds_idx, holds_idxP, holds_cellsP, Base.ev, SX.ev, evs, Value.oneCell', lenPV_row, binPV, v3, wn, wm, wi, hlt6, g1, h3d, s0, s1, s2, a0, a1', a2, b0, b1', b2', c0, c1, c2, xs, xs1, xa, xb, xc, r_eqI, r_eqS, r_all3, rnot]
            · rw [ea h1d] at a0 a1' a2
              rw [eb h1d] at b0 b1' b2'
              rw [ec2 (hE.2 h3d)] at c0 c1 c2
              clear ea eb ec1 ec2 hE
              generalize s.files[i] = fx at *
              have g1 : ¬ ((i : Int) = (j : Int)) := by omega
              subst h2d
              refine seg_ok names_ok mixed_ok orcA_ok l101 hin ?_ (fun qs a1 w1 hq h1 => ⟨fun _ => .inl ⟨rfl, next qs a1 w1 (by simp [evs, SX.ev, binPV, v3] at hq; exact hq.symm) h1⟩, fun h => absurd rfl h⟩)
              simp only [List.mem_cons, List.not_mem_nil, or_false, forall_eq_or_imp, forall_eq]
              simp [-holds_idx, holds_idxP, holds_cellsP, Base.ev, SX.ev, evs, Value.oneCell', lenPV_row, binPV, v3, wn, wm, wi, hlt6, g1, h3d, s0, s1, s2, a0, a1', a2, b0, b1', b2', c0, c1, c2, xs, xs1, xa, xb, xc, r_eqI, r_eqS, r_all3, rnot]
          · by_cases h3d : s.files[i].1.toList = []
            · rw [ea h1d] at a0 a1' a2
              rw [eb h1d] at b0 b1' b2'
              rw [ec1 h2d] at c0 c1 c2
              clear ea eb ec1 ec2 hE
              generalize s.files[i] = fx at *
              have g1 : ¬ ((i : Int) = (j : Int)) := by omega
              have g2 : ¬ ((i : Int) = k3 - 1) := by omega
              refine seg_ok names_ok mixed_ok orcA_ok l110 hin ?_ (fun qs a1 w1 hq h1 => ⟨fun _ => .inl ⟨rfl, next qs a1 w1 (by simp [evs, SX.ev, binPV, v3] at hq; exact hq.symm) h1⟩, fun h => absurd rfl h⟩)
              simp only [List.mem_cons, List.not_mem_nil, or_false, forall_eq_or_imp, forall_eq]
              simp [-holds_idx, holds_idxP, holds_cellsP, Base.ev, SX.ev, evs, Value.oneCell', lenPV_row, binPV, v3, wn, wm, wi, hlt6, g1, g2, h3d, s0, s1, s2, a0, a1', a2, b0, b1', b2', c0, c1, c2, xs, xs1, xa, xb, xc, r_eqI, r_eqS, r_all3, rnot]
            · rw [ea h1d] at a0 a1' a2
              rw [eb h1d] at b0 b1' b2'
              rw [ec1 h2d] at c0 c1 c2
              clear ea eb ec1 ec2 hE
              generalize s.files[i] = fx at *
              have g1 : ¬ ((i : Int) = (j : Int)) := by omega
              have g2 : ¬ ((i : Int) = k3 - 1) := by omega
              refine seg_ok names_ok mixed_ok orcA_ok l111 hin ?_ (fun qs a1 w1 hq h1 => ⟨fun _ => .inl ⟨rfl, next qs a1 w1 (by simp [evs, SX.ev, binPV, v3] at hq; exact hq.symm) h1⟩, fun h => absurd rfl h⟩)
              simp only [List.mem_cons, List.not_mem_nil, or_false, forall_eq_or_imp, forall_eq]
              simp [-holds_idx, holds_idxP, holds_cellsP, Base.ev, SX.ev, evs, Value.oneCell', lenPV_row, binPV, v3, wn, wm, wi, hlt6, g1, g2, h3d, s0, s1, s2, a0, a1', a2, b0, b1', b2', c0, c1, c2, xs, xs1, xa, xb, xc, r_eqI, r_eqS, r_all3, rnot]
      · have hie : i = 6 := by omega
        subst hie
        refine seg_ok names_ok mixed_ok orcA_ok lx hin ?_ ?_
        · simp only [List.mem_cons, List.not_mem_nil, or_false, forall_eq_or_imp, forall_eq]
          simp [-holds_idx, holds_idxP, holds_cellsP, Base.ev, SX.ev, evs, Value.oneCell', binPV]
        · intro qs a1 w1 hq h1
          refine ⟨fun h => (by cases h), fun _ => .inr (.inl ⟨by rw [show blockId (nth flA 14) = 0 by kernel_rfl]; rfl, ?_⟩)⟩
          simp [evs, SX.ev] at hq
          subst hq
          rw [← List.append_nil (flA.drop 15)]
          have hia : j < sa.files.length := by omega
          have hib : j < sb.files.length := by omega
          have s0 := (cellF s.files j hj).1
          have a0 := (cellF sa.files j hia).1
          obtain ⟨b0, b1', b2'⟩ := cellF sb.files j hib
          have xs1 := idxP_row encF s.files j 3 1 .i64 rfl hj (by decide)
          have xs := idxP_row encF s.files j 3 3 .i64 rfl hj (by decide)
          have xa1 := idxP_row encF sa.files j 3 1 .i64 rfl hia (by decide)
          have xa := idxP_row encF sa.files j 3 3 .i64 rfl hia (by decide)
          have xb := idxP_row encF sb.files j 3 3 .i64 rfl hib (by decide)
          have wn : IntKind.i64.wrap (1 + (j : Int) - 1) = (j : Int) := by rw [wrapI _ (by omega) (by omega)]; omega
          have wj : IntKind.i64.wrap (j : Int) = (j : Int) := wc
          rw [List.getElem?_eq_getElem hia, List.getElem?_eq_getElem hj] at ha3
          have ha3 : sa.files[j].1 = s.files[j].1 := by simpa using ha3
          rw [List.getElem?_eq_getElem hib] at hb3
          have hb3 : sb.files[j] = f00 := by simpa using hb3
          rw [ha3] at a0
          rw [hb3] at b0 b1' b2'
          obtain ⟨t1, t2, t3, r1, r2, r3, ra⟩ := cmpE f00
          rw [isE0_f00] at ra
          generalize s.files[j].1 = nx at *
          generalize f00 = fz at *
          refine seg_ok names_ok mixed_ok orcA_ok stateApart.post h1 ?_ (fun qs a1 w1 hq h1 => fin qs a1 w1 (by simp [evs, SX.ev] at hq; exact hq.symm) h1)
          simp only [List.mem_cons, List.not_mem_nil, or_false, forall_eq_or_imp, forall_eq]
          simp [-holds_idx, holds_idxP, holds_cellsP, Base.ev, SX.ev, evs, Value.oneCell', lenPV_row, binPV, wn, wj, s0, a0, b0, b1', b2', xs, xs1, xa, xa1, xb, r1, r2, r3, ra, rnot]
    by_cases hw0 : ws = []
    · subst hw0
      have rl : (PV.row 1 [pI wx.1, pS wx.2]) = pRow encW ([] ++ [wx]) := by simp [pRow, Enc.all, encW]
      have hlx : ([] ++ [wx] : List (Int × ByteArray)).length = 1 := rfl
      generalize ([] ++ [wx] : List (Int × ByteArray)) = wl at *
      refine seg_ok names_ok mixed_ok orcA_ok fl0 h1 ?_ (fun qs a1 w1 hq h1 => ⟨fun _ => post a1 w1 (by simp [evs, SX.ev, hF, e21, e22, e2, rl] at hq; subst hq; exact h1), fun h => absurd rfl h⟩)
      simp only [List.mem_cons, List.not_mem_nil, or_false, forall_eq_or_imp, forall_eq]
      simp [-holds_idx, holds_idxP, holds_cellsP, Base.ev, SX.ev, evs, Value.oneCell', hF, lenPV_row, binPV, e21, e22, e2, rl, hlx, u21, u22, u2]
    · have rc : ropPV .cat [pRow encW ws, .row 1 [pI wx.1, pS wx.2]] = some (pRow encW (ws ++ [wx])) := by simp [ropPV, pRow, Enc.all, encW]
      have hwn : 1 ≤ ws.length := by
        cases ws with
        | nil => exact absurd rfl hw0
        | cons x r => simp
      have hlx : (ws ++ [wx]).length = ws.length + 1 := by simp
      generalize ws ++ [wx] = wl at *
      refine seg_ok names_ok mixed_ok orcA_ok fl1 h1 ?_ (fun qs a1 w1 hq h1 => ⟨fun _ => post a1 w1 (by simp [evs, SX.ev, hF, e21, e22, e2, rc] at hq; subst hq; exact h1), fun h => absurd rfl h⟩)
      simp only [List.mem_cons, List.not_mem_nil, or_false, forall_eq_or_imp, forall_eq]
      simp [-holds_idx, holds_idxP, holds_cellsP, Base.ev, SX.ev, evs, Value.oneCell', hF, lenPV_row, lenPV_r, binPV, e21, e22, e2, rc, hlx, u21, u22, u2]
      all_goals omega
theorem walk (w : World) (v : Value) (len : Nat) (Z : Nat → Int) (hg : IsRow .u8 w v len Z) (v1 : Value) (len1 : Nat) (Z1 : Nat → Int) (hg1 : IsRow .u8 w v1 len1 Z1) (a : Int) (wa : (Lit.int .u8 a).wf = true) :
    Calls Try.prog 7 #[v, v1, .int .u8 a] w fun e w' => e = .returned (.bool true) ∧ Ex w w' := by
  obtain ⟨p, hbp, hlen, hr⟩ := rowU hg
  obtain ⟨m, hbm, hlm, hrm⟩ := rowU hg1
  obtain ⟨h0, h1⟩ := bounds_u8 wa
  obtain ⟨n, rfl⟩ : ∃ n : Nat, a = (n : Int) := ⟨a.toNat, by omega⟩
  refine told_true (told 0) rfl (us := [v, v1, .int .u8 (n : Int)]) (ps := [pRow encU p, pRow encU m, pU (n : Int)]) (spec_of fL ⟨p, m, n, hlen, hbp, hlm, hbm, by omega, rfl, rfl⟩) rfl rfl (fun i p u hp hu => ?_)
  match i, hp, hu with
  | 0, hp, hu => simp at hp hu; subst hp; subst hu; exact hr
  | 1, hp, hu => simp at hp hu; subst hp; subst hu; exact hrm
  | 2, hp, hu => simp at hp hu; subst hp; subst hu; exact plainReads rfl
  | i + 3, hp, hu => simp at hp
end Go.Proofs.Ytnelcjofgpplgaa.stateApart
