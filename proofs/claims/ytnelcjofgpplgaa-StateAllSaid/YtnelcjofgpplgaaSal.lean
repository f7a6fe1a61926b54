/- StateAll by the symbolic engine. -/
import Derived.Test.YtnelcjofgpplgaaStu
import Derived.Test.YtnelcjofgpplgaaSmc
import Derived.Test.YtnelcjofgpplgaaFrameB
namespace Go.Proofs.Ytnelcjofgpplgaa.stateAll
open Go Go.RowKit eng SX Fact fil fileFronts dirs pck may sta
open fileFronts
open pck hiding F F20 F21
open dirs hiding shR shRl shRR flR lpR cutR f0 f1 f2 f3 m0 m1 m2 x2 x3 n1
open may hiding m1 m2 m3 m4 r1 r2 r3 r4 r5
set_option linter.unusedVariables false
set_option linter.unusedSimpArgs false
set_option maxRecDepth 1000000

def EMayN (k : Nat) : FnE := { k := k, ins := [some 3], leaks := [false, false, false], outs := [none], kinds := [.num] }
def tabA (f : FuncId) : Option FnE := cond (Nat.beq f 9) (some (ETrue 7)) (cond (Nat.beq f 14) (some (EOpen 1)) (cond (Nat.beq f 15) (some (EOpen 2)) (cond (Nat.beq f 16) (some (EFlush 3)) (cond (Nat.beq f 17) (some (EFlush 4)) (cond (Nat.beq f 19) (some (EOpen 5)) (cond (Nat.beq f 20) (some (EOpen 6)) (cond (Nat.beq f 21) (some (ETurn 8)) (cond (Nat.beq f 22) (some (EBoot 9)) (cond (Nat.beq f 23) (some (EBoot 10)) (cond (Nat.beq f 24) (some (EMayN 11)) (cond (Nat.beq f 25) (some (EMayN 12)) (cond (Nat.beq f 26) (some (ESmS 13)) (cond (Nat.beq f 18) (some (ESmS 14)) (cond (Nat.beq f 27) (some (ENew 15)) (cond (Nat.beq f 28) (some (ENew 16)) none)))))))))))))))
def tabAP (f : FuncId) : Option PtrE := cond (Nat.beq f 11) (some (ESt 24)) (cond (Nat.beq f 13) (some (EWo 22)) (cond (Nat.beq f 12) (some (ENm 23)) none))
def orcA : Orc := orcOr (orcFn tabA) (orcP tabAP)
def hA (f : FuncId) (o : Oper) : Option Hint := cond (pck.isApp o.op) (some .own) (match o.dst with | some d => cond (Nat.beq f 3 && [212, 214, 220, 223].elem d) (some .lazy) (some .parts) | none => some .parts)
noncomputable def flA := flat (bodyOf Try.prog 3)
noncomputable def lpA := flat (loopBody (nth flA 6))
def kbox : BoxT := ⟨66, 0, false, [.leaf, .leaf], none, false⟩
def sh0 : Shape := ⟨[(0, .leaf), (1, .leaf), (2, .leaf), (3, .leaf), (4, .leaf), (5, .leaf), (6, .leaf), (7, .leaf), (8, .leaf)], [], [some true, some true, none, some true, none, none, none, none, none], 231, 3⟩
def shW : Shape := ⟨[(0, .leaf), (1, .leaf), (2, .leaf), (3, .leaf), (4, .leaf), (5, .leaf), (6, .leaf), (7, .leaf), (8, .leaf), (19, .leaf)], [], [some true, some true, none, some true, none, none, none, none, none, none], 231, 3⟩
def shB : Shape := ⟨[(2, .leaf), (3, .leaf), (7, .leaf), (8, .leaf), (20, .ptr 0 0 0 0), (21, .leaf), (22, .leaf), (23, .leaf), (24, .ptr 1 0 0 0)], [sbox true, kbox], [none, some true, none, none, none, none, none, some true, some true, none, some true, none], 231, 3⟩
def shC : Shape := ⟨[(3, .leaf), (7, .leaf), (8, .leaf), (20, .ptr 0 0 0 0), (21, .leaf), (22, .leaf), (23, .leaf), (24, .ptr 1 0 0 0), (25, .leaf)], [sbox true, kbox], [some true, none, none, none, none, none, some true, some true, some true, none, some true, none], 231, 3⟩
def shD : Shape := ⟨[(7, .leaf), (8, .leaf), (20, .ptr 0 0 0 0), (21, .leaf), (22, .leaf), (23, .leaf)], [sbox true], [none, none, none, none, none, some true, some true, none], 231, 3⟩
def shE : Shape := ⟨[(18, .leaf)], [], [none], 231, 3⟩
@[simp] def zSal1 : List SX := [.var 7, .var 8, .var 9, .var 4, .var 5, .var 0]
@[simp] def zSal2 : List SX := [.var 7, .var 8, .var 9, .var 4, .var 5, .var 6, .lit 0 []]
@[simp] def zSal3 : List SX := [.var 7, .var 8, .var 9, .var 4, .var 5, .var 6, .fn 22 [.con (.int .i64 7), .fn 23 [.var 10, .var 11] 1, .fn 23 [.var 10, .var 11] 2] 0]
@[simp] def zSal4 : List SX := [.var 7, .var 8, .var 9, .var 4, .var 5, .fn 23 [.var 10, .var 11] 0]
@[simp] def zSal5 : List SX := [.var 7, .var 8, .var 9, .var 4, .var 5, .var 6, .var 1]
@[simp] def zSal6 : List SX := [.var 5, .var 6, .var 7, .var 0, .var 4, .var 1]
@[simp] def zSal7 : List SX := [.var 5, .var 6, .var 7, .var 2, .var 3, .var 4]
@[simp] def zSal8 : SX := rop ROp.notB [rop ROp.allB [rop ROp.eqI [.fn 1 zSal1 3, .fn 2 zSal1 3], rop ROp.eqI [.fn 1 zSal1 4, .fn 2 zSal1 4], rop ROp.eqI [.fn 1 zSal1 5, .fn 2 zSal1 5], rop ROp.eqI [.fn 1 zSal1 6, .fn 2 zSal1 6]]]
@[simp] def zSal9 : List SX := [.fn 1 zSal1 0, .fn 1 zSal1 1, .fn 1 zSal1 2, .fn 2 zSal1 0, .fn 2 zSal1 1, .fn 2 zSal1 2]
@[simp] def zSal10 : SX := rop ROp.notB [rop ROp.allB [rop ROp.eqI [.fn 3 zSal2 3, .fn 4 zSal2 3], rop ROp.eqI [.fn 3 zSal2 4, .fn 4 zSal2 4], rop ROp.eqI [.fn 3 zSal2 5, .fn 4 zSal2 5], rop ROp.eqI [.fn 3 zSal2 6, .fn 4 zSal2 6]]]
@[simp] def zSal11 : List SX := [.fn 3 zSal2 0, .fn 3 zSal2 1, .fn 3 zSal2 2, .fn 4 zSal2 0, .fn 4 zSal2 1, .fn 4 zSal2 2]
@[simp] def zSal12 : List SX := [.con (.int .i64 7), .fn 23 [.var 10, .var 11] 1, .fn 23 [.var 10, .var 11] 2]
@[simp] def zSal13 : SX := rop ROp.notB [rop ROp.allB [rop ROp.eqI [.fn 3 zSal5 3, .fn 4 zSal5 3], rop ROp.eqI [.fn 3 zSal5 4, .fn 4 zSal5 4], rop ROp.eqI [.fn 3 zSal5 5, .fn 4 zSal5 5], rop ROp.eqI [.fn 3 zSal5 6, .fn 4 zSal5 6]]]
@[simp] def zSal14 : SX := rop ROp.notB [rop ROp.allB [rop ROp.eqI [.fn 1 zSal4 3, .fn 2 zSal4 3], rop ROp.eqI [.fn 1 zSal4 4, .fn 2 zSal4 4], rop ROp.eqI [.fn 1 zSal4 5, .fn 2 zSal4 5], rop ROp.eqI [.fn 1 zSal4 6, .fn 2 zSal4 6]]]
@[simp] def zSal15 : List SX := [.fn 3 zSal5 0, .fn 3 zSal5 1, .fn 3 zSal5 2, .fn 4 zSal5 0, .fn 4 zSal5 1, .fn 4 zSal5 2]
@[simp] def zSal16 : List SX := [.fn 1 zSal4 0, .fn 1 zSal4 1, .fn 1 zSal4 2, .fn 2 zSal4 0, .fn 2 zSal4 1, .fn 2 zSal4 2]
@[simp] def zSal17 : List SX := [.var 5, .var 6, .var 7, .fn 8 zSal6 0, .fn 8 zSal6 1, .fn 8 zSal6 2]
@[simp] def zSal18 : List SX := [.var 5, .var 6, .var 7]
@[simp] def zSal19 : SX := .bin .gtr (.len (.var 0)) (.con (.int .i64 60))
@[simp] def zSal20 : SX := .bin .gtr (.len (.var 1)) (.con (.int .i64 20))
@[simp] def zSal21 : List SX := [.fn 8 zSal6 0, .fn 8 zSal6 1, .fn 8 zSal6 2]
@[simp] def zSal22 : List SX := [.con (.int .i64 25), .var 0, .con (.int .i64 0)]
@[simp] def zSal23 : List SX := [.fn 3 zSal3 0, .fn 3 zSal3 1, .fn 3 zSal3 2, .fn 4 zSal3 0, .fn 4 zSal3 1, .fn 4 zSal3 2]
@[simp] def zSal24 : SX := .bin .gtr (.slen (.var 2)) (.con (.int .i64 30))
@[simp] def zSal25 : SX := rop ROp.notB [rop ROp.allB [rop ROp.eqI [.fn 3 zSal3 3, .fn 4 zSal3 3], rop ROp.eqI [.fn 3 zSal3 4, .fn 4 zSal3 4], rop ROp.eqI [.fn 3 zSal3 5, .fn 4 zSal3 5], rop ROp.eqI [.fn 3 zSal3 6, .fn 4 zSal3 6]]]
@[simp] def zSal26 : SX := .bin .gtr (.slen (.cell (.var 3) (.var 9) 2 1)) (.con (.int .i64 40))
@[simp] def zSal27 : List SX := [.fn 9 zSal18 0, .fn 9 zSal18 1, .fn 9 zSal18 2, .fn 10 zSal18 0, .fn 10 zSal18 1, .fn 10 zSal18 2]
@[simp] def zSal28 : SX := rop ROp.allB [rop ROp.eqI [.fn 5 zSal7 3, .fn 6 zSal7 3], rop ROp.eqI [.fn 5 zSal7 4, .fn 6 zSal7 4], rop ROp.eqI [.fn 5 zSal7 5, .fn 6 zSal7 5], rop ROp.eqI [.fn 5 zSal7 6, .fn 6 zSal7 6]]
@[simp] def zSal29 : List SX := [.fn 5 zSal7 0, .fn 5 zSal7 1, .fn 5 zSal7 2, .fn 6 zSal7 0, .fn 6 zSal7 1, .fn 6 zSal7 2]
@[simp] def zSal30 : SX := rop ROp.notB [.fn 14 zSal9 0]
@[simp] def zSal31 : SX := .bin .add (.con (.int .i64 1)) (.conv .i64 (.bin .rem (.var 4) (.con (.int .u8 3))))
@[simp] def zSal32 : SX := .bin .sub (.conv .i64 (.bin .rem (.var 6) (.con (.int .u8 9)))) (.con (.int .i64 1))
@[simp] def zSal33 : List SX := [.fn 15 [] 0, .fn 15 [] 1, .fn 15 [] 2, .fn 16 [] 0, .fn 16 [] 1, .fn 16 [] 2]
@[simp] def zSal34 : SX := .bin .lss (.var 9) (.len (.var 3))
@[simp] def zSal35 : SX := .con (.bool true)
@[simp] def zSal36 : SX := .bin .gtr (.len (.var 3)) (.con (.int .i64 8))
@[simp] def zSal37 : SX := rop ROp.notB [.fn 14 zSal11 0]
@[simp] def zSal38 : Fact := .is (.fn 7 [] 0) (.bool true)
@[simp] def zSal39 : SX := .bin .add (.con (.int .i64 1)) (.conv .i64 (.var 5))
@[simp] def zSal40 : SX := .len (.fn 22 zSal12 0)
@[simp] def zSal41 : SX := rop ROp.notB [.fn 14 zSal15 0]
@[simp] def zSal42 : SX := rop ROp.notB [.fn 14 zSal16 0]
@[simp] def zSal43 : SX := .bin .add (.var 9) (.con (.int .i64 1))
@[simp] def zSal44 : SX := .cell (.var 3) (.var 9) 2 1
@[simp] def zSal45 : Fact := .idx (.var 3) (.var 9) 2 2
@[simp] def zSal46 : List SX := [.var 10, .var 11]
@[simp] def zSal47 : List SX := [.var 2, .var 3, .var 4, .var 5, .var 6, .var 7, .var 8, .var 9]
@[simp] def zSal48 : Fact := .is zSal19 (.bool false)
@[simp] def zSal49 : Fact := .is zSal30 (.bool false)
@[simp] def zSal50 : Fact := .ok (.len (.var 0))
@[simp] def zSal51 : Fact := .ok (.len (.var 3))
@[simp] def zSal52 : Fact := .is zSal8 (.bool false)
@[simp] def zSal53 : Fact := .fn 9 (ETrue 7) []
@[simp] def zSal54 : SX := .con (.int .i64 0)
@[simp] def zSal55 : Fact := .fn 14 (EOpen 1) zSal1
@[simp] def zSal56 : Fact := .fn 15 (EOpen 2) zSal1
@[simp] def zSal57 : Fact := .fn 18 (ESmS 14) zSal9
theorem q0 : segTo Try.prog orcA 10000 flA sh0 [1, 1] shE [] hA = some (.ret, [zSal53, zSal38, zSal50, .ok zSal19, .is zSal19 (.bool true), .ok zSal35], [zSal35]) := by kernel_rfl
theorem q1 : segTo Try.prog orcA 10000 flA sh0 [1, 0, 1] shE [] hA = some (.ret, [zSal53, zSal38, zSal50, .ok zSal19, zSal48, .ok (.len (.var 1)), .ok zSal20, .is zSal20 (.bool true), .ok zSal35], [zSal35]) := by kernel_rfl
theorem q2 : segTo Try.prog orcA 10000 flA sh0 [1, 0, 0, 1] shE [] hA = some (.ret, [zSal53, zSal38, zSal50, .ok zSal19, zSal48, .ok (.len (.var 1)), .ok zSal20, .is zSal20 (.bool false), .ok (.slen (.var 2)), .ok zSal24, .is zSal24 (.bool true), .ok zSal35], [zSal35]) := by kernel_rfl
theorem q3 : segTo Try.prog orcA 10000 flA sh0 [1, 0, 0, 0, 1] shE [] hA = some (.ret, [zSal53, zSal38, zSal50, .ok zSal19, zSal48, .ok (.len (.var 1)), .ok zSal20, .is zSal20 (.bool false), .ok (.slen (.var 2)), .ok zSal24, .is zSal24 (.bool false), zSal51, .ok zSal36, .is zSal36 (.bool true), .ok zSal35], [zSal35]) := by kernel_rfl
theorem pre : segTo Try.prog orcA 10000 (flA.take 6) sh0 [1, 0, 0, 0, 0] shW [] hA = some (.normal, [zSal53, zSal38, zSal50, .ok zSal19, zSal48, .ok (.len (.var 1)), .ok zSal20, .is zSal20 (.bool false), .ok (.slen (.var 2)), .ok zSal24, .is zSal24 (.bool false), zSal51, .ok zSal36, .is zSal36 (.bool false), .ok (.var 2), .ok (.var 4), .ok (.var 5), .ok (.var 6), .ok (.var 7), .ok (.var 8), .ok zSal54], [.var 0, .var 1, .var 2, .var 3, .var 4, .var 5, .var 6, .var 7, .var 8, zSal54]) := by kernel_rfl
theorem wx : segTo Try.prog orcA 10000 lpA shW [0] shW [] hA = some (.exit 0, [zSal51, .ok zSal34, .is zSal34 (.bool false), .ok (.var 2), .ok (.var 4), .ok (.var 5), .ok (.var 6), .ok (.var 7), .ok (.var 8), .ok (.var 9)], [.var 0, .var 1, .var 2, .var 3, .var 4, .var 5, .var 6, .var 7, .var 8, .var 9]) := by kernel_rfl
theorem wn : segTo Try.prog orcA 10000 lpA shW [1, 0] shW [] hA = some (.normal, [zSal51, .ok zSal34, .is zSal34 (.bool true), zSal45, zSal45, .ok zSal44, .ok (.slen zSal44), .ok zSal26, .is zSal26 (.bool false), .ok zSal43, .ok (.var 2), .ok (.var 4), .ok (.var 5), .ok (.var 6), .ok (.var 7), .ok (.var 8), .ok zSal43], [.var 0, .var 1, .var 2, .var 3, .var 4, .var 5, .var 6, .var 7, .var 8, zSal43]) := by kernel_rfl
theorem wl : segTo Try.prog orcA 10000 lpA shW [1, 1] shE [] hA = some (.ret, [zSal51, .ok zSal34, .is zSal34 (.bool true), zSal45, zSal45, .ok zSal44, .ok (.slen zSal44), .ok zSal26, .is zSal26 (.bool true), .ok zSal35], [zSal35]) := by kernel_rfl
theorem bg : segTo Try.prog orcA 10000 ((flA.drop 7).take 3) shW [] shB [(7, 0), (8, 0)] hA = some (.normal, [.fp 11 (ESt 24) zSal22, .ok (.fn 24 zSal22 2), .ok (.fn 24 zSal22 4), .ok (.bin .rem (.var 4) (.con (.int .u8 3))), .ok (.conv .i64 (.bin .rem (.var 4) (.con (.int .u8 3)))), .ok zSal31, .ok (.conv .i64 (.var 5)), .ok zSal39, .ok (.bin .rem (.var 6) (.con (.int .u8 9))), .ok (.conv .i64 (.bin .rem (.var 6) (.con (.int .u8 9)))), .ok zSal32, .ok (.var 2), .ok (.var 7), .ok (.var 8), .ok zSal31, .ok zSal39, .ok zSal32, .ok (.fn 24 zSal22 2), .ok zSal54], [.var 2, .var 3, .var 7, .var 8, zSal31, zSal39, zSal32, .fn 24 zSal22 0, .fn 24 zSal22 1, .fn 24 zSal22 2, .var 1, zSal54]) := by kernel_rfl
theorem lp0 : segTo Try.prog orcA 10000 ((flA.drop 10).take 4) shB [0, 0, 0, 0, 0, 0, 0, 0, 0, 0, 0, 0, 0] shD [(0, 0)] hA = some (.normal, [.fp 12 (ENm 23) zSal46, .ok (.fn 23 zSal46 0), .ok (.fn 23 zSal46 2), .fp 13 (EWo 22) zSal12, .is zSal40 (.int .i64 0), .ok (.fn 22 zSal12 2), zSal55, .ok (.fn 1 zSal1 2), .ok (.fn 1 zSal1 3), .ok (.fn 1 zSal1 4), .ok (.fn 1 zSal1 5), .ok (.fn 1 zSal1 6), zSal56, .ok (.fn 2 zSal1 2), .ok (.fn 2 zSal1 3), .ok (.fn 2 zSal1 4), .ok (.fn 2 zSal1 5), .ok (.fn 2 zSal1 6), .fn 16 (EFlush 3) zSal5, .ok (.fn 3 zSal5 2), .ok (.fn 3 zSal5 3), .ok (.fn 3 zSal5 4), .ok (.fn 3 zSal5 5), .ok (.fn 3 zSal5 6), .fn 17 (EFlush 4) zSal5, .ok (.fn 4 zSal5 2), .ok (.fn 4 zSal5 3), .ok (.fn 4 zSal5 4), .ok (.fn 4 zSal5 5), .ok (.fn 4 zSal5 6), .ok zSal8, zSal52, zSal57, .ok (.fn 14 zSal9 0), .ok zSal30, zSal49, .ok zSal13, .is zSal13 (.bool false), .fn 18 (ESmS 14) zSal15, .ok (.fn 14 zSal15 0), .ok zSal41, .is zSal41 (.bool false), .fn 14 (EOpen 1) zSal4, .ok (.fn 1 zSal4 2), .ok (.fn 1 zSal4 3), .ok (.fn 1 zSal4 4), .ok (.fn 1 zSal4 5), .ok (.fn 1 zSal4 6), .fn 15 (EOpen 2) zSal4, .ok (.fn 2 zSal4 2), .ok (.fn 2 zSal4 3), .ok (.fn 2 zSal4 4), .ok (.fn 2 zSal4 5), .ok (.fn 2 zSal4 6), .fn 16 (EFlush 3) zSal2, .ok (.fn 3 zSal2 2), .ok (.fn 3 zSal2 3), .ok (.fn 3 zSal2 4), .ok (.fn 3 zSal2 5), .ok (.fn 3 zSal2 6), .fn 17 (EFlush 4) zSal2, .ok (.fn 4 zSal2 2), .ok (.fn 4 zSal2 3), .ok (.fn 4 zSal2 4), .ok (.fn 4 zSal2 5), .ok (.fn 4 zSal2 6), .ok zSal14, .is zSal14 (.bool false), .fn 18 (ESmS 14) zSal16, .ok (.fn 14 zSal16 0), .ok zSal42, .is zSal42 (.bool false), .ok zSal10, .is zSal10 (.bool false), .fn 18 (ESmS 14) zSal11, .ok (.fn 14 zSal11 0), .ok zSal37, .is zSal37 (.bool false), zSal55, .ok (.fn 1 zSal1 2), .ok (.fn 1 zSal1 3), .ok (.fn 1 zSal1 4), .ok (.fn 1 zSal1 5), .ok (.fn 1 zSal1 6), zSal56, .ok (.fn 2 zSal1 2), .ok (.fn 2 zSal1 3), .ok (.fn 2 zSal1 4), .ok (.fn 2 zSal1 5), .ok (.fn 2 zSal1 6), .fn 16 (EFlush 3) zSal2, .ok (.fn 3 zSal2 2), .ok (.fn 3 zSal2 3), .ok (.fn 3 zSal2 4), .ok (.fn 3 zSal2 5), .ok (.fn 3 zSal2 6), .fn 17 (EFlush 4) zSal2, .ok (.fn 4 zSal2 2), .ok (.fn 4 zSal2 3), .ok (.fn 4 zSal2 4), .ok (.fn 4 zSal2 5), .ok (.fn 4 zSal2 6), .ok zSal8, zSal52, zSal57, .ok (.fn 14 zSal9 0), .ok zSal30, zSal49, .ok zSal10, .is zSal10 (.bool false), .fn 18 (ESmS 14) zSal11, .ok (.fn 14 zSal11 0), .ok zSal37, .is zSal37 (.bool false), .ok (.var 2), .ok (.var 3), .ok (.var 4), .ok (.var 5), .ok (.var 6), .ok (.var 9)], zSal47) := by kernel_rfl
theorem lp1 : segTo Try.prog orcA 10000 ((flA.drop 10).take 4) shB [1, 0, 0, 0, 0, 0, 0, 0, 0, 0, 0, 0, 0] shD [(0, 0)] hA = some (.normal, [.fp 12 (ENm 23) zSal46, .ok (.fn 23 zSal46 0), .ok (.fn 23 zSal46 2), .fp 13 (EWo 22) zSal12, rng zSal54 zSal40, .ok (.fn 22 zSal12 2), zSal55, .ok (.fn 1 zSal1 2), .ok (.fn 1 zSal1 3), .ok (.fn 1 zSal1 4), .ok (.fn 1 zSal1 5), .ok (.fn 1 zSal1 6), zSal56, .ok (.fn 2 zSal1 2), .ok (.fn 2 zSal1 3), .ok (.fn 2 zSal1 4), .ok (.fn 2 zSal1 5), .ok (.fn 2 zSal1 6), .fn 16 (EFlush 3) zSal5, .ok (.fn 3 zSal5 2), .ok (.fn 3 zSal5 3), .ok (.fn 3 zSal5 4), .ok (.fn 3 zSal5 5), .ok (.fn 3 zSal5 6), .fn 17 (EFlush 4) zSal5, .ok (.fn 4 zSal5 2), .ok (.fn 4 zSal5 3), .ok (.fn 4 zSal5 4), .ok (.fn 4 zSal5 5), .ok (.fn 4 zSal5 6), .ok zSal8, zSal52, zSal57, .ok (.fn 14 zSal9 0), .ok zSal30, zSal49, .ok zSal13, .is zSal13 (.bool false), .fn 18 (ESmS 14) zSal15, .ok (.fn 14 zSal15 0), .ok zSal41, .is zSal41 (.bool false), .fn 14 (EOpen 1) zSal4, .ok (.fn 1 zSal4 2), .ok (.fn 1 zSal4 3), .ok (.fn 1 zSal4 4), .ok (.fn 1 zSal4 5), .ok (.fn 1 zSal4 6), .fn 15 (EOpen 2) zSal4, .ok (.fn 2 zSal4 2), .ok (.fn 2 zSal4 3), .ok (.fn 2 zSal4 4), .ok (.fn 2 zSal4 5), .ok (.fn 2 zSal4 6), .fn 16 (EFlush 3) zSal3, same zSal40 zSal40, .ok (.fn 3 zSal3 2), .ok (.fn 3 zSal3 3), .ok (.fn 3 zSal3 4), .ok (.fn 3 zSal3 5), .ok (.fn 3 zSal3 6), .fn 17 (EFlush 4) zSal3, same zSal40 zSal40, .ok (.fn 4 zSal3 2), .ok (.fn 4 zSal3 3), .ok (.fn 4 zSal3 4), .ok (.fn 4 zSal3 5), .ok (.fn 4 zSal3 6), .ok zSal14, .is zSal14 (.bool false), .fn 18 (ESmS 14) zSal16, .ok (.fn 14 zSal16 0), .ok zSal42, .is zSal42 (.bool false), .ok zSal25, .is zSal25 (.bool false), .fn 18 (ESmS 14) zSal23, .ok (.fn 14 zSal23 0), .ok (rop ROp.notB [.fn 14 zSal23 0]), .is (rop ROp.notB [.fn 14 zSal23 0]) (.bool false), zSal55, .ok (.fn 1 zSal1 2), .ok (.fn 1 zSal1 3), .ok (.fn 1 zSal1 4), .ok (.fn 1 zSal1 5), .ok (.fn 1 zSal1 6), zSal56, .ok (.fn 2 zSal1 2), .ok (.fn 2 zSal1 3), .ok (.fn 2 zSal1 4), .ok (.fn 2 zSal1 5), .ok (.fn 2 zSal1 6), .fn 16 (EFlush 3) zSal2, .ok (.fn 3 zSal2 2), .ok (.fn 3 zSal2 3), .ok (.fn 3 zSal2 4), .ok (.fn 3 zSal2 5), .ok (.fn 3 zSal2 6), .fn 17 (EFlush 4) zSal2, .ok (.fn 4 zSal2 2), .ok (.fn 4 zSal2 3), .ok (.fn 4 zSal2 4), .ok (.fn 4 zSal2 5), .ok (.fn 4 zSal2 6), .ok zSal8, zSal52, zSal57, .ok (.fn 14 zSal9 0), .ok zSal30, zSal49, .ok zSal10, .is zSal10 (.bool false), .fn 18 (ESmS 14) zSal11, .ok (.fn 14 zSal11 0), .ok zSal37, .is zSal37 (.bool false), .ok (.var 2), .ok (.var 3), .ok (.var 4), .ok (.var 5), .ok (.var 6), .ok (.var 9)], zSal47) := by kernel_rfl
theorem post : segTo Try.prog orcA 10000 (flA.drop 14) shD [1, 1, 1, 1, 1, 1, 1] shE [] hA = some (.ret, [.fn 19 (EOpen 5) zSal7, .ok (.fn 5 zSal7 2), .ok (.fn 5 zSal7 3), .ok (.fn 5 zSal7 4), .ok (.fn 5 zSal7 5), .ok (.fn 5 zSal7 6), .fn 20 (EOpen 6) zSal7, .ok (.fn 6 zSal7 2), .ok (.fn 6 zSal7 3), .ok (.fn 6 zSal7 4), .ok (.fn 6 zSal7 5), .ok (.fn 6 zSal7 6), .fn 21 (ETurn 8) zSal6, .ok (.fn 8 zSal6 2), .ok zSal28, .is zSal28 (.bool true), .fn 18 (ESmS 14) zSal29, .ok (.fn 14 zSal29 0), .is (.fn 14 zSal29 0) (.bool true), .fn 22 (EBoot 9) zSal18, .ok (.fn 9 zSal18 2), .fn 23 (EBoot 10) zSal18, .ok (.fn 10 zSal18 2), .fn 18 (ESmS 14) zSal27, .ok (.fn 14 zSal27 0), .is (.fn 14 zSal27 0) (.bool true), .fn 24 (EMayN 11) zSal18, .ok (.fn 11 zSal18 0), .is (.fn 11 zSal18 0) (.bool true), .fn 24 (EMayN 11) zSal21, .ok (.fn 11 zSal21 0), .fn 25 (EMayN 12) zSal21, .ok (.fn 12 zSal21 0), .ok (rop ROp.eqB [.fn 11 zSal21 0, .fn 12 zSal21 0]), .is (rop ROp.eqB [.fn 11 zSal21 0, .fn 12 zSal21 0]) (.bool true), .fn 26 (ESmS 13) zSal17, .ok (.fn 13 zSal17 0), .fn 18 (ESmS 14) zSal17, .ok (.fn 14 zSal17 0), .ok (rop ROp.eqB [.fn 13 zSal17 0, .fn 14 zSal17 0]), .is (rop ROp.eqB [.fn 13 zSal17 0, .fn 14 zSal17 0]) (.bool true), .fn 27 (ENew 15) [], .ok (.fn 15 [] 2), .fn 28 (ENew 16) [], .ok (.fn 16 [] 2), .fn 18 (ESmS 14) zSal33, .ok (.fn 14 zSal33 0), .is (.fn 14 zSal33 0) (.bool true), .ok zSal35], [zSal35]) := by kernel_rfl

@[simp] theorem kMayN (k : Nat) : (EMayN k).k = k := rfl
@[simp] theorem kWo (k : Nat) : (EWo k).k = k := rfl
def WOk (l : List (Int × ByteArray)) : Prop := ∀ w ∈ l, -9223372036854775808 ≤ w.1 ∧ w.1 ≤ 9223372036854775807 ∧ w.2.size ≤ 9223372036854775807
def ELaw (k : Nat) : FnE := { k := k, ins := [none, none, none, none, none, none, none, none, none], leaks := [true, true, false, true, false, false, false, false, false], outs := [none], kinds := [.truth] }
def RL (ps qs : List PV) : Prop := ∃ (p m : List Nat) (name : ByteArray) (wild : List (Int × ByteArray)) (c q f h : Nat) (to : Int), p.length ≤ 9223372036854775807 ∧ (∀ z ∈ p, z < 256) ∧ m.length ≤ 9223372036854775807 ∧ (∀ z ∈ m, z < 256) ∧ name.size ≤ 9223372036854775807 ∧ wild.length ≤ 9223372036854775807 ∧ WOk wild ∧ c < 256 ∧ q < 256 ∧ f < 256 ∧ h < 256 ∧ ps = [pRow encU p, pRow encU m, pS name, pRow encW wild, pU (c : Int), pU (q : Int), pU (f : Int), pU (h : Int), pI to] ∧ qs = [pB true]
theorem fL : ∀ ps q1 q2, RL ps q1 → RL ps q2 → q1 = q2 := by
  rintro ps q1 q2 ⟨_, _, _, _, _, _, _, _, _, _, _, _, _, _, _, _, _, _, _, _, _, rfl⟩ ⟨_, _, _, _, _, _, _, _, _, _, _, _, _, _, _, _, _, _, _, _, _, rfl⟩; rfl
noncomputable def G : Fns := fun k => match k with | 1 => spec ROpenP | 2 => spec ROpen | 3 => spec RFlushP | 4 => spec RFlush | 5 => spec RGoneP | 6 => spec RGone | 7 => spec RTrue | 8 => spec RTurn | 9 => spec RBootP | 10 => spec RBoot | 11 => spec RMayS | 12 => spec RMayS | 13 => spec RSmS | 14 => spec RSmS | 15 => spec RNew | 16 => spec RNew | 22 => spec RWs | 23 => spec RNm | 24 => spec RSt | _ => fun _ => none
theorem u1 : ToldF 14 (EOpen 1) (G 1) := toldOpenP 1
theorem u2 : ToldF 15 (EOpen 2) (G 2) := toldOpen 2
theorem u3 : ToldF 16 (EFlush 3) (G 3) := toldFlushP 3
theorem u4 : ToldF 17 (EFlush 4) (G 4) := toldFlush 4
theorem u5 : ToldF 19 (EOpen 5) (G 5) := toldGoneP 5
theorem u6 : ToldF 20 (EOpen 6) (G 6) := toldGone 6
theorem u7 : ToldF 9 (ETrue 7) (G 7) := told_closed 7 fun w => calls_true names_ok mixed_ok fil.noOrc_ok (args := []) ranB w
theorem u8 : ToldF 21 (ETurn 8) (G 8) := toldTurn 8
theorem u9 : ToldF 22 (EBoot 9) (G 9) := toldBootP 9
theorem u10 : ToldF 23 (EBoot 10) (G 10) := toldBoot 10
theorem u11 : ToldF 24 (EMayN 11) (G 11) := told_kinds (toldMayP 11) rfl rfl rfl rfl rfl
theorem u12 : ToldF 25 (EMayN 12) (G 12) := told_kinds (toldMayD 12) rfl rfl rfl rfl rfl
theorem u13 : ToldF 26 (ESmS 13) (G 13) := toldSmP 13
theorem u14 : ToldF 18 (ESmS 14) (G 14) := toldSmD 14
theorem u15 : ToldF 27 (ENew 15) (G 15) := toldNewP 15
theorem u16 : ToldF 28 (ENew 16) (G 16) := toldNew 16
theorem u22 : ToldP 13 (EWo 22) (G 22) := toldWo 22
theorem u23 : ToldP 12 (ENm 23) (G 23) := toldNm 23
theorem u24 : ToldP 11 (ESt 24) (G 24) := toldSt 24
theorem G7 : G 7 [] = some [pB true] := spec_of fTrue ⟨rfl, rfl⟩
theorem orcA_ok : OrcOk Try.prog orcA := orcOr_ok (orcFn_ok tabA) (orcP_ok tabAP)
theorem cutA : flA = flA.take 6 ++ .block (blockId (nth flA 6)) (.loop (loopBody (nth flA 6))) :: flA.drop 7 := by kernel_rfl
theorem cutA2 : flA.drop 7 = (flA.drop 7).take 3 ++ ((flA.drop 10).take 4 ++ flA.drop 14) := by kernel_rfl
theorem r_eqB (b : Bool) : ropPV .eqB [pB b, pB b] = some (pB true) := by cases b <;> rfl
theorem same_self {s : StM} (h : MayS s) : G 14 [pRow encF s.files, pRow encM s.marks, pI s.epoch, pRow encF s.files, pRow encM s.marks, pI s.epoch] = some [pB true] :=
  spec_of fSmS ⟨s, s, by rw [h.fl]; omega, by rw [h.ml]; omega, by rw [h.fl]; omega, by rw [h.ml]; omega, rfl, by rw [sameS_iff.2 rfl]⟩
theorem both_open {s : StM} (h : MayS s) {c q : Int} (h1 : 1 ≤ c) (h2 : c ≤ 3) (h3 : 1 ≤ q) (h4 : q ≤ 1073741824) {name : ByteArray} (h5 : name.size ≤ 1000000) : ∃ (t : StM) (m : MarkM), MayS t ∧
    G 1 [pRow encF s.files, pRow encM s.marks, pI s.epoch, pI c, pI q, pS name] = some [pRow encF t.files, pRow encM t.marks, pI t.epoch, pI m.1, pI m.2.1, pI m.2.2.1, pI m.2.2.2] ∧
    G 2 [pRow encF s.files, pRow encM s.marks, pI s.epoch, pI c, pI q, pS name] = some [pRow encF t.files, pRow encM t.marks, pI t.epoch, pI m.1, pI m.2.1, pI m.2.2.1, pI m.2.2.2] :=
  ⟨(openS s c q name).1, (openS s c q name).2, may_open h c q name (by omega) h4, spec_of fOpenP ⟨s, c, q, name, h, h1, h2, h3, h4, h5, rfl, rfl⟩, spec_of fOpen ⟨s, c, q, name, h.st, by omega, by omega, by omega, rfl, rfl⟩⟩
theorem both_gone {s : StM} (h : MayS s) {c q f : Int} (h1 : 1 ≤ c) (h2 : c ≤ 3) (h3 : 1 ≤ q) (h4 : q ≤ 1073741824) (h5 : -1000 ≤ f) (h6 : f ≤ 1000) : ∃ (t : StM) (m : MarkM), MayS t ∧
    G 5 [pRow encF s.files, pRow encM s.marks, pI s.epoch, pI c, pI q, pI f] = some [pRow encF t.files, pRow encM t.marks, pI t.epoch, pI m.1, pI m.2.1, pI m.2.2.1, pI m.2.2.2] ∧
    G 6 [pRow encF s.files, pRow encM s.marks, pI s.epoch, pI c, pI q, pI f] = some [pRow encF t.files, pRow encM t.marks, pI t.epoch, pI m.1, pI m.2.1, pI m.2.2.1, pI m.2.2.2] :=
  ⟨(goneS s c q f).1, (goneS s c q f).2, may_gone h c q f (by omega) h4, spec_of fGoneP ⟨s, c, q, f, h, h1, h2, h3, h4, by omega, by omega, rfl, rfl⟩, spec_of fGone ⟨s, c, q, f, h.st, by omega, by omega, by omega, by omega, rfl, rfl⟩⟩
theorem both_flush {s : StM} (h : MayS s) {c q f : Int} (h1 : 1 ≤ c) (h2 : c ≤ 3) (h3 : 1 ≤ q) (h4 : q ≤ 1073741824) (h5 : -1000 ≤ f) (h6 : f ≤ 1000) {l : List (Int × ByteArray)} (h7 : l.length ≤ 1000000) (h8 : ∀ w ∈ l, -9223372036854775808 ≤ w.1 ∧ w.1 ≤ 9223372036854775807 ∧ w.2.size ≤ 1000000) : ∃ (t : StM) (m : MarkM), MayS t ∧
    G 3 [pRow encF s.files, pRow encM s.marks, pI s.epoch, pI c, pI q, pI f, pRow encW l] = some [pRow encF t.files, pRow encM t.marks, pI t.epoch, pI m.1, pI m.2.1, pI m.2.2.1, pI m.2.2.2] ∧
    G 4 [pRow encF s.files, pRow encM s.marks, pI s.epoch, pI c, pI q, pI f, pRow encW l] = some [pRow encF t.files, pRow encM t.marks, pI t.epoch, pI m.1, pI m.2.1, pI m.2.2.1, pI m.2.2.2] :=
  ⟨(flushS s c q f l).1, (flushS s c q f l).2, may_flush h c q f l (by omega) h4, spec_of fFlushP ⟨s, c, q, f, l, h, h1, h2, h3, h4, by omega, by omega, h7, h8, rfl, rfl⟩, spec_of fFlush ⟨s, c, q, f, l, h.st, by omega, by omega, by omega, by omega, h7, h8, rfl, rfl⟩⟩
set_option maxHeartbeats 4000000 in
theorem told (k0 : Nat) : ToldF 3 (ELaw k0) (spec RL) := by
  refine told_by G _ (bodyOf Try.prog 3) Try.func3 (by kernel_rfl) sh0 (by kernel_rfl) ?_ ?_
  · intro ps qs h i hi
    obtain ⟨p, m, name, wild, c, q, f, hw, to, _, _, _, _, _, _, _, _, _, _, _, rfl, rfl⟩ := of_spec h
    simp [sh0] at hi
    match i, hi with
    | 0, hi => simp at hi
    | 1, hi => simp at hi
    | 2, hi => exact ⟨_, rfl, rfl⟩
    | 3, hi => simp at hi
    | 4, hi => exact ⟨_, rfl, rfl⟩
    | 5, hi => exact ⟨_, rfl, rfl⟩
    | 6, hi => exact ⟨_, rfl, rfl⟩
    | 7, hi => exact ⟨_, rfl, rfl⟩
    | 8, hi => exact ⟨_, rfl, rfl⟩
    | i + 9, hi => simp at hi
  · intro C ps qs hF h a w hsh
    obtain ⟨p, m, name, wild, c, q, f, hw, to, hp, hz, hm, hzm, hn, hwl, hwo, hc, hq, hf, hhw, rfl, rfl⟩ := of_spec h
    show wpL Try.prog flA _ a w
    have fin : ∀ qs a1 w1, qs = [pB true] → InShape C shE qs a1 w1 → (AX.ret = .normal → wpL Try.prog [] (fun e a' w' => (e = .normal ∨ e = .ret) ∧ ∃ sh' ps' es, InShape C sh' ps' a' w' ∧ resTo Try.prog Try.f3 sh' (ELaw k0) = some es ∧ evs (fun i => ps'[i]?) G es = some [pB true]) a1 w1) ∧ (AX.ret ≠ .normal → (AX.ret.to = .normal ∨ AX.ret.to = .ret) ∧ ∃ sh' ps' es, InShape C sh' ps' a1 w1 ∧ resTo Try.prog Try.f3 sh' (ELaw k0) = some es ∧ evs (fun i => ps'[i]?) G es = some [pB true]) := by
      rintro qs a1 w1 rfl h1
      exact ⟨fun h => (by cases h), fun _ => ⟨.inr rfl, shE, _, [SX.var 0], h1, by kernel_rfl, rfl⟩⟩
    by_cases hp1 : 60 < p.length
    · rw [← List.append_nil flA]
      refine seg_ok names_ok mixed_ok orcA_ok q0 hsh ?_ (fun qs a1 w1 hq h1 => fin qs a1 w1 (by simp [evs, SX.ev] at hq; exact hq.symm) h1)
      simp only [List.mem_cons, List.not_mem_nil, or_false, forall_eq_or_imp, forall_eq]
      simp [-holds_idx, holds_idxP, holds_cellsP, Base.ev, SX.ev, evs, Value.oneCell', hF, lenPV_row, binPV, G7, u7]
      all_goals omega
    by_cases hm1 : 20 < m.length
    · rw [← List.append_nil flA]
      refine seg_ok names_ok mixed_ok orcA_ok stateAll.q1 hsh ?_ (fun qs a1 w1 hq h1 => fin qs a1 w1 (by simp [evs, SX.ev] at hq; exact hq.symm) h1)
      simp only [List.mem_cons, List.not_mem_nil, or_false, forall_eq_or_imp, forall_eq]
      simp [-holds_idx, holds_idxP, holds_cellsP, Base.ev, SX.ev, evs, Value.oneCell', hF, lenPV_row, binPV, G7, u7]
      all_goals omega
    by_cases hn1 : 30 < name.size
    · rw [← List.append_nil flA]
      refine seg_ok names_ok mixed_ok orcA_ok q2 hsh ?_ (fun qs a1 w1 hq h1 => fin qs a1 w1 (by simp [evs, SX.ev] at hq; exact hq.symm) h1)
      simp only [List.mem_cons, List.not_mem_nil, or_false, forall_eq_or_imp, forall_eq]
      simp [-holds_idx, holds_idxP, holds_cellsP, Base.ev, SX.ev, evs, Value.oneCell', hF, lenPV_row, slenPV, binPV, G7, u7]
      all_goals omega
    by_cases hw1 : 8 < wild.length
    · rw [← List.append_nil flA]
      refine seg_ok names_ok mixed_ok orcA_ok q3 hsh ?_ (fun qs a1 w1 hq h1 => fin qs a1 w1 (by simp [evs, SX.ev] at hq; exact hq.symm) h1)
      simp only [List.mem_cons, List.not_mem_nil, or_false, forall_eq_or_imp, forall_eq]
      simp [-holds_idx, holds_idxP, holds_cellsP, Base.ev, SX.ev, evs, Value.oneCell', hF, lenPV_row, slenPV, binPV, G7, u7]
      all_goals omega
    rw [cutA]
    refine seg_ok names_ok mixed_ok orcA_ok pre hsh ?_ ?_
    · simp only [List.mem_cons, List.not_mem_nil, or_false, forall_eq_or_imp, forall_eq]
      simp [-holds_idx, holds_idxP, holds_cellsP, Base.ev, SX.ev, evs, Value.oneCell', hF, lenPV_row, slenPV, binPV, G7, u7]
      all_goals omega
    intro qs a1 w1 hq0 h1
    refine ⟨fun _ => ?_, fun h => absurd rfl h⟩
    simp [evs, SX.ev] at hq0
    subst hq0
    refine block_loop (fun n a w => ∃ i : Nat, i ≤ wild.length ∧ n = wild.length - i ∧ (∀ j (hj : j < wild.length), j < i → wild[j].2.size ≤ 40) ∧ InShape C shW [pRow encU p, pRow encU m, pS name, pRow encW wild, pU (c : Int), pU (q : Int), pU (f : Int), pU (hw : Int), pI to, pI (i : Int)] a w) ?_ (n := wild.length) ⟨0, by omega, by omega, fun j _ hj => absurd hj (by omega), h1⟩
    rintro n a w ⟨i, hi, rfl, hb, hin⟩
    show wpL Try.prog lpA _ a w
    rw [← List.append_nil lpA]
    by_cases hlt : i < wild.length
    · obtain ⟨c0, c1⟩ := cellW2 wild i hlt
      have ix1 := idxP_row encW wild i 2 1 .i64 rfl hlt (by decide)
      have ix2 := idxP_row encW wild i 2 2 .i64 rfl hlt (by decide)
      have v3 : IntKind.i64.wrap ((i : Int) + 1) = (i : Int) + 1 := wrapI _ (by omega) (by omega)
      by_cases h40 : 40 < wild[i].2.size
      · generalize wild[i] = x at *
        have h40' : (40 : Int) < (x.2.size : Int) := by omega
        refine seg_ok names_ok mixed_ok orcA_ok wl hin ?_ (fun qs a1 w1 hq h1 => ⟨fun h => (by cases h), fun _ => .inr (.inr ⟨rfl, (fin qs a1 w1 (by simp [evs, SX.ev] at hq; exact hq.symm) h1).2 (by simp)⟩)⟩)
        simp only [List.mem_cons, List.not_mem_nil, or_false, forall_eq_or_imp, forall_eq]
        simp [-holds_idx, holds_idxP, holds_cellsP, Base.ev, SX.ev, evs, Value.oneCell', lenPV_row, slenPV, binPV, hlt, c0, c1, ix1, ix2, h40, h40']
      · have hnx : ∀ j (hj : j < wild.length), j < i + 1 → wild[j].2.size ≤ 40 := fun j hj hji => by
          by_cases hje : j = i
          · subst hje; omega
          · exact hb j hj (by omega)
        clear hb
        have h40' : ¬ (40 : Int) < (wild[i].2.size : Int) := by omega
        generalize wild[i] = x at *
        refine seg_ok names_ok mixed_ok orcA_ok wn hin ?_ (fun qs a1 w1 hq h1 => ⟨fun _ => .inl ⟨rfl, wild.length - (i + 1), by omega, i + 1, by omega, rfl, hnx, by simp [evs, SX.ev, binPV, v3] at hq; subst hq; exact h1⟩, fun h => absurd rfl h⟩)
        simp only [List.mem_cons, List.not_mem_nil, or_false, forall_eq_or_imp, forall_eq]
        simp [-holds_idx, holds_idxP, holds_cellsP, Base.ev, SX.ev, evs, Value.oneCell', lenPV_row, slenPV, binPV, v3, hlt, c0, c1, ix1, ix2, h40, h40']
    · have hie : i = wild.length := by omega
      subst hie
      have hwf : ∀ w ∈ wild, -9223372036854775808 ≤ w.1 ∧ w.1 ≤ 9223372036854775807 ∧ w.2.size ≤ 1000000 := fun w hm => by
        obtain ⟨j, hj, rfl⟩ := List.getElem_of_mem hm
        have h1 := hwo _ (List.getElem_mem hj)
        have h2 := hb j hj hj
        omega
      clear hb
      refine seg_ok names_ok mixed_ok orcA_ok wx hin ?_ ?_
      · simp only [List.mem_cons, List.not_mem_nil, or_false, forall_eq_or_imp, forall_eq]
        simp [-holds_idx, holds_idxP, holds_cellsP, Base.ev, SX.ev, evs, Value.oneCell', lenPV_row, binPV]
      intro qs a1 w1 hq0 h1
      refine ⟨fun h => (by cases h), fun _ => .inr (.inl ⟨by rw [show blockId (nth flA 6) = 0 by kernel_rfl]; rfl, ?_⟩)⟩
      simp [evs, SX.ev] at hq0
      subst hq0
      rw [cutA2]
      obtain ⟨s, n2, md, e24⟩ := made (p := p) (by omega) hz
      have e24 : G 24 [pI 25, pRow encU p, pI 0] = some [pRow encF s.files, pRow encM s.marks, pI s.epoch, pRow encU p, pI (n2 : Int)] := e24
      have wtc : ((c : Int).tmod 3) = ((c % 3 : Nat) : Int) := rfl
      have wtf : ((f : Int).tmod 9) = ((f % 9 : Nat) : Int) := rfl
      have hrc : c % 3 < 3 := Nat.mod_lt _ (by omega)
      have hrf : f % 9 < 9 := Nat.mod_lt _ (by omega)
      generalize c % 3 = cc at *
      generalize f % 9 = ff at *
      have wc : IntKind.i64.wrap (cc : Int) = (cc : Int) := wrapI _ (by omega) (by omega)
      have wq : IntKind.i64.wrap (q : Int) = (q : Int) := wrapI _ (by omega) (by omega)
      have wf : IntKind.i64.wrap (ff : Int) = (ff : Int) := wrapI _ (by omega) (by omega)
      have wc1 : IntKind.i64.wrap (1 + (cc : Int)) = 1 + (cc : Int) := wrapI _ (by omega) (by omega)
      have wq1 : IntKind.i64.wrap (1 + (q : Int)) = 1 + (q : Int) := wrapI _ (by omega) (by omega)
      have wf1 : IntKind.i64.wrap ((ff : Int) - 1) = (ff : Int) - 1 := wrapI _ (by omega) (by omega)
      refine seg_ok names_ok mixed_ok orcA_ok bg h1 ?_ ?_
      · simp only [List.mem_cons, List.not_mem_nil, or_false, forall_eq_or_imp, forall_eq]
        simp [-holds_idx, holds_idxP, holds_cellsP, Base.ev, SX.ev, evs, Value.oneCell', hF, binPV, convPV, wtc, wtf, wc, wq, wf, wc1, wq1, wf1, e24, u24]
      intro qs a1 w1 hq0 h1
      refine ⟨fun _ => ?_, fun h => absurd rfl h⟩
      simp [evs, SX.ev, hF, e24, binPV, convPV, wtc, wtf, wc, wq, wf, wc1, wq1, wf1] at hq0
      subst hq0
      obtain ⟨cz, hcz⟩ : ∃ z : Int, z = 1 + (cc : Int) := ⟨_, rfl⟩
      obtain ⟨qz, hqz⟩ : ∃ z : Int, z = 1 + (q : Int) := ⟨_, rfl⟩
      obtain ⟨fz, hfz⟩ : ∃ z : Int, z = (ff : Int) - 1 := ⟨_, rfl⟩
      rw [← hcz, ← hqz, ← hfz] at h1
      clear e24 wtc wtf wc wq wf wc1 wq1 wf1 hin hsh
      have okm : OkP m 0 := ⟨by omega, by omega, hzm⟩
      have e23 : G 23 [pRow encU m, pI 0] = some [pS (nmt (numV m 0 10)), pRow encU m, pI (numN m 0 : Int)] := spec_of fNm ⟨0, m, okm, rfl, rfl⟩
      have okm1 := pck.okN okm
      have hns := nmt_size (numV m 0 10)
      generalize nmt (numV m 0 10) = nm at *
      generalize numN m 0 = n1 at *
      have e22 : G 22 [pI 7, pRow encU m, pI (n1 : Int)] = some [pRow encW (writes m n1 7).1, pRow encU m, pI ((writes m n1 7).2 : Int)] := spec_of fWs ⟨7, n1, m, by omega, okm1, rfl, rfl⟩
      have hws := some_writes m n1 7
      have hwsl := writes_len m n1 7
      generalize (writes m n1 7).1 = ws at *
      generalize (writes m n1 7).2 = n4 at *
      have hwsf : ∀ w ∈ ws, -9223372036854775808 ≤ w.1 ∧ w.1 ≤ 9223372036854775807 ∧ w.2.size ≤ 1000000 := fun w hm => by have := hws w hm; omega
      obtain ⟨t1, m1, ht1, a1o, a2o⟩ := both_open md.may (c := cz) (q := qz) (name := name) (by omega) (by omega) (by omega) (by omega) (by omega)
      obtain ⟨t2, m2, ht2, b1o, b2o⟩ := both_open md.may (c := cz) (q := qz) (name := nm) (by omega) (by omega) (by omega) (by omega) (by omega)
      obtain ⟨t3, m3, ht3, a1f, a2f⟩ := both_flush md.may (c := cz) (q := qz) (f := fz) (l := wild) (by omega) (by omega) (by omega) (by omega) (by omega) (by omega) (by omega) hwf
      obtain ⟨t4, m4, ht4, b1f, b2f⟩ := both_flush md.may (c := cz) (q := qz) (f := fz) (l := ws) (by omega) (by omega) (by omega) (by omega) (by omega) (by omega) (by omega) hwsf
      obtain ⟨t5, m5, ht5, c1f, c2f⟩ := both_flush md.may (c := cz) (q := qz) (f := fz) (l := []) (by omega) (by omega) (by omega) (by omega) (by omega) (by omega) (by simp) (by simp)
      obtain ⟨t6, m6, ht6, a1g, a2g⟩ := both_gone md.may (c := cz) (q := qz) (f := fz) (by omega) (by omega) (by omega) (by omega) (by omega) (by omega)
      have r0 : (PV.row 0 []) = pRow encW [] := rfl
      have s1 := same_self ht1
      have s2 := same_self ht2
      have s3 := same_self ht3
      have s4 := same_self ht4
      have s5 := same_self ht5
      have s6 := same_self ht6
      have post : ∀ a w, InShape C shD [pU (hw : Int), pI to, pI cz, pI qz, pI fz, pRow encF s.files, pRow encM s.marks, pI s.epoch] a w → wpL Try.prog (flA.drop 14) (fun e a' w' => (e = .normal ∨ e = .ret) ∧ ∃ sh' ps' es, InShape C sh' ps' a' w' ∧ resTo Try.prog Try.f3 sh' (ELaw k0) = some es ∧ evs (fun i => ps'[i]?) G es = some [pB true]) a w := by
        clear a1o a2o b1o b2o a1f a2f b1f b2f c1f c2f s1 s2 s3 s4 s5 e22 e23 h1
        intro a w hin
        rw [← List.append_nil (flA.drop 14)]
        have g8 : G 8 [pRow encF s.files, pRow encM s.marks, pI s.epoch, pU (hw : Int), pI fz, pI to] = some (pSt (turnedS s hw fz to)) := spec_of fTurn ⟨s, hw, fz, to, md.may, by omega, by omega, by omega, rfl, rfl⟩
        have hpre : MayPre (turnedS s hw fz to) := turned_pre md.may _ _ _
        have hfl := md.may.fl
        have hml := md.may.ml
        have hep := md.may.ep
        generalize turnedS s hw fz to = t at *
        have g11 : G 11 [pRow encF t.files, pRow encM t.marks, pI t.epoch] = some [pB (mayS t)] := spec_of fMayS ⟨t, hpre, rfl, rfl⟩
        have g12 : G 12 [pRow encF t.files, pRow encM t.marks, pI t.epoch] = some [pB (mayS t)] := spec_of fMayS ⟨t, hpre, rfl, rfl⟩
        have g11s : G 11 [pRow encF s.files, pRow encM s.marks, pI s.epoch] = some [pB true] := spec_of fMayS ⟨s, md.may.pre, rfl, by rw [mayS_eq.2 md.may]⟩
        have g13 : G 13 [pRow encF s.files, pRow encM s.marks, pI s.epoch, pRow encF t.files, pRow encM t.marks, pI t.epoch] = some [pB (sameS s t)] := spec_of fSmS ⟨s, t, by omega, by omega, hpre.fl, hpre.ml, rfl, rfl⟩
        have g14 : G 14 [pRow encF s.files, pRow encM s.marks, pI s.epoch, pRow encF t.files, pRow encM t.marks, pI t.epoch] = some [pB (sameS s t)] := spec_of fSmS ⟨s, t, by omega, by omega, hpre.fl, hpre.ml, rfl, rfl⟩
        have hb : min s.epoch 1073741823 + 1 = min (s.epoch + 1) 1073741824 := by omega
        have g9 : G 9 [pRow encF s.files, pRow encM s.marks, pI s.epoch] = some [pRow encF s.files, pRow encM s.marks, pI (min (s.epoch + 1) 1073741824)] := by
          rw [← hb]
          exact spec_of fBootP ⟨s, by omega, by omega, by omega, by omega, by omega, rfl, rfl⟩
        have g10 : G 10 [pRow encF s.files, pRow encM s.marks, pI s.epoch] = some [pRow encF s.files, pRow encM s.marks, pI (min (s.epoch + 1) 1073741824)] := spec_of fBoot ⟨s, md.may.st, rfl, rfl⟩
        have sb := same_self (may_boot md.may)
        have sb : G 14 [pRow encF s.files, pRow encM s.marks, pI (min (s.epoch + 1) 1073741824), pRow encF s.files, pRow encM s.marks, pI (min (s.epoch + 1) 1073741824)] = some [pB true] := sb
        have g15 : G 15 [] = some [pRow encF newS.files, pRow encM newS.marks, pI newS.epoch] := spec_of fNew ⟨rfl, rfl⟩
        have g16 : G 16 [] = some [pRow encF newS.files, pRow encM newS.marks, pI newS.epoch] := spec_of fNew ⟨rfl, rfl⟩
        have sn := same_self may_new
        generalize newS = nw at *
        generalize min (s.epoch + 1) 1073741824 = ep1 at *
        generalize mayS t = bt at *
        generalize sameS s t = bs at *
        refine seg_ok names_ok mixed_ok orcA_ok stateAll.post hin ?_ (fun qs a1 w1 hq h1 => fin qs a1 w1 (by simp [evs, SX.ev] at hq; exact hq.symm) h1)
        simp only [List.mem_cons, List.not_mem_nil, or_false, forall_eq_or_imp, forall_eq]
        simp [-holds_idx, holds_idxP, holds_cellsP, Base.ev, SX.ev, evs, Value.oneCell', hF, a1g, a2g, s6, g8, g9, g10, g11, g12, g11s, g13, g14, g15, g16, sb, sn, r_eqI, r_eqB, r_all4, rnot, u5, u6, u8, u9, u10, u11, u12, u13, u14, u15, u16]
      by_cases hw0 : ws = []
      · subst hw0
        refine seg_ok names_ok mixed_ok orcA_ok lp0 h1 ?_ (fun qs a1 w1 hq h1 => ⟨fun _ => post a1 w1 (by simp [evs, SX.ev] at hq; subst hq; exact h1), fun h => absurd rfl h⟩)
        simp only [List.mem_cons, List.not_mem_nil, or_false, forall_eq_or_imp, forall_eq]
        simp [-holds_idx, holds_idxP, holds_cellsP, Base.ev, SX.ev, evs, Value.oneCell', hF, lenPV_row, binPV, e22, e23, r0, a1o, a2o, b1o, b2o, a1f, a2f, c1f, c2f, s1, s2, s3, s5, r_eqI, r_all4, rnot, u1, u2, u3, u4, u14, u22, u23]
      · have hwn : 1 ≤ ws.length := by
          cases ws with
          | nil => exact absurd rfl hw0
          | cons x r => simp
        refine seg_ok names_ok mixed_ok orcA_ok lp1 h1 ?_ (fun qs a1 w1 hq h1 => ⟨fun _ => post a1 w1 (by simp [evs, SX.ev] at hq; subst hq; exact h1), fun h => absurd rfl h⟩)
        simp only [List.mem_cons, List.not_mem_nil, or_false, forall_eq_or_imp, forall_eq]
        simp [-holds_idx, holds_idxP, holds_cellsP, Base.ev, SX.ev, evs, Value.oneCell', hF, lenPV_row, binPV, e22, e23, r0, a1o, a2o, b1o, b2o, a1f, a2f, b1f, b2f, c1f, c2f, s1, s2, s3, s4, s5, r_eqI, r_all4, rnot, u1, u2, u3, u4, u14, u22, u23]
        all_goals omega
theorem writes_of {w : World} {v : Value} {xs : List (List Value)} (h : IsThings [.int .i64, .str] w v xs) : ∃ l : List (Int × ByteArray), l.length = xs.length ∧ WOk l ∧ Reads w (pRow encW l) v := by
  obtain ⟨hx, a, cap, rfl, h1, h2, h3⟩ := h
  have hs : ∀ x ∈ xs, ∃ (n : Int) (s : ByteArray), x = [.int .i64 n, .string s] ∧ (Lit.int .i64 n).wf = true ∧ s.size ≤ maxLen := fun x hm => by
    obtain ⟨hl, hk⟩ := hx x hm
    match x, hl with
    | [u, v], _ =>
      obtain ⟨n, rfl, hn⟩ := hk 0 _ u rfl rfl
      obtain ⟨s, rfl, hs⟩ := hk 1 _ v rfl rfl
      exact ⟨n, s, rfl, hn, hs⟩
  let f : List Value → Int × ByteArray := fun x => match x with | [.int _ n, .string s] => (n, s) | _ => (0, ⟨⟨[]⟩⟩)
  refine ⟨xs.map f, by simp, fun s hm => ?_, ?_⟩
  · obtain ⟨x, hx', rfl⟩ := List.mem_map.1 hm
    obtain ⟨n, s, rfl, hn, hs⟩ := hs x hx'
    obtain ⟨b1, b2⟩ := bounds_i64 hn
    exact ⟨b1, b2, maxLen_le hs⟩
  · rw [reads_row]
    refine ⟨a, cap, by simp, by simpa using h1, h2, fun hp => ?_⟩
    simp only [List.length_map] at hp
    obtain ⟨b, off, rfl, hc⟩ := h3 hp
    have key : ∀ (j : Nat) (hj : j < xs.length) (r : Nat) (u : Value), (encW.enc (f xs[j]))[r]? = some u → w.cell? ⟨b, off + (j * 2 + r), none⟩ = some u := fun j hj r u hu => by
      obtain ⟨n, s, hx0, _⟩ := hs xs[j] (List.getElem_mem hj)
      refine hc j xs[j] r u (List.getElem?_eq_getElem hj) ?_
      have hf : f xs[j] = (n, s) := by rw [hx0]
      rw [hf] at hu
      rw [hx0]
      exact hu
    refine ⟨b, off, rfl, ?_, fun i u hu => ?_⟩
    · have := key 0 hp 0 _ (by rfl)
      exact World.block_lt_of_cell? w _ this
    · have hlen : i < (encW.all (xs.map f)).length := (List.getElem?_eq_some_iff.1 hu).1
      rw [Enc.all_length, List.length_map] at hlen
      have hlen : i < xs.length * 2 := hlen
      have hj : i / 2 < xs.length := by omega
      have hi : i = i / 2 * 2 + i % 2 := by omega
      have hx1 : (xs.map f)[i / 2]? = some (f xs[i / 2]) := by rw [List.getElem?_map, List.getElem?_eq_getElem hj]; rfl
      have hac := all_cell encW (xs.map f) (i / 2) (i % 2) _ hx1 (Nat.mod_lt _ (by decide))
      have hac : (encW.all (xs.map f))[i / 2 * 2 + i % 2]? = (encW.enc (f xs[i / 2]))[i % 2]? := hac
      rw [← hi, hu] at hac
      have := key (i / 2) hj (i % 2) u hac.symm
      rwa [← hi] at this
theorem walk (w : World) (v : Value) (len : Nat) (Z : Nat → Int) (hg : IsRow .u8 w v len Z) (v1 : Value) (len1 : Nat) (Z1 : Nat → Int) (hg1 : IsRow .u8 w v1 len1 Z1) (name : ByteArray) (hn : name.size ≤ maxLen) (v3 : Value) (xs : List (List Value)) (hx : IsThings [.int .i64, .str] w v3 xs)
    (a : Int) (wa : (Lit.int .u8 a).wf = true) (b : Int) (wb : (Lit.int .u8 b).wf = true) (c : Int) (wc : (Lit.int .u8 c).wf = true) (d : Int) (wd : (Lit.int .u8 d).wf = true) (to : Int) (wt : (Lit.int .i64 to).wf = true) :
    Calls Try.prog 3 #[v, v1, .string name, v3, .int .u8 a, .int .u8 b, .int .u8 c, .int .u8 d, .int .i64 to] w fun e w' => e = .returned (.bool true) ∧ Ex w w' := by
  obtain ⟨p, hbp, hlen, hr⟩ := rowU hg
  obtain ⟨m, hbm, hlm, hrm⟩ := rowU hg1
  obtain ⟨a0, a1⟩ := bounds_u8 wa
  obtain ⟨an, rfl⟩ : ∃ n : Nat, a = (n : Int) := ⟨a.toNat, by omega⟩
  obtain ⟨b0, b1⟩ := bounds_u8 wb
  obtain ⟨bn, rfl⟩ : ∃ n : Nat, b = (n : Int) := ⟨b.toNat, by omega⟩
  obtain ⟨c0, c1⟩ := bounds_u8 wc
  obtain ⟨cn, rfl⟩ : ∃ n : Nat, c = (n : Int) := ⟨c.toNat, by omega⟩
  obtain ⟨d0, d1⟩ := bounds_u8 wd
  obtain ⟨dn, rfl⟩ : ∃ n : Nat, d = (n : Int) := ⟨d.toNat, by omega⟩
  have hxl : xs.length ≤ 9223372036854775807 := by
    obtain ⟨_, _, cap, _, h2, h3, _⟩ := hx
    exact Nat.le_trans h2 (maxLen_le h3)
  obtain ⟨l, hll, hls, hrl⟩ := writes_of hx
  refine told_true (told 0) rfl (us := [v, v1, .string name, v3, .int .u8 (an : Int), .int .u8 (bn : Int), .int .u8 (cn : Int), .int .u8 (dn : Int), .int .i64 to]) (ps := [pRow encU p, pRow encU m, pS name, pRow encW l, pU (an : Int), pU (bn : Int), pU (cn : Int), pU (dn : Int), pI to]) (spec_of fL ⟨p, m, name, l, an, bn, cn, dn, to, hlen, hbp, hlm, hbm, maxLen_le hn, by omega, hls, by omega, by omega, by omega, by omega, rfl, rfl⟩) rfl rfl (fun i p u hp hu => ?_)
  match i, hp, hu with
  | 0, hp, hu => simp at hp hu; subst hp; subst hu; exact hr
  | 1, hp, hu => simp at hp hu; subst hp; subst hu; exact hrm
  | 2, hp, hu => simp at hp hu; subst hp; subst hu; exact plainReads rfl
  | 3, hp, hu => simp at hp hu; subst hp; subst hu; exact hrl
  | 4, hp, hu => simp at hp hu; subst hp; subst hu; exact plainReads rfl
  | 5, hp, hu => simp at hp hu; subst hp; subst hu; exact plainReads rfl
  | 6, hp, hu => simp at hp hu; subst hp; subst hu; exact plainReads rfl
  | 7, hp, hu => simp at hp hu; subst hp; subst hu; exact plainReads rfl
  | 8, hp, hu => simp at hp hu; subst hp; subst hu; exact plainReads rfl
  | i + 9, hp, hu => simp at hp
end Go.Proofs.Ytnelcjofgpplgaa.stateAll
