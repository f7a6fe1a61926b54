/- DiskAll by the symbolic engine. -/
import Derived.Test.YtfcdbknmajfkaaaRdk
import Derived.Test.YtfcdbknmajfkaaaSymC
import Derived.Test.YtfcdbknmajfkaaaFrame
namespace Go.Proofs.Ytfcdbknmajfkaaa.diskAll
open Go Go.RowKit eng SX Fact fil dsk rdk
open symD hiding pRow_inj
set_option linter.unusedVariables false
set_option linter.unusedSimpArgs false
set_option maxRecDepth 1000000

def ESc (k : Nat) : FnE := { k := k, ins := [none], leaks := [], outs := [none], kinds := [.num] }
def tabA (f : FuncId) : Option FnE := cond (Nat.beq f 13) (some (ENew 1)) (cond (Nat.beq f 14) (some (ENew 2)) (cond (Nat.beq f 15) (some (EFlush 3)) (cond (Nat.beq f 16) (some (EFlushR 4)) (cond (Nat.beq f 17) (some (ECrash 5)) (cond (Nat.beq f 18) (some (ECrashR 6)) (cond (Nat.beq f 19) (some (ERead 7)) (cond (Nat.beq f 20) (some (ERead 8)) (cond (Nat.beq f 21) (some (EWrite 9)) (cond (Nat.beq f 22) (some (EWriteR 10)) (cond (Nat.beq f 23) (some (ESc 11)) (cond (Nat.beq f 24) (some (ESame 12)) (cond (Nat.beq f 12) (some (ETrue 13)) none))))))))))))
noncomputable def flA := flat (bodyOf Try.prog 3)
noncomputable def lpA := flat (loopBody (nth flA 7))
noncomputable def bdA := flat (blockBody (nth lpA 2))
def bx : BoxT := ⟨28, 0, false, [.leaf, .leaf, .leaf, .leaf], none, false⟩
def rw4 : List (Option Bool) := [some true, some true, none, none]
def sh0 : Shape := ⟨[(0, .leaf), (1, .leaf), (2, .leaf), (3, .leaf), (4, .leaf)], [], [some false, none, none, some false, none], 211, 3⟩
def shA : Shape := ⟨[(0, .leaf), (1, .leaf), (2, .leaf), (3, .leaf), (4, .leaf), (11, .ptr 0 0 0 0), (12, .ptr 1 0 0 0), (13, .leaf)], [bx, bx], [some false, none, none, some false, none, none] ++ rw4 ++ rw4, 211, 3⟩
def shB : Shape := ⟨[(0, .leaf), (1, .leaf), (2, .leaf), (3, .leaf), (4, .leaf), (11, .ptr 0 0 0 0), (12, .ptr 1 0 0 0), (13, .leaf), (14, .leaf)], [bx, bx], [some false, none, none, some false, none, none, none] ++ rw4 ++ rw4, 211, 3⟩
def shR : Shape := ⟨[(10, .leaf)], [], [none], 211, 3⟩
theorem q1 : segTo Try.prog (orcFn tabA) 10000 flA sh0 [1, 1] shR [] = some (.ret, [.fn 12 (ETrue 13) [], .is (.fn 13 [] 0) (.bool true), .ok (.len (.var 0)), .ok (.bin .gtr (.len (.var 0)) (.con (.int .i64 30))), .is (.bin .gtr (.len (.var 0)) (.con (.int .i64 30))) (.bool true), .ok (.con (.bool true))], [.con (.bool true)]) := by kernel_rfl
theorem q2 : segTo Try.prog (orcFn tabA) 10000 flA sh0 [1, 0, 1] shR [] = some (.ret, [.fn 12 (ETrue 13) [], .is (.fn 13 [] 0) (.bool true), .ok (.len (.var 0)), .ok (.bin .gtr (.len (.var 0)) (.con (.int .i64 30))), .is (.bin .gtr (.len (.var 0)) (.con (.int .i64 30))) (.bool false), .ok (.slen (.var 2)), .ok (.bin .gtr (.slen (.var 2)) (.con (.int .i64 40))), .is (.bin .gtr (.slen (.var 2)) (.con (.int .i64 40))) (.bool true), .ok (.con (.bool true))], [.con (.bool true)]) := by kernel_rfl
theorem q3 : segTo Try.prog (orcFn tabA) 10000 flA sh0 [1, 0, 0, 1] shR [] = some (.ret, [.fn 12 (ETrue 13) [], .is (.fn 13 [] 0) (.bool true), .ok (.len (.var 0)), .ok (.bin .gtr (.len (.var 0)) (.con (.int .i64 30))), .is (.bin .gtr (.len (.var 0)) (.con (.int .i64 30))) (.bool false), .ok (.slen (.var 2)), .ok (.bin .gtr (.slen (.var 2)) (.con (.int .i64 40))), .is (.bin .gtr (.slen (.var 2)) (.con (.int .i64 40))) (.bool false), .ok (.len (.var 3)), .ok (.bin .gtr (.len (.var 3)) (.con (.int .i64 40))), .is (.bin .gtr (.len (.var 3)) (.con (.int .i64 40))) (.bool true), .ok (.con (.bool true))], [.con (.bool true)]) := by kernel_rfl
theorem pre : segTo Try.prog (orcFn tabA) 10000 (flA.take 7) sh0 [1, 0, 0, 0] shA [(6, 0), (7, 0)] = some (.normal, [.fn 12 (ETrue 13) [], .is (.fn 13 [] 0) (.bool true), .ok (.len (.var 0)), .ok (.bin .gtr (.len (.var 0)) (.con (.int .i64 30))), .is (.bin .gtr (.len (.var 0)) (.con (.int .i64 30))) (.bool false), .ok (.slen (.var 2)), .ok (.bin .gtr (.slen (.var 2)) (.con (.int .i64 40))), .is (.bin .gtr (.slen (.var 2)) (.con (.int .i64 40))) (.bool false), .ok (.len (.var 3)), .ok (.bin .gtr (.len (.var 3)) (.con (.int .i64 40))), .is (.bin .gtr (.len (.var 3)) (.con (.int .i64 40))) (.bool false), .fn 13 (ENew 1) [.con (.int .i64 4)], .ok (.fn 1 [.con (.int .i64 4)] 2), .ok (.fn 1 [.con (.int .i64 4)] 3), .fn 14 (ENew 2) [.con (.int .i64 4)], .ok (.fn 2 [.con (.int .i64 4)] 2), .ok (.fn 2 [.con (.int .i64 4)] 3), .ok (.var 1), .ok (.var 2), .ok (.var 4), .ok (.con (.int .i64 0)), .ok (.fn 1 [.con (.int .i64 4)] 2), .ok (.fn 1 [.con (.int .i64 4)] 3), .ok (.fn 2 [.con (.int .i64 4)] 2), .ok (.fn 2 [.con (.int .i64 4)] 3)], [.var 0, .var 1, .var 2, .var 3, .var 4, .con (.int .i64 0), .fn 1 [.con (.int .i64 4)] 0, .fn 1 [.con (.int .i64 4)] 1, .fn 1 [.con (.int .i64 4)] 2, .fn 1 [.con (.int .i64 4)] 3, .fn 2 [.con (.int .i64 4)] 0, .fn 2 [.con (.int .i64 4)] 1, .fn 2 [.con (.int .i64 4)] 2, .fn 2 [.con (.int .i64 4)] 3]) := by kernel_rfl
theorem hd : segTo Try.prog (orcFn tabA) 10000 (lpA.take 2) shA [1] shA [(0, 0), (1, 0)] = some (.normal, [.ok (.len (.var 0)), .ok (.bin .lss (.var 5) (.len (.var 0))), .is (.bin .lss (.var 5) (.len (.var 0))) (.bool true), .ok (.var 1), .ok (.var 2), .ok (.var 4), .ok (.var 5), .ok (.var 8), .ok (.var 9), .ok (.var 12), .ok (.var 13)], [.var 0, .var 1, .var 2, .var 3, .var 4, .var 5, .var 6, .var 7, .var 8, .var 9, .var 10, .var 11, .var 12, .var 13]) := by kernel_rfl
theorem ex : segTo Try.prog (orcFn tabA) 10000 lpA shA [0] shA [(0, 0), (1, 0)] = some (.exit 0, [.ok (.len (.var 0)), .ok (.bin .lss (.var 5) (.len (.var 0))), .is (.bin .lss (.var 5) (.len (.var 0))) (.bool false), .ok (.var 1), .ok (.var 2), .ok (.var 4), .ok (.var 5), .ok (.var 8), .ok (.var 9), .ok (.var 12), .ok (.var 13)], [.var 0, .var 1, .var 2, .var 3, .var 4, .var 5, .var 6, .var 7, .var 8, .var 9, .var 10, .var 11, .var 12, .var 13]) := by kernel_rfl
theorem a0 : segTo Try.prog (orcFn tabA) 10000 (bdA.take 3) shA [0] shB [(0, 0), (1, 0)] = some (.normal, [.idx (.var 0) (.var 5) 3 3, .idx (.var 0) (.var 5) 3 2, .ok (.cell (.var 0) (.var 5) 3 1), .ok (.bin .rem (.cell (.var 0) (.var 5) 3 1) (.con (.int .u8 6))), .ok (.conv .i64 (.bin .rem (.cell (.var 0) (.var 5) 3 1) (.con (.int .u8 6)))), .ok (.bin .sub (.conv .i64 (.bin .rem (.cell (.var 0) (.var 5) 3 1) (.con (.int .u8 6)))) (.con (.int .i64 1))), .ok (.bin .rem (.var 5) (.con (.int .i64 8))), .ok (.bin .eql (.bin .rem (.var 5) (.con (.int .i64 8))) (.con (.int .i64 7))), .is (.bin .eql (.bin .rem (.var 5) (.con (.int .i64 8))) (.con (.int .i64 7))) (.bool false), .ok (.var 1), .ok (.var 2), .ok (.var 4), .ok (.var 5), .ok (.bin .sub (.conv .i64 (.bin .rem (.cell (.var 0) (.var 5) 3 1) (.con (.int .u8 6)))) (.con (.int .i64 1))), .ok (.var 8), .ok (.var 9), .ok (.var 12), .ok (.var 13)], [.var 0, .var 1, .var 2, .var 3, .var 4, .var 5, .bin .sub (.conv .i64 (.bin .rem (.cell (.var 0) (.var 5) 3 1) (.con (.int .u8 6)))) (.con (.int .i64 1)), .var 6, .var 7, .var 8, .var 9, .var 10, .var 11, .var 12, .var 13]) := by kernel_rfl
theorem a1 : segTo Try.prog (orcFn tabA) 10000 (bdA.take 3) shA [1] shB [(0, 0), (1, 0)] = some (.normal, [.idx (.var 0) (.var 5) 3 3, .idx (.var 0) (.var 5) 3 2, .ok (.cell (.var 0) (.var 5) 3 1), .ok (.bin .rem (.cell (.var 0) (.var 5) 3 1) (.con (.int .u8 6))), .ok (.conv .i64 (.bin .rem (.cell (.var 0) (.var 5) 3 1) (.con (.int .u8 6)))), .ok (.bin .sub (.conv .i64 (.bin .rem (.cell (.var 0) (.var 5) 3 1) (.con (.int .u8 6)))) (.con (.int .i64 1))), .ok (.bin .rem (.var 5) (.con (.int .i64 8))), .ok (.bin .eql (.bin .rem (.var 5) (.con (.int .i64 8))) (.con (.int .i64 7))), .is (.bin .eql (.bin .rem (.var 5) (.con (.int .i64 8))) (.con (.int .i64 7))) (.bool true), .ok (.var 1), .ok (.var 2), .ok (.var 4), .ok (.var 5), .ok (.var 1), .ok (.var 8), .ok (.var 9), .ok (.var 12), .ok (.var 13)], [.var 0, .var 1, .var 2, .var 3, .var 4, .var 5, .var 1, .var 6, .var 7, .var 8, .var 9, .var 10, .var 11, .var 12, .var 13]) := by kernel_rfl
theorem k01 : segTo Try.prog (orcFn tabA) 10000 (bdA.drop 3) shB [1, 1, 1, 1] shA [(0, 0), (1, 0)] = some (.normal, [.idx (.var 0) (.var 5) 3 3, .idx (.var 0) (.var 5) 3 1, .ok (.cell (.var 0) (.var 5) 3 0), .ok (.bin .rem (.cell (.var 0) (.var 5) 3 0) (.con (.int .u8 8))), .ok (.bin .eql (.bin .rem (.cell (.var 0) (.var 5) 3 0) (.con (.int .u8 8))) (.con (.int .u8 0))), .is (.bin .eql (.bin .rem (.cell (.var 0) (.var 5) 3 0) (.con (.int .u8 8))) (.con (.int .u8 0))) (.bool true), .fn 15 (EFlush 3) [.var 7, .var 8, .var 9, .var 10], .ok (.fn 3 [.var 7, .var 8, .var 9, .var 10] 2), .ok (.fn 3 [.var 7, .var 8, .var 9, .var 10] 3), .is (.fn 3 [.var 7, .var 8, .var 9, .var 10] 4) (.bool true), .fn 16 (EFlushR 4) [.var 11, .var 12, .var 13, .var 14], .ok (.fn 4 [.var 11, .var 12, .var 13, .var 14] 2), .ok (.fn 4 [.var 11, .var 12, .var 13, .var 14] 3), .is (.fn 4 [.var 11, .var 12, .var 13, .var 14] 4) (.bool true), .fn 24 (ESame 12) [.fn 3 [.var 7, .var 8, .var 9, .var 10] 0, .fn 3 [.var 7, .var 8, .var 9, .var 10] 1, .fn 3 [.var 7, .var 8, .var 9, .var 10] 2, .fn 3 [.var 7, .var 8, .var 9, .var 10] 3, .fn 4 [.var 11, .var 12, .var 13, .var 14] 0, .fn 4 [.var 11, .var 12, .var 13, .var 14] 1, .fn 4 [.var 11, .var 12, .var 13, .var 14] 2, .fn 4 [.var 11, .var 12, .var 13, .var 14] 3], .is (.fn 12 [.fn 3 [.var 7, .var 8, .var 9, .var 10] 0, .fn 3 [.var 7, .var 8, .var 9, .var 10] 1, .fn 3 [.var 7, .var 8, .var 9, .var 10] 2, .fn 3 [.var 7, .var 8, .var 9, .var 10] 3, .fn 4 [.var 11, .var 12, .var 13, .var 14] 0, .fn 4 [.var 11, .var 12, .var 13, .var 14] 1, .fn 4 [.var 11, .var 12, .var 13, .var 14] 2, .fn 4 [.var 11, .var 12, .var 13, .var 14] 3] 0) (.bool true), .ok (.var 1), .ok (.var 2), .ok (.var 4), .ok (.var 5), .ok (.fn 3 [.var 7, .var 8, .var 9, .var 10] 2), .ok (.fn 3 [.var 7, .var 8, .var 9, .var 10] 3), .ok (.fn 4 [.var 11, .var 12, .var 13, .var 14] 2), .ok (.fn 4 [.var 11, .var 12, .var 13, .var 14] 3)], [.var 0, .var 1, .var 2, .var 3, .var 4, .var 5, .fn 3 [.var 7, .var 8, .var 9, .var 10] 0, .fn 3 [.var 7, .var 8, .var 9, .var 10] 1, .fn 3 [.var 7, .var 8, .var 9, .var 10] 2, .fn 3 [.var 7, .var 8, .var 9, .var 10] 3, .fn 4 [.var 11, .var 12, .var 13, .var 14] 0, .fn 4 [.var 11, .var 12, .var 13, .var 14] 1, .fn 4 [.var 11, .var 12, .var 13, .var 14] 2, .fn 4 [.var 11, .var 12, .var 13, .var 14] 3]) := by kernel_rfl
theorem k00 : segTo Try.prog (orcFn tabA) 10000 (bdA.drop 3) shB [1, 0, 0, 1] shA [(0, 0), (1, 0)] = some (.normal, [.idx (.var 0) (.var 5) 3 3, .idx (.var 0) (.var 5) 3 1, .ok (.cell (.var 0) (.var 5) 3 0), .ok (.bin .rem (.cell (.var 0) (.var 5) 3 0) (.con (.int .u8 8))), .ok (.bin .eql (.bin .rem (.cell (.var 0) (.var 5) 3 0) (.con (.int .u8 8))) (.con (.int .u8 0))), .is (.bin .eql (.bin .rem (.cell (.var 0) (.var 5) 3 0) (.con (.int .u8 8))) (.con (.int .u8 0))) (.bool true), .fn 15 (EFlush 3) [.var 7, .var 8, .var 9, .var 10], .ok (.fn 3 [.var 7, .var 8, .var 9, .var 10] 2), .ok (.fn 3 [.var 7, .var 8, .var 9, .var 10] 3), .is (.fn 3 [.var 7, .var 8, .var 9, .var 10] 4) (.bool false), .fn 16 (EFlushR 4) [.var 11, .var 12, .var 13, .var 14], .ok (.fn 4 [.var 11, .var 12, .var 13, .var 14] 2), .ok (.fn 4 [.var 11, .var 12, .var 13, .var 14] 3), .is (.fn 4 [.var 11, .var 12, .var 13, .var 14] 4) (.bool false), .fn 24 (ESame 12) [.fn 3 [.var 7, .var 8, .var 9, .var 10] 0, .fn 3 [.var 7, .var 8, .var 9, .var 10] 1, .fn 3 [.var 7, .var 8, .var 9, .var 10] 2, .fn 3 [.var 7, .var 8, .var 9, .var 10] 3, .fn 4 [.var 11, .var 12, .var 13, .var 14] 0, .fn 4 [.var 11, .var 12, .var 13, .var 14] 1, .fn 4 [.var 11, .var 12, .var 13, .var 14] 2, .fn 4 [.var 11, .var 12, .var 13, .var 14] 3], .is (.fn 12 [.fn 3 [.var 7, .var 8, .var 9, .var 10] 0, .fn 3 [.var 7, .var 8, .var 9, .var 10] 1, .fn 3 [.var 7, .var 8, .var 9, .var 10] 2, .fn 3 [.var 7, .var 8, .var 9, .var 10] 3, .fn 4 [.var 11, .var 12, .var 13, .var 14] 0, .fn 4 [.var 11, .var 12, .var 13, .var 14] 1, .fn 4 [.var 11, .var 12, .var 13, .var 14] 2, .fn 4 [.var 11, .var 12, .var 13, .var 14] 3] 0) (.bool true), .ok (.var 1), .ok (.var 2), .ok (.var 4), .ok (.var 5), .ok (.fn 3 [.var 7, .var 8, .var 9, .var 10] 2), .ok (.fn 3 [.var 7, .var 8, .var 9, .var 10] 3), .ok (.fn 4 [.var 11, .var 12, .var 13, .var 14] 2), .ok (.fn 4 [.var 11, .var 12, .var 13, .var 14] 3)], [.var 0, .var 1, .var 2, .var 3, .var 4, .var 5, .fn 3 [.var 7, .var 8, .var 9, .var 10] 0, .fn 3 [.var 7, .var 8, .var 9, .var 10] 1, .fn 3 [.var 7, .var 8, .var 9, .var 10] 2, .fn 3 [.var 7, .var 8, .var 9, .var 10] 3, .fn 4 [.var 11, .var 12, .var 13, .var 14] 0, .fn 4 [.var 11, .var 12, .var 13, .var 14] 1, .fn 4 [.var 11, .var 12, .var 13, .var 14] 2, .fn 4 [.var 11, .var 12, .var 13, .var 14] 3]) := by kernel_rfl
theorem k1 : segTo Try.prog (orcFn tabA) 10000 (bdA.drop 3) shB [0, 1, 1] shA [(0, 0), (1, 0)] = some (.normal, [.idx (.var 0) (.var 5) 3 3, .idx (.var 0) (.var 5) 3 1, .ok (.cell (.var 0) (.var 5) 3 0), .ok (.bin .rem (.cell (.var 0) (.var 5) 3 0) (.con (.int .u8 8))), .ok (.bin .eql (.bin .rem (.cell (.var 0) (.var 5) 3 0) (.con (.int .u8 8))) (.con (.int .u8 0))), .is (.bin .eql (.bin .rem (.cell (.var 0) (.var 5) 3 0) (.con (.int .u8 8))) (.con (.int .u8 0))) (.bool false), .ok (.bin .eql (.bin .rem (.cell (.var 0) (.var 5) 3 0) (.con (.int .u8 8))) (.con (.int .u8 1))), .is (.bin .eql (.bin .rem (.cell (.var 0) (.var 5) 3 0) (.con (.int .u8 8))) (.con (.int .u8 1))) (.bool true), .idx (.var 0) (.var 5) 3 3, .idx (.var 0) (.var 5) 3 2, .ok (.cell (.var 0) (.var 5) 3 1), .ok (.bin .rem (.cell (.var 0) (.var 5) 3 1) (.con (.int .u8 40))), .ok (.conv .i64 (.bin .rem (.cell (.var 0) (.var 5) 3 1) (.con (.int .u8 40)))), .idx (.var 0) (.var 5) 3 3, .idx (.var 0) (.var 5) 3 3, .ok (.cell (.var 0) (.var 5) 3 2), .ok (.conv .i64 (.cell (.var 0) (.var 5) 3 2)), .ok (.bin .sub (.conv .i64 (.cell (.var 0) (.var 5) 3 2)) (.con (.int .i64 100))), .idx (.var 0) (.var 5) 3 3, .idx (.var 0) (.var 5) 3 2, .ok (.cell (.var 0) (.var 5) 3 1), .ok (.conv .i64 (.cell (.var 0) (.var 5) 3 1)), .fn 17 (ECrash 5) [.var 7, .var 8, .var 9, .var 10, .lit 5 [.conv .i64 (.bin .rem (.cell (.var 0) (.var 5) 3 1) (.con (.int .u8 40))), .bin .sub (.conv .i64 (.cell (.var 0) (.var 5) 3 2)) (.con (.int .i64 100)), .con (.int .i64 32), .con (.int .i64 0), .conv .i64 (.cell (.var 0) (.var 5) 3 1)]], .ok (.fn 5 [.var 7, .var 8, .var 9, .var 10, .lit 5 [.conv .i64 (.bin .rem (.cell (.var 0) (.var 5) 3 1) (.con (.int .u8 40))), .bin .sub (.conv .i64 (.cell (.var 0) (.var 5) 3 2)) (.con (.int .i64 100)), .con (.int .i64 32), .con (.int .i64 0), .conv .i64 (.cell (.var 0) (.var 5) 3 1)]] 2), .ok (.fn 5 [.var 7, .var 8, .var 9, .var 10, .lit 5 [.conv .i64 (.bin .rem (.cell (.var 0) (.var 5) 3 1) (.con (.int .u8 40))), .bin .sub (.conv .i64 (.cell (.var 0) (.var 5) 3 2)) (.con (.int .i64 100)), .con (.int .i64 32), .con (.int .i64 0), .conv .i64 (.cell (.var 0) (.var 5) 3 1)]] 3), .fn 18 (ECrashR 6) [.var 11, .var 12, .var 13, .var 14, .lit 5 [.conv .i64 (.bin .rem (.cell (.var 0) (.var 5) 3 1) (.con (.int .u8 40))), .bin .sub (.conv .i64 (.cell (.var 0) (.var 5) 3 2)) (.con (.int .i64 100)), .con (.int .i64 32), .con (.int .i64 0), .conv .i64 (.cell (.var 0) (.var 5) 3 1)]], .ok (.fn 6 [.var 11, .var 12, .var 13, .var 14, .lit 5 [.conv .i64 (.bin .rem (.cell (.var 0) (.var 5) 3 1) (.con (.int .u8 40))), .bin .sub (.conv .i64 (.cell (.var 0) (.var 5) 3 2)) (.con (.int .i64 100)), .con (.int .i64 32), .con (.int .i64 0), .conv .i64 (.cell (.var 0) (.var 5) 3 1)]] 2), .ok (.fn 6 [.var 11, .var 12, .var 13, .var 14, .lit 5 [.conv .i64 (.bin .rem (.cell (.var 0) (.var 5) 3 1) (.con (.int .u8 40))), .bin .sub (.conv .i64 (.cell (.var 0) (.var 5) 3 2)) (.con (.int .i64 100)), .con (.int .i64 32), .con (.int .i64 0), .conv .i64 (.cell (.var 0) (.var 5) 3 1)]] 3), .fn 24 (ESame 12) [.fn 5 [.var 7, .var 8, .var 9, .var 10, .lit 5 [.conv .i64 (.bin .rem (.cell (.var 0) (.var 5) 3 1) (.con (.int .u8 40))), .bin .sub (.conv .i64 (.cell (.var 0) (.var 5) 3 2)) (.con (.int .i64 100)), .con (.int .i64 32), .con (.int .i64 0), .conv .i64 (.cell (.var 0) (.var 5) 3 1)]] 0, .fn 5 [.var 7, .var 8, .var 9, .var 10, .lit 5 [.conv .i64 (.bin .rem (.cell (.var 0) (.var 5) 3 1) (.con (.int .u8 40))), .bin .sub (.conv .i64 (.cell (.var 0) (.var 5) 3 2)) (.con (.int .i64 100)), .con (.int .i64 32), .con (.int .i64 0), .conv .i64 (.cell (.var 0) (.var 5) 3 1)]] 1, .fn 5 [.var 7, .var 8, .var 9, .var 10, .lit 5 [.conv .i64 (.bin .rem (.cell (.var 0) (.var 5) 3 1) (.con (.int .u8 40))), .bin .sub (.conv .i64 (.cell (.var 0) (.var 5) 3 2)) (.con (.int .i64 100)), .con (.int .i64 32), .con (.int .i64 0), .conv .i64 (.cell (.var 0) (.var 5) 3 1)]] 2, .fn 5 [.var 7, .var 8, .var 9, .var 10, .lit 5 [.conv .i64 (.bin .rem (.cell (.var 0) (.var 5) 3 1) (.con (.int .u8 40))), .bin .sub (.conv .i64 (.cell (.var 0) (.var 5) 3 2)) (.con (.int .i64 100)), .con (.int .i64 32), .con (.int .i64 0), .conv .i64 (.cell (.var 0) (.var 5) 3 1)]] 3, .fn 6 [.var 11, .var 12, .var 13, .var 14, .lit 5 [.conv .i64 (.bin .rem (.cell (.var 0) (.var 5) 3 1) (.con (.int .u8 40))), .bin .sub (.conv .i64 (.cell (.var 0) (.var 5) 3 2)) (.con (.int .i64 100)), .con (.int .i64 32), .con (.int .i64 0), .conv .i64 (.cell (.var 0) (.var 5) 3 1)]] 0, .fn 6 [.var 11, .var 12, .var 13, .var 14, .lit 5 [.conv .i64 (.bin .rem (.cell (.var 0) (.var 5) 3 1) (.con (.int .u8 40))), .bin .sub (.conv .i64 (.cell (.var 0) (.var 5) 3 2)) (.con (.int .i64 100)), .con (.int .i64 32), .con (.int .i64 0), .conv .i64 (.cell (.var 0) (.var 5) 3 1)]] 1, .fn 6 [.var 11, .var 12, .var 13, .var 14, .lit 5 [.conv .i64 (.bin .rem (.cell (.var 0) (.var 5) 3 1) (.con (.int .u8 40))), .bin .sub (.conv .i64 (.cell (.var 0) (.var 5) 3 2)) (.con (.int .i64 100)), .con (.int .i64 32), .con (.int .i64 0), .conv .i64 (.cell (.var 0) (.var 5) 3 1)]] 2, .fn 6 [.var 11, .var 12, .var 13, .var 14, .lit 5 [.conv .i64 (.bin .rem (.cell (.var 0) (.var 5) 3 1) (.con (.int .u8 40))), .bin .sub (.conv .i64 (.cell (.var 0) (.var 5) 3 2)) (.con (.int .i64 100)), .con (.int .i64 32), .con (.int .i64 0), .conv .i64 (.cell (.var 0) (.var 5) 3 1)]] 3], .is (.fn 12 [.fn 5 [.var 7, .var 8, .var 9, .var 10, .lit 5 [.conv .i64 (.bin .rem (.cell (.var 0) (.var 5) 3 1) (.con (.int .u8 40))), .bin .sub (.conv .i64 (.cell (.var 0) (.var 5) 3 2)) (.con (.int .i64 100)), .con (.int .i64 32), .con (.int .i64 0), .conv .i64 (.cell (.var 0) (.var 5) 3 1)]] 0, .fn 5 [.var 7, .var 8, .var 9, .var 10, .lit 5 [.conv .i64 (.bin .rem (.cell (.var 0) (.var 5) 3 1) (.con (.int .u8 40))), .bin .sub (.conv .i64 (.cell (.var 0) (.var 5) 3 2)) (.con (.int .i64 100)), .con (.int .i64 32), .con (.int .i64 0), .conv .i64 (.cell (.var 0) (.var 5) 3 1)]] 1, .fn 5 [.var 7, .var 8, .var 9, .var 10, .lit 5 [.conv .i64 (.bin .rem (.cell (.var 0) (.var 5) 3 1) (.con (.int .u8 40))), .bin .sub (.conv .i64 (.cell (.var 0) (.var 5) 3 2)) (.con (.int .i64 100)), .con (.int .i64 32), .con (.int .i64 0), .conv .i64 (.cell (.var 0) (.var 5) 3 1)]] 2, .fn 5 [.var 7, .var 8, .var 9, .var 10, .lit 5 [.conv .i64 (.bin .rem (.cell (.var 0) (.var 5) 3 1) (.con (.int .u8 40))), .bin .sub (.conv .i64 (.cell (.var 0) (.var 5) 3 2)) (.con (.int .i64 100)), .con (.int .i64 32), .con (.int .i64 0), .conv .i64 (.cell (.var 0) (.var 5) 3 1)]] 3, .fn 6 [.var 11, .var 12, .var 13, .var 14, .lit 5 [.conv .i64 (.bin .rem (.cell (.var 0) (.var 5) 3 1) (.con (.int .u8 40))), .bin .sub (.conv .i64 (.cell (.var 0) (.var 5) 3 2)) (.con (.int .i64 100)), .con (.int .i64 32), .con (.int .i64 0), .conv .i64 (.cell (.var 0) (.var 5) 3 1)]] 0, .fn 6 [.var 11, .var 12, .var 13, .var 14, .lit 5 [.conv .i64 (.bin .rem (.cell (.var 0) (.var 5) 3 1) (.con (.int .u8 40))), .bin .sub (.conv .i64 (.cell (.var 0) (.var 5) 3 2)) (.con (.int .i64 100)), .con (.int .i64 32), .con (.int .i64 0), .conv .i64 (.cell (.var 0) (.var 5) 3 1)]] 1, .fn 6 [.var 11, .var 12, .var 13, .var 14, .lit 5 [.conv .i64 (.bin .rem (.cell (.var 0) (.var 5) 3 1) (.con (.int .u8 40))), .bin .sub (.conv .i64 (.cell (.var 0) (.var 5) 3 2)) (.con (.int .i64 100)), .con (.int .i64 32), .con (.int .i64 0), .conv .i64 (.cell (.var 0) (.var 5) 3 1)]] 2, .fn 6 [.var 11, .var 12, .var 13, .var 14, .lit 5 [.conv .i64 (.bin .rem (.cell (.var 0) (.var 5) 3 1) (.con (.int .u8 40))), .bin .sub (.conv .i64 (.cell (.var 0) (.var 5) 3 2)) (.con (.int .i64 100)), .con (.int .i64 32), .con (.int .i64 0), .conv .i64 (.cell (.var 0) (.var 5) 3 1)]] 3] 0) (.bool true), .ok (.var 1), .ok (.var 2), .ok (.var 4), .ok (.var 5), .ok (.fn 5 [.var 7, .var 8, .var 9, .var 10, .lit 5 [.conv .i64 (.bin .rem (.cell (.var 0) (.var 5) 3 1) (.con (.int .u8 40))), .bin .sub (.conv .i64 (.cell (.var 0) (.var 5) 3 2)) (.con (.int .i64 100)), .con (.int .i64 32), .con (.int .i64 0), .conv .i64 (.cell (.var 0) (.var 5) 3 1)]] 2), .ok (.fn 5 [.var 7, .var 8, .var 9, .var 10, .lit 5 [.conv .i64 (.bin .rem (.cell (.var 0) (.var 5) 3 1) (.con (.int .u8 40))), .bin .sub (.conv .i64 (.cell (.var 0) (.var 5) 3 2)) (.con (.int .i64 100)), .con (.int .i64 32), .con (.int .i64 0), .conv .i64 (.cell (.var 0) (.var 5) 3 1)]] 3), .ok (.fn 6 [.var 11, .var 12, .var 13, .var 14, .lit 5 [.conv .i64 (.bin .rem (.cell (.var 0) (.var 5) 3 1) (.con (.int .u8 40))), .bin .sub (.conv .i64 (.cell (.var 0) (.var 5) 3 2)) (.con (.int .i64 100)), .con (.int .i64 32), .con (.int .i64 0), .conv .i64 (.cell (.var 0) (.var 5) 3 1)]] 2), .ok (.fn 6 [.var 11, .var 12, .var 13, .var 14, .lit 5 [.conv .i64 (.bin .rem (.cell (.var 0) (.var 5) 3 1) (.con (.int .u8 40))), .bin .sub (.conv .i64 (.cell (.var 0) (.var 5) 3 2)) (.con (.int .i64 100)), .con (.int .i64 32), .con (.int .i64 0), .conv .i64 (.cell (.var 0) (.var 5) 3 1)]] 3)], [.var 0, .var 1, .var 2, .var 3, .var 4, .var 5, .fn 5 [.var 7, .var 8, .var 9, .var 10, .lit 5 [.conv .i64 (.bin .rem (.cell (.var 0) (.var 5) 3 1) (.con (.int .u8 40))), .bin .sub (.conv .i64 (.cell (.var 0) (.var 5) 3 2)) (.con (.int .i64 100)), .con (.int .i64 32), .con (.int .i64 0), .conv .i64 (.cell (.var 0) (.var 5) 3 1)]] 0, .fn 5 [.var 7, .var 8, .var 9, .var 10, .lit 5 [.conv .i64 (.bin .rem (.cell (.var 0) (.var 5) 3 1) (.con (.int .u8 40))), .bin .sub (.conv .i64 (.cell (.var 0) (.var 5) 3 2)) (.con (.int .i64 100)), .con (.int .i64 32), .con (.int .i64 0), .conv .i64 (.cell (.var 0) (.var 5) 3 1)]] 1, .fn 5 [.var 7, .var 8, .var 9, .var 10, .lit 5 [.conv .i64 (.bin .rem (.cell (.var 0) (.var 5) 3 1) (.con (.int .u8 40))), .bin .sub (.conv .i64 (.cell (.var 0) (.var 5) 3 2)) (.con (.int .i64 100)), .con (.int .i64 32), .con (.int .i64 0), .conv .i64 (.cell (.var 0) (.var 5) 3 1)]] 2, .fn 5 [.var 7, .var 8, .var 9, .var 10, .lit 5 [.conv .i64 (.bin .rem (.cell (.var 0) (.var 5) 3 1) (.con (.int .u8 40))), .bin .sub (.conv .i64 (.cell (.var 0) (.var 5) 3 2)) (.con (.int .i64 100)), .con (.int .i64 32), .con (.int .i64 0), .conv .i64 (.cell (.var 0) (.var 5) 3 1)]] 3, .fn 6 [.var 11, .var 12, .var 13, .var 14, .lit 5 [.conv .i64 (.bin .rem (.cell (.var 0) (.var 5) 3 1) (.con (.int .u8 40))), .bin .sub (.conv .i64 (.cell (.var 0) (.var 5) 3 2)) (.con (.int .i64 100)), .con (.int .i64 32), .con (.int .i64 0), .conv .i64 (.cell (.var 0) (.var 5) 3 1)]] 0, .fn 6 [.var 11, .var 12, .var 13, .var 14, .lit 5 [.conv .i64 (.bin .rem (.cell (.var 0) (.var 5) 3 1) (.con (.int .u8 40))), .bin .sub (.conv .i64 (.cell (.var 0) (.var 5) 3 2)) (.con (.int .i64 100)), .con (.int .i64 32), .con (.int .i64 0), .conv .i64 (.cell (.var 0) (.var 5) 3 1)]] 1, .fn 6 [.var 11, .var 12, .var 13, .var 14, .lit 5 [.conv .i64 (.bin .rem (.cell (.var 0) (.var 5) 3 1) (.con (.int .u8 40))), .bin .sub (.conv .i64 (.cell (.var 0) (.var 5) 3 2)) (.con (.int .i64 100)), .con (.int .i64 32), .con (.int .i64 0), .conv .i64 (.cell (.var 0) (.var 5) 3 1)]] 2, .fn 6 [.var 11, .var 12, .var 13, .var 14, .lit 5 [.conv .i64 (.bin .rem (.cell (.var 0) (.var 5) 3 1) (.con (.int .u8 40))), .bin .sub (.conv .i64 (.cell (.var 0) (.var 5) 3 2)) (.con (.int .i64 100)), .con (.int .i64 32), .con (.int .i64 0), .conv .i64 (.cell (.var 0) (.var 5) 3 1)]] 3]) := by kernel_rfl
theorem k2 : segTo Try.prog (orcFn tabA) 10000 (bdA.drop 3) shB [0, 0, 1, 1] shA [(0, 0), (1, 0)] = some (.normal, [.idx (.var 0) (.var 5) 3 3, .idx (.var 0) (.var 5) 3 1, .ok (.cell (.var 0) (.var 5) 3 0), .ok (.bin .rem (.cell (.var 0) (.var 5) 3 0) (.con (.int .u8 8))), .ok (.bin .eql (.bin .rem (.cell (.var 0) (.var 5) 3 0) (.con (.int .u8 8))) (.con (.int .u8 0))), .is (.bin .eql (.bin .rem (.cell (.var 0) (.var 5) 3 0) (.con (.int .u8 8))) (.con (.int .u8 0))) (.bool false), .ok (.bin .eql (.bin .rem (.cell (.var 0) (.var 5) 3 0) (.con (.int .u8 8))) (.con (.int .u8 1))), .is (.bin .eql (.bin .rem (.cell (.var 0) (.var 5) 3 0) (.con (.int .u8 8))) (.con (.int .u8 1))) (.bool false), .ok (.bin .eql (.bin .rem (.cell (.var 0) (.var 5) 3 0) (.con (.int .u8 8))) (.con (.int .u8 2))), .is (.bin .eql (.bin .rem (.cell (.var 0) (.var 5) 3 0) (.con (.int .u8 8))) (.con (.int .u8 2))) (.bool true), .idx (.var 0) (.var 5) 3 3, .idx (.var 0) (.var 5) 3 3, .ok (.cell (.var 0) (.var 5) 3 2), .ok (.bin .rem (.cell (.var 0) (.var 5) 3 2) (.con (.int .u8 6))), .ok (.conv .i64 (.bin .rem (.cell (.var 0) (.var 5) 3 2) (.con (.int .u8 6)))), .idx (.var 0) (.var 5) 3 3, .idx (.var 0) (.var 5) 3 3, .ok (.cell (.var 0) (.var 5) 3 2), .ok (.bin .rem (.cell (.var 0) (.var 5) 3 2) (.con (.int .u8 6))), .ok (.conv .i64 (.bin .rem (.cell (.var 0) (.var 5) 3 2) (.con (.int .u8 6)))), .fn 24 (ESame 12) [.var 7, .var 8, .conv .i64 (.bin .rem (.cell (.var 0) (.var 5) 3 2) (.con (.int .u8 6))), .var 10, .var 11, .var 12, .conv .i64 (.bin .rem (.cell (.var 0) (.var 5) 3 2) (.con (.int .u8 6))), .var 14], .is (.fn 12 [.var 7, .var 8, .conv .i64 (.bin .rem (.cell (.var 0) (.var 5) 3 2) (.con (.int .u8 6))), .var 10, .var 11, .var 12, .conv .i64 (.bin .rem (.cell (.var 0) (.var 5) 3 2) (.con (.int .u8 6))), .var 14] 0) (.bool true), .ok (.var 1), .ok (.var 2), .ok (.var 4), .ok (.var 5), .ok (.conv .i64 (.bin .rem (.cell (.var 0) (.var 5) 3 2) (.con (.int .u8 6)))), .ok (.var 10), .ok (.conv .i64 (.bin .rem (.cell (.var 0) (.var 5) 3 2) (.con (.int .u8 6)))), .ok (.var 14)], [.var 0, .var 1, .var 2, .var 3, .var 4, .var 5, .var 7, .var 8, .conv .i64 (.bin .rem (.cell (.var 0) (.var 5) 3 2) (.con (.int .u8 6))), .var 10, .var 11, .var 12, .conv .i64 (.bin .rem (.cell (.var 0) (.var 5) 3 2) (.con (.int .u8 6))), .var 14]) := by kernel_rfl
theorem k31 : segTo Try.prog (orcFn tabA) 10000 (bdA.drop 3) shB [0, 0, 0, 1, 1, 1, 0, 1] shA [(0, 0), (1, 0)] = some (.normal, [.idx (.var 0) (.var 5) 3 3, .idx (.var 0) (.var 5) 3 1, .ok (.cell (.var 0) (.var 5) 3 0), .ok (.bin .rem (.cell (.var 0) (.var 5) 3 0) (.con (.int .u8 8))), .ok (.bin .eql (.bin .rem (.cell (.var 0) (.var 5) 3 0) (.con (.int .u8 8))) (.con (.int .u8 0))), .is (.bin .eql (.bin .rem (.cell (.var 0) (.var 5) 3 0) (.con (.int .u8 8))) (.con (.int .u8 0))) (.bool false), .ok (.bin .eql (.bin .rem (.cell (.var 0) (.var 5) 3 0) (.con (.int .u8 8))) (.con (.int .u8 1))), .is (.bin .eql (.bin .rem (.cell (.var 0) (.var 5) 3 0) (.con (.int .u8 8))) (.con (.int .u8 1))) (.bool false), .ok (.bin .eql (.bin .rem (.cell (.var 0) (.var 5) 3 0) (.con (.int .u8 8))) (.con (.int .u8 2))), .is (.bin .eql (.bin .rem (.cell (.var 0) (.var 5) 3 0) (.con (.int .u8 8))) (.con (.int .u8 2))) (.bool false), .ok (.bin .eql (.bin .rem (.cell (.var 0) (.var 5) 3 0) (.con (.int .u8 8))) (.con (.int .u8 3))), .is (.bin .eql (.bin .rem (.cell (.var 0) (.var 5) 3 0) (.con (.int .u8 8))) (.con (.int .u8 3))) (.bool true), .fn 19 (ERead 7) [.var 7, .var 8, .var 9, .var 10, .var 6], .ok (.fn 7 [.var 7, .var 8, .var 9, .var 10, .var 6] 0), .is (.fn 7 [.var 7, .var 8, .var 9, .var 10, .var 6] 1) (.bool true), .fn 20 (ERead 8) [.var 11, .var 12, .var 13, .var 14, .var 6], .ok (.fn 8 [.var 11, .var 12, .var 13, .var 14, .var 6] 0), .is (.fn 8 [.var 11, .var 12, .var 13, .var 14, .var 6] 1) (.bool true), .ok (.bin .neq (.fn 7 [.var 7, .var 8, .var 9, .var 10, .var 6] 0) (.fn 8 [.var 11, .var 12, .var 13, .var 14, .var 6] 0)), .is (.bin .neq (.fn 7 [.var 7, .var 8, .var 9, .var 10, .var 6] 0) (.fn 8 [.var 11, .var 12, .var 13, .var 14, .var 6] 0)) (.bool false), .fn 24 (ESame 12) [.var 7, .var 8, .var 9, .var 10, .var 11, .var 12, .var 13, .var 14], .is (.fn 12 [.var 7, .var 8, .var 9, .var 10, .var 11, .var 12, .var 13, .var 14] 0) (.bool true), .ok (.var 1), .ok (.var 2), .ok (.var 4), .ok (.var 5), .ok (.var 9), .ok (.var 10), .ok (.var 13), .ok (.var 14)], [.var 0, .var 1, .var 2, .var 3, .var 4, .var 5, .var 7, .var 8, .var 9, .var 10, .var 11, .var 12, .var 13, .var 14]) := by kernel_rfl
theorem k30 : segTo Try.prog (orcFn tabA) 10000 (bdA.drop 3) shB [0, 0, 0, 1, 0, 0, 0, 1] shA [(0, 0), (1, 0)] = some (.normal, [.idx (.var 0) (.var 5) 3 3, .idx (.var 0) (.var 5) 3 1, .ok (.cell (.var 0) (.var 5) 3 0), .ok (.bin .rem (.cell (.var 0) (.var 5) 3 0) (.con (.int .u8 8))), .ok (.bin .eql (.bin .rem (.cell (.var 0) (.var 5) 3 0) (.con (.int .u8 8))) (.con (.int .u8 0))), .is (.bin .eql (.bin .rem (.cell (.var 0) (.var 5) 3 0) (.con (.int .u8 8))) (.con (.int .u8 0))) (.bool false), .ok (.bin .eql (.bin .rem (.cell (.var 0) (.var 5) 3 0) (.con (.int .u8 8))) (.con (.int .u8 1))), .is (.bin .eql (.bin .rem (.cell (.var 0) (.var 5) 3 0) (.con (.int .u8 8))) (.con (.int .u8 1))) (.bool false), .ok (.bin .eql (.bin .rem (.cell (.var 0) (.var 5) 3 0) (.con (.int .u8 8))) (.con (.int .u8 2))), .is (.bin .eql (.bin .rem (.cell (.var 0) (.var 5) 3 0) (.con (.int .u8 8))) (.con (.int .u8 2))) (.bool false), .ok (.bin .eql (.bin .rem (.cell (.var 0) (.var 5) 3 0) (.con (.int .u8 8))) (.con (.int .u8 3))), .is (.bin .eql (.bin .rem (.cell (.var 0) (.var 5) 3 0) (.con (.int .u8 8))) (.con (.int .u8 3))) (.bool true), .fn 19 (ERead 7) [.var 7, .var 8, .var 9, .var 10, .var 6], .ok (.fn 7 [.var 7, .var 8, .var 9, .var 10, .var 6] 0), .is (.fn 7 [.var 7, .var 8, .var 9, .var 10, .var 6] 1) (.bool false), .fn 20 (ERead 8) [.var 11, .var 12, .var 13, .var 14, .var 6], .ok (.fn 8 [.var 11, .var 12, .var 13, .var 14, .var 6] 0), .is (.fn 8 [.var 11, .var 12, .var 13, .var 14, .var 6] 1) (.bool false), .ok (.bin .neq (.fn 7 [.var 7, .var 8, .var 9, .var 10, .var 6] 0) (.fn 8 [.var 11, .var 12, .var 13, .var 14, .var 6] 0)), .is (.bin .neq (.fn 7 [.var 7, .var 8, .var 9, .var 10, .var 6] 0) (.fn 8 [.var 11, .var 12, .var 13, .var 14, .var 6] 0)) (.bool false), .fn 24 (ESame 12) [.var 7, .var 8, .var 9, .var 10, .var 11, .var 12, .var 13, .var 14], .is (.fn 12 [.var 7, .var 8, .var 9, .var 10, .var 11, .var 12, .var 13, .var 14] 0) (.bool true), .ok (.var 1), .ok (.var 2), .ok (.var 4), .ok (.var 5), .ok (.var 9), .ok (.var 10), .ok (.var 13), .ok (.var 14)], [.var 0, .var 1, .var 2, .var 3, .var 4, .var 5, .var 7, .var 8, .var 9, .var 10, .var 11, .var 12, .var 13, .var 14]) := by kernel_rfl
theorem k41 : segTo Try.prog (orcFn tabA) 10000 (bdA.drop 3) shB [0, 0, 0, 0, 1, 1, 1, 1] shA [(0, 0), (1, 0)] = some (.normal, [.idx (.var 0) (.var 5) 3 3, .idx (.var 0) (.var 5) 3 1, .ok (.cell (.var 0) (.var 5) 3 0), .ok (.bin .rem (.cell (.var 0) (.var 5) 3 0) (.con (.int .u8 8))), .ok (.bin .eql (.bin .rem (.cell (.var 0) (.var 5) 3 0) (.con (.int .u8 8))) (.con (.int .u8 0))), .is (.bin .eql (.bin .rem (.cell (.var 0) (.var 5) 3 0) (.con (.int .u8 8))) (.con (.int .u8 0))) (.bool false), .ok (.bin .eql (.bin .rem (.cell (.var 0) (.var 5) 3 0) (.con (.int .u8 8))) (.con (.int .u8 1))), .is (.bin .eql (.bin .rem (.cell (.var 0) (.var 5) 3 0) (.con (.int .u8 8))) (.con (.int .u8 1))) (.bool false), .ok (.bin .eql (.bin .rem (.cell (.var 0) (.var 5) 3 0) (.con (.int .u8 8))) (.con (.int .u8 2))), .is (.bin .eql (.bin .rem (.cell (.var 0) (.var 5) 3 0) (.con (.int .u8 8))) (.con (.int .u8 2))) (.bool false), .ok (.bin .eql (.bin .rem (.cell (.var 0) (.var 5) 3 0) (.con (.int .u8 8))) (.con (.int .u8 3))), .is (.bin .eql (.bin .rem (.cell (.var 0) (.var 5) 3 0) (.con (.int .u8 8))) (.con (.int .u8 3))) (.bool false), .ok (.bin .eql (.bin .rem (.cell (.var 0) (.var 5) 3 0) (.con (.int .u8 8))) (.con (.int .u8 4))), .is (.bin .eql (.bin .rem (.cell (.var 0) (.var 5) 3 0) (.con (.int .u8 8))) (.con (.int .u8 4))) (.bool true), .fn 21 (EWrite 9) [.var 7, .var 8, .var 9, .var 10, .var 6, .var 2], .ok (.fn 9 [.var 7, .var 8, .var 9, .var 10, .var 6, .var 2] 2), .ok (.fn 9 [.var 7, .var 8, .var 9, .var 10, .var 6, .var 2] 3), .is (.fn 9 [.var 7, .var 8, .var 9, .var 10, .var 6, .var 2] 4) (.bool true), .fn 22 (EWriteR 10) [.var 11, .var 12, .var 13, .var 14, .var 6, .var 2], .ok (.fn 10 [.var 11, .var 12, .var 13, .var 14, .var 6, .var 2] 2), .ok (.fn 10 [.var 11, .var 12, .var 13, .var 14, .var 6, .var 2] 3), .is (.fn 10 [.var 11, .var 12, .var 13, .var 14, .var 6, .var 2] 4) (.bool true), .fn 24 (ESame 12) [.fn 9 [.var 7, .var 8, .var 9, .var 10, .var 6, .var 2] 0, .fn 9 [.var 7, .var 8, .var 9, .var 10, .var 6, .var 2] 1, .fn 9 [.var 7, .var 8, .var 9, .var 10, .var 6, .var 2] 2, .fn 9 [.var 7, .var 8, .var 9, .var 10, .var 6, .var 2] 3, .fn 10 [.var 11, .var 12, .var 13, .var 14, .var 6, .var 2] 0, .fn 10 [.var 11, .var 12, .var 13, .var 14, .var 6, .var 2] 1, .fn 10 [.var 11, .var 12, .var 13, .var 14, .var 6, .var 2] 2, .fn 10 [.var 11, .var 12, .var 13, .var 14, .var 6, .var 2] 3], .is (.fn 12 [.fn 9 [.var 7, .var 8, .var 9, .var 10, .var 6, .var 2] 0, .fn 9 [.var 7, .var 8, .var 9, .var 10, .var 6, .var 2] 1, .fn 9 [.var 7, .var 8, .var 9, .var 10, .var 6, .var 2] 2, .fn 9 [.var 7, .var 8, .var 9, .var 10, .var 6, .var 2] 3, .fn 10 [.var 11, .var 12, .var 13, .var 14, .var 6, .var 2] 0, .fn 10 [.var 11, .var 12, .var 13, .var 14, .var 6, .var 2] 1, .fn 10 [.var 11, .var 12, .var 13, .var 14, .var 6, .var 2] 2, .fn 10 [.var 11, .var 12, .var 13, .var 14, .var 6, .var 2] 3] 0) (.bool true), .ok (.var 1), .ok (.var 2), .ok (.var 4), .ok (.var 5), .ok (.fn 9 [.var 7, .var 8, .var 9, .var 10, .var 6, .var 2] 2), .ok (.fn 9 [.var 7, .var 8, .var 9, .var 10, .var 6, .var 2] 3), .ok (.fn 10 [.var 11, .var 12, .var 13, .var 14, .var 6, .var 2] 2), .ok (.fn 10 [.var 11, .var 12, .var 13, .var 14, .var 6, .var 2] 3)], [.var 0, .var 1, .var 2, .var 3, .var 4, .var 5, .fn 9 [.var 7, .var 8, .var 9, .var 10, .var 6, .var 2] 0, .fn 9 [.var 7, .var 8, .var 9, .var 10, .var 6, .var 2] 1, .fn 9 [.var 7, .var 8, .var 9, .var 10, .var 6, .var 2] 2, .fn 9 [.var 7, .var 8, .var 9, .var 10, .var 6, .var 2] 3, .fn 10 [.var 11, .var 12, .var 13, .var 14, .var 6, .var 2] 0, .fn 10 [.var 11, .var 12, .var 13, .var 14, .var 6, .var 2] 1, .fn 10 [.var 11, .var 12, .var 13, .var 14, .var 6, .var 2] 2, .fn 10 [.var 11, .var 12, .var 13, .var 14, .var 6, .var 2] 3]) := by kernel_rfl
theorem k40 : segTo Try.prog (orcFn tabA) 10000 (bdA.drop 3) shB [0, 0, 0, 0, 1, 0, 0, 1] shA [(0, 0), (1, 0)] = some (.normal, [.idx (.var 0) (.var 5) 3 3, .idx (.var 0) (.var 5) 3 1, .ok (.cell (.var 0) (.var 5) 3 0), .ok (.bin .rem (.cell (.var 0) (.var 5) 3 0) (.con (.int .u8 8))), .ok (.bin .eql (.bin .rem (.cell (.var 0) (.var 5) 3 0) (.con (.int .u8 8))) (.con (.int .u8 0))), .is (.bin .eql (.bin .rem (.cell (.var 0) (.var 5) 3 0) (.con (.int .u8 8))) (.con (.int .u8 0))) (.bool false), .ok (.bin .eql (.bin .rem (.cell (.var 0) (.var 5) 3 0) (.con (.int .u8 8))) (.con (.int .u8 1))), .is (.bin .eql (.bin .rem (.cell (.var 0) (.var 5) 3 0) (.con (.int .u8 8))) (.con (.int .u8 1))) (.bool false), .ok (.bin .eql (.bin .rem (.cell (.var 0) (.var 5) 3 0) (.con (.int .u8 8))) (.con (.int .u8 2))), .is (.bin .eql (.bin .rem (.cell (.var 0) (.var 5) 3 0) (.con (.int .u8 8))) (.con (.int .u8 2))) (.bool false), .ok (.bin .eql (.bin .rem (.cell (.var 0) (.var 5) 3 0) (.con (.int .u8 8))) (.con (.int .u8 3))), .is (.bin .eql (.bin .rem (.cell (.var 0) (.var 5) 3 0) (.con (.int .u8 8))) (.con (.int .u8 3))) (.bool false), .ok (.bin .eql (.bin .rem (.cell (.var 0) (.var 5) 3 0) (.con (.int .u8 8))) (.con (.int .u8 4))), .is (.bin .eql (.bin .rem (.cell (.var 0) (.var 5) 3 0) (.con (.int .u8 8))) (.con (.int .u8 4))) (.bool true), .fn 21 (EWrite 9) [.var 7, .var 8, .var 9, .var 10, .var 6, .var 2], .ok (.fn 9 [.var 7, .var 8, .var 9, .var 10, .var 6, .var 2] 2), .ok (.fn 9 [.var 7, .var 8, .var 9, .var 10, .var 6, .var 2] 3), .is (.fn 9 [.var 7, .var 8, .var 9, .var 10, .var 6, .var 2] 4) (.bool false), .fn 22 (EWriteR 10) [.var 11, .var 12, .var 13, .var 14, .var 6, .var 2], .ok (.fn 10 [.var 11, .var 12, .var 13, .var 14, .var 6, .var 2] 2), .ok (.fn 10 [.var 11, .var 12, .var 13, .var 14, .var 6, .var 2] 3), .is (.fn 10 [.var 11, .var 12, .var 13, .var 14, .var 6, .var 2] 4) (.bool false), .fn 24 (ESame 12) [.fn 9 [.var 7, .var 8, .var 9, .var 10, .var 6, .var 2] 0, .fn 9 [.var 7, .var 8, .var 9, .var 10, .var 6, .var 2] 1, .fn 9 [.var 7, .var 8, .var 9, .var 10, .var 6, .var 2] 2, .fn 9 [.var 7, .var 8, .var 9, .var 10, .var 6, .var 2] 3, .fn 10 [.var 11, .var 12, .var 13, .var 14, .var 6, .var 2] 0, .fn 10 [.var 11, .var 12, .var 13, .var 14, .var 6, .var 2] 1, .fn 10 [.var 11, .var 12, .var 13, .var 14, .var 6, .var 2] 2, .fn 10 [.var 11, .var 12, .var 13, .var 14, .var 6, .var 2] 3], .is (.fn 12 [.fn 9 [.var 7, .var 8, .var 9, .var 10, .var 6, .var 2] 0, .fn 9 [.var 7, .var 8, .var 9, .var 10, .var 6, .var 2] 1, .fn 9 [.var 7, .var 8, .var 9, .var 10, .var 6, .var 2] 2, .fn 9 [.var 7, .var 8, .var 9, .var 10, .var 6, .var 2] 3, .fn 10 [.var 11, .var 12, .var 13, .var 14, .var 6, .var 2] 0, .fn 10 [.var 11, .var 12, .var 13, .var 14, .var 6, .var 2] 1, .fn 10 [.var 11, .var 12, .var 13, .var 14, .var 6, .var 2] 2, .fn 10 [.var 11, .var 12, .var 13, .var 14, .var 6, .var 2] 3] 0) (.bool true), .ok (.var 1), .ok (.var 2), .ok (.var 4), .ok (.var 5), .ok (.fn 9 [.var 7, .var 8, .var 9, .var 10, .var 6, .var 2] 2), .ok (.fn 9 [.var 7, .var 8, .var 9, .var 10, .var 6, .var 2] 3), .ok (.fn 10 [.var 11, .var 12, .var 13, .var 14, .var 6, .var 2] 2), .ok (.fn 10 [.var 11, .var 12, .var 13, .var 14, .var 6, .var 2] 3)], [.var 0, .var 1, .var 2, .var 3, .var 4, .var 5, .fn 9 [.var 7, .var 8, .var 9, .var 10, .var 6, .var 2] 0, .fn 9 [.var 7, .var 8, .var 9, .var 10, .var 6, .var 2] 1, .fn 9 [.var 7, .var 8, .var 9, .var 10, .var 6, .var 2] 2, .fn 9 [.var 7, .var 8, .var 9, .var 10, .var 6, .var 2] 3, .fn 10 [.var 11, .var 12, .var 13, .var 14, .var 6, .var 2] 0, .fn 10 [.var 11, .var 12, .var 13, .var 14, .var 6, .var 2] 1, .fn 10 [.var 11, .var 12, .var 13, .var 14, .var 6, .var 2] 2, .fn 10 [.var 11, .var 12, .var 13, .var 14, .var 6, .var 2] 3]) := by kernel_rfl
theorem k51 : segTo Try.prog (orcFn tabA) 10000 (bdA.drop 3) shB [0, 0, 0, 0, 0, 1, 1, 1] shA [(0, 0), (1, 0)] = some (.normal, [.idx (.var 0) (.var 5) 3 3, .idx (.var 0) (.var 5) 3 1, .ok (.cell (.var 0) (.var 5) 3 0), .ok (.bin .rem (.cell (.var 0) (.var 5) 3 0) (.con (.int .u8 8))), .ok (.bin .eql (.bin .rem (.cell (.var 0) (.var 5) 3 0) (.con (.int .u8 8))) (.con (.int .u8 0))), .is (.bin .eql (.bin .rem (.cell (.var 0) (.var 5) 3 0) (.con (.int .u8 8))) (.con (.int .u8 0))) (.bool false), .ok (.bin .eql (.bin .rem (.cell (.var 0) (.var 5) 3 0) (.con (.int .u8 8))) (.con (.int .u8 1))), .is (.bin .eql (.bin .rem (.cell (.var 0) (.var 5) 3 0) (.con (.int .u8 8))) (.con (.int .u8 1))) (.bool false), .ok (.bin .eql (.bin .rem (.cell (.var 0) (.var 5) 3 0) (.con (.int .u8 8))) (.con (.int .u8 2))), .is (.bin .eql (.bin .rem (.cell (.var 0) (.var 5) 3 0) (.con (.int .u8 8))) (.con (.int .u8 2))) (.bool false), .ok (.bin .eql (.bin .rem (.cell (.var 0) (.var 5) 3 0) (.con (.int .u8 8))) (.con (.int .u8 3))), .is (.bin .eql (.bin .rem (.cell (.var 0) (.var 5) 3 0) (.con (.int .u8 8))) (.con (.int .u8 3))) (.bool false), .ok (.bin .eql (.bin .rem (.cell (.var 0) (.var 5) 3 0) (.con (.int .u8 8))) (.con (.int .u8 4))), .is (.bin .eql (.bin .rem (.cell (.var 0) (.var 5) 3 0) (.con (.int .u8 8))) (.con (.int .u8 4))) (.bool false), .idx (.var 0) (.var 5) 3 3, .idx (.var 0) (.var 5) 3 3, .ok (.cell (.var 0) (.var 5) 3 2), .fn 23 (ESc 11) [.cell (.var 0) (.var 5) 3 2], .ok (.fn 11 [.cell (.var 0) (.var 5) 3 2] 0), .fn 21 (EWrite 9) [.var 7, .var 8, .var 9, .var 10, .var 6, .fn 11 [.cell (.var 0) (.var 5) 3 2] 0], .ok (.fn 9 [.var 7, .var 8, .var 9, .var 10, .var 6, .fn 11 [.cell (.var 0) (.var 5) 3 2] 0] 2), .ok (.fn 9 [.var 7, .var 8, .var 9, .var 10, .var 6, .fn 11 [.cell (.var 0) (.var 5) 3 2] 0] 3), .is (.fn 9 [.var 7, .var 8, .var 9, .var 10, .var 6, .fn 11 [.cell (.var 0) (.var 5) 3 2] 0] 4) (.bool true), .idx (.var 0) (.var 5) 3 3, .idx (.var 0) (.var 5) 3 3, .ok (.cell (.var 0) (.var 5) 3 2), .fn 23 (ESc 11) [.cell (.var 0) (.var 5) 3 2], .ok (.fn 11 [.cell (.var 0) (.var 5) 3 2] 0), .fn 22 (EWriteR 10) [.var 11, .var 12, .var 13, .var 14, .var 6, .fn 11 [.cell (.var 0) (.var 5) 3 2] 0], .ok (.fn 10 [.var 11, .var 12, .var 13, .var 14, .var 6, .fn 11 [.cell (.var 0) (.var 5) 3 2] 0] 2), .ok (.fn 10 [.var 11, .var 12, .var 13, .var 14, .var 6, .fn 11 [.cell (.var 0) (.var 5) 3 2] 0] 3), .is (.fn 10 [.var 11, .var 12, .var 13, .var 14, .var 6, .fn 11 [.cell (.var 0) (.var 5) 3 2] 0] 4) (.bool true), .fn 24 (ESame 12) [.fn 9 [.var 7, .var 8, .var 9, .var 10, .var 6, .fn 11 [.cell (.var 0) (.var 5) 3 2] 0] 0, .fn 9 [.var 7, .var 8, .var 9, .var 10, .var 6, .fn 11 [.cell (.var 0) (.var 5) 3 2] 0] 1, .fn 9 [.var 7, .var 8, .var 9, .var 10, .var 6, .fn 11 [.cell (.var 0) (.var 5) 3 2] 0] 2, .fn 9 [.var 7, .var 8, .var 9, .var 10, .var 6, .fn 11 [.cell (.var 0) (.var 5) 3 2] 0] 3, .fn 10 [.var 11, .var 12, .var 13, .var 14, .var 6, .fn 11 [.cell (.var 0) (.var 5) 3 2] 0] 0, .fn 10 [.var 11, .var 12, .var 13, .var 14, .var 6, .fn 11 [.cell (.var 0) (.var 5) 3 2] 0] 1, .fn 10 [.var 11, .var 12, .var 13, .var 14, .var 6, .fn 11 [.cell (.var 0) (.var 5) 3 2] 0] 2, .fn 10 [.var 11, .var 12, .var 13, .var 14, .var 6, .fn 11 [.cell (.var 0) (.var 5) 3 2] 0] 3], .is (.fn 12 [.fn 9 [.var 7, .var 8, .var 9, .var 10, .var 6, .fn 11 [.cell (.var 0) (.var 5) 3 2] 0] 0, .fn 9 [.var 7, .var 8, .var 9, .var 10, .var 6, .fn 11 [.cell (.var 0) (.var 5) 3 2] 0] 1, .fn 9 [.var 7, .var 8, .var 9, .var 10, .var 6, .fn 11 [.cell (.var 0) (.var 5) 3 2] 0] 2, .fn 9 [.var 7, .var 8, .var 9, .var 10, .var 6, .fn 11 [.cell (.var 0) (.var 5) 3 2] 0] 3, .fn 10 [.var 11, .var 12, .var 13, .var 14, .var 6, .fn 11 [.cell (.var 0) (.var 5) 3 2] 0] 0, .fn 10 [.var 11, .var 12, .var 13, .var 14, .var 6, .fn 11 [.cell (.var 0) (.var 5) 3 2] 0] 1, .fn 10 [.var 11, .var 12, .var 13, .var 14, .var 6, .fn 11 [.cell (.var 0) (.var 5) 3 2] 0] 2, .fn 10 [.var 11, .var 12, .var 13, .var 14, .var 6, .fn 11 [.cell (.var 0) (.var 5) 3 2] 0] 3] 0) (.bool true), .ok (.var 1), .ok (.var 2), .ok (.var 4), .ok (.var 5), .ok (.fn 9 [.var 7, .var 8, .var 9, .var 10, .var 6, .fn 11 [.cell (.var 0) (.var 5) 3 2] 0] 2), .ok (.fn 9 [.var 7, .var 8, .var 9, .var 10, .var 6, .fn 11 [.cell (.var 0) (.var 5) 3 2] 0] 3), .ok (.fn 10 [.var 11, .var 12, .var 13, .var 14, .var 6, .fn 11 [.cell (.var 0) (.var 5) 3 2] 0] 2), .ok (.fn 10 [.var 11, .var 12, .var 13, .var 14, .var 6, .fn 11 [.cell (.var 0) (.var 5) 3 2] 0] 3)], [.var 0, .var 1, .var 2, .var 3, .var 4, .var 5, .fn 9 [.var 7, .var 8, .var 9, .var 10, .var 6, .fn 11 [.cell (.var 0) (.var 5) 3 2] 0] 0, .fn 9 [.var 7, .var 8, .var 9, .var 10, .var 6, .fn 11 [.cell (.var 0) (.var 5) 3 2] 0] 1, .fn 9 [.var 7, .var 8, .var 9, .var 10, .var 6, .fn 11 [.cell (.var 0) (.var 5) 3 2] 0] 2, .fn 9 [.var 7, .var 8, .var 9, .var 10, .var 6, .fn 11 [.cell (.var 0) (.var 5) 3 2] 0] 3, .fn 10 [.var 11, .var 12, .var 13, .var 14, .var 6, .fn 11 [.cell (.var 0) (.var 5) 3 2] 0] 0, .fn 10 [.var 11, .var 12, .var 13, .var 14, .var 6, .fn 11 [.cell (.var 0) (.var 5) 3 2] 0] 1, .fn 10 [.var 11, .var 12, .var 13, .var 14, .var 6, .fn 11 [.cell (.var 0) (.var 5) 3 2] 0] 2, .fn 10 [.var 11, .var 12, .var 13, .var 14, .var 6, .fn 11 [.cell (.var 0) (.var 5) 3 2] 0] 3]) := by kernel_rfl
theorem k50 : segTo Try.prog (orcFn tabA) 10000 (bdA.drop 3) shB [0, 0, 0, 0, 0, 0, 0, 1] shA [(0, 0), (1, 0)] = some (.normal, [.idx (.var 0) (.var 5) 3 3, .idx (.var 0) (.var 5) 3 1, .ok (.cell (.var 0) (.var 5) 3 0), .ok (.bin .rem (.cell (.var 0) (.var 5) 3 0) (.con (.int .u8 8))), .ok (.bin .eql (.bin .rem (.cell (.var 0) (.var 5) 3 0) (.con (.int .u8 8))) (.con (.int .u8 0))), .is (.bin .eql (.bin .rem (.cell (.var 0) (.var 5) 3 0) (.con (.int .u8 8))) (.con (.int .u8 0))) (.bool false), .ok (.bin .eql (.bin .rem (.cell (.var 0) (.var 5) 3 0) (.con (.int .u8 8))) (.con (.int .u8 1))), .is (.bin .eql (.bin .rem (.cell (.var 0) (.var 5) 3 0) (.con (.int .u8 8))) (.con (.int .u8 1))) (.bool false), .ok (.bin .eql (.bin .rem (.cell (.var 0) (.var 5) 3 0) (.con (.int .u8 8))) (.con (.int .u8 2))), .is (.bin .eql (.bin .rem (.cell (.var 0) (.var 5) 3 0) (.con (.int .u8 8))) (.con (.int .u8 2))) (.bool false), .ok (.bin .eql (.bin .rem (.cell (.var 0) (.var 5) 3 0) (.con (.int .u8 8))) (.con (.int .u8 3))), .is (.bin .eql (.bin .rem (.cell (.var 0) (.var 5) 3 0) (.con (.int .u8 8))) (.con (.int .u8 3))) (.bool false), .ok (.bin .eql (.bin .rem (.cell (.var 0) (.var 5) 3 0) (.con (.int .u8 8))) (.con (.int .u8 4))), .is (.bin .eql (.bin .rem (.cell (.var 0) (.var 5) 3 0) (.con (.int .u8 8))) (.con (.int .u8 4))) (.bool false), .idx (.var 0) (.var 5) 3 3, .idx (.var 0) (.var 5) 3 3, .ok (.cell (.var 0) (.var 5) 3 2), .fn 23 (ESc 11) [.cell (.var 0) (.var 5) 3 2], .ok (.fn 11 [.cell (.var 0) (.var 5) 3 2] 0), .fn 21 (EWrite 9) [.var 7, .var 8, .var 9, .var 10, .var 6, .fn 11 [.cell (.var 0) (.var 5) 3 2] 0], .ok (.fn 9 [.var 7, .var 8, .var 9, .var 10, .var 6, .fn 11 [.cell (.var 0) (.var 5) 3 2] 0] 2), .ok (.fn 9 [.var 7, .var 8, .var 9, .var 10, .var 6, .fn 11 [.cell (.var 0) (.var 5) 3 2] 0] 3), .is (.fn 9 [.var 7, .var 8, .var 9, .var 10, .var 6, .fn 11 [.cell (.var 0) (.var 5) 3 2] 0] 4) (.bool false), .idx (.var 0) (.var 5) 3 3, .idx (.var 0) (.var 5) 3 3, .ok (.cell (.var 0) (.var 5) 3 2), .fn 23 (ESc 11) [.cell (.var 0) (.var 5) 3 2], .ok (.fn 11 [.cell (.var 0) (.var 5) 3 2] 0), .fn 22 (EWriteR 10) [.var 11, .var 12, .var 13, .var 14, .var 6, .fn 11 [.cell (.var 0) (.var 5) 3 2] 0], .ok (.fn 10 [.var 11, .var 12, .var 13, .var 14, .var 6, .fn 11 [.cell (.var 0) (.var 5) 3 2] 0] 2), .ok (.fn 10 [.var 11, .var 12, .var 13, .var 14, .var 6, .fn 11 [.cell (.var 0) (.var 5) 3 2] 0] 3), .is (.fn 10 [.var 11, .var 12, .var 13, .var 14, .var 6, .fn 11 [.cell (.var 0) (.var 5) 3 2] 0] 4) (.bool false), .fn 24 (ESame 12) [.fn 9 [.var 7, .var 8, .var 9, .var 10, .var 6, .fn 11 [.cell (.var 0) (.var 5) 3 2] 0] 0, .fn 9 [.var 7, .var 8, .var 9, .var 10, .var 6, .fn 11 [.cell (.var 0) (.var 5) 3 2] 0] 1, .fn 9 [.var 7, .var 8, .var 9, .var 10, .var 6, .fn 11 [.cell (.var 0) (.var 5) 3 2] 0] 2, .fn 9 [.var 7, .var 8, .var 9, .var 10, .var 6, .fn 11 [.cell (.var 0) (.var 5) 3 2] 0] 3, .fn 10 [.var 11, .var 12, .var 13, .var 14, .var 6, .fn 11 [.cell (.var 0) (.var 5) 3 2] 0] 0, .fn 10 [.var 11, .var 12, .var 13, .var 14, .var 6, .fn 11 [.cell (.var 0) (.var 5) 3 2] 0] 1, .fn 10 [.var 11, .var 12, .var 13, .var 14, .var 6, .fn 11 [.cell (.var 0) (.var 5) 3 2] 0] 2, .fn 10 [.var 11, .var 12, .var 13, .var 14, .var 6, .fn 11 [.cell (.var 0) (.var 5) 3 2] 0] 3], .is (.fn 12 [.fn 9 [.var 7, .var 8, .var 9, .var 10, .var 6, .fn 11 [.cell (.var 0) (.var 5) 3 2] 0] 0, .fn 9 [.var 7, .var 8, .var 9, .var 10, .var 6, .fn 11 [.cell (.var 0) (.var 5) 3 2] 0] 1, .fn 9 [.var 7, .var 8, .var 9, .var 10, .var 6, .fn 11 [.cell (.var 0) (.var 5) 3 2] 0] 2, .fn 9 [.var 7, .var 8, .var 9, .var 10, .var 6, .fn 11 [.cell (.var 0) (.var 5) 3 2] 0] 3, .fn 10 [.var 11, .var 12, .var 13, .var 14, .var 6, .fn 11 [.cell (.var 0) (.var 5) 3 2] 0] 0, .fn 10 [.var 11, .var 12, .var 13, .var 14, .var 6, .fn 11 [.cell (.var 0) (.var 5) 3 2] 0] 1, .fn 10 [.var 11, .var 12, .var 13, .var 14, .var 6, .fn 11 [.cell (.var 0) (.var 5) 3 2] 0] 2, .fn 10 [.var 11, .var 12, .var 13, .var 14, .var 6, .fn 11 [.cell (.var 0) (.var 5) 3 2] 0] 3] 0) (.bool true), .ok (.var 1), .ok (.var 2), .ok (.var 4), .ok (.var 5), .ok (.fn 9 [.var 7, .var 8, .var 9, .var 10, .var 6, .fn 11 [.cell (.var 0) (.var 5) 3 2] 0] 2), .ok (.fn 9 [.var 7, .var 8, .var 9, .var 10, .var 6, .fn 11 [.cell (.var 0) (.var 5) 3 2] 0] 3), .ok (.fn 10 [.var 11, .var 12, .var 13, .var 14, .var 6, .fn 11 [.cell (.var 0) (.var 5) 3 2] 0] 2), .ok (.fn 10 [.var 11, .var 12, .var 13, .var 14, .var 6, .fn 11 [.cell (.var 0) (.var 5) 3 2] 0] 3)], [.var 0, .var 1, .var 2, .var 3, .var 4, .var 5, .fn 9 [.var 7, .var 8, .var 9, .var 10, .var 6, .fn 11 [.cell (.var 0) (.var 5) 3 2] 0] 0, .fn 9 [.var 7, .var 8, .var 9, .var 10, .var 6, .fn 11 [.cell (.var 0) (.var 5) 3 2] 0] 1, .fn 9 [.var 7, .var 8, .var 9, .var 10, .var 6, .fn 11 [.cell (.var 0) (.var 5) 3 2] 0] 2, .fn 9 [.var 7, .var 8, .var 9, .var 10, .var 6, .fn 11 [.cell (.var 0) (.var 5) 3 2] 0] 3, .fn 10 [.var 11, .var 12, .var 13, .var 14, .var 6, .fn 11 [.cell (.var 0) (.var 5) 3 2] 0] 0, .fn 10 [.var 11, .var 12, .var 13, .var 14, .var 6, .fn 11 [.cell (.var 0) (.var 5) 3 2] 0] 1, .fn 10 [.var 11, .var 12, .var 13, .var 14, .var 6, .fn 11 [.cell (.var 0) (.var 5) 3 2] 0] 2, .fn 10 [.var 11, .var 12, .var 13, .var 14, .var 6, .fn 11 [.cell (.var 0) (.var 5) 3 2] 0] 3]) := by kernel_rfl
theorem stp : segTo Try.prog (orcFn tabA) 10000 (lpA.drop 3) shA [] shA [(0, 0), (1, 0)] = some (.normal, [.ok (.bin .add (.var 5) (.con (.int .i64 1))), .ok (.var 1), .ok (.var 2), .ok (.var 4), .ok (.bin .add (.var 5) (.con (.int .i64 1))), .ok (.var 8), .ok (.var 9), .ok (.var 12), .ok (.var 13)], [.var 0, .var 1, .var 2, .var 3, .var 4, .bin .add (.var 5) (.con (.int .i64 1)), .var 6, .var 7, .var 8, .var 9, .var 10, .var 11, .var 12, .var 13]) := by kernel_rfl
theorem p1 : segTo Try.prog (orcFn tabA) 10000 (flA.drop 8) shA [1, 1] shR [] = some (.ret, [.fn 17 (ECrash 5) [.var 6, .var 7, .var 8, .var 9, .var 3], .ok (.fn 5 [.var 6, .var 7, .var 8, .var 9, .var 3] 2), .ok (.fn 5 [.var 6, .var 7, .var 8, .var 9, .var 3] 3), .fn 18 (ECrashR 6) [.var 10, .var 11, .var 12, .var 13, .var 3], .ok (.fn 6 [.var 10, .var 11, .var 12, .var 13, .var 3] 2), .ok (.fn 6 [.var 10, .var 11, .var 12, .var 13, .var 3] 3), .fn 24 (ESame 12) [.fn 5 [.var 6, .var 7, .var 8, .var 9, .var 3] 0, .fn 5 [.var 6, .var 7, .var 8, .var 9, .var 3] 1, .fn 5 [.var 6, .var 7, .var 8, .var 9, .var 3] 2, .fn 5 [.var 6, .var 7, .var 8, .var 9, .var 3] 3, .fn 6 [.var 10, .var 11, .var 12, .var 13, .var 3] 0, .fn 6 [.var 10, .var 11, .var 12, .var 13, .var 3] 1, .fn 6 [.var 10, .var 11, .var 12, .var 13, .var 3] 2, .fn 6 [.var 10, .var 11, .var 12, .var 13, .var 3] 3], .is (.fn 12 [.fn 5 [.var 6, .var 7, .var 8, .var 9, .var 3] 0, .fn 5 [.var 6, .var 7, .var 8, .var 9, .var 3] 1, .fn 5 [.var 6, .var 7, .var 8, .var 9, .var 3] 2, .fn 5 [.var 6, .var 7, .var 8, .var 9, .var 3] 3, .fn 6 [.var 10, .var 11, .var 12, .var 13, .var 3] 0, .fn 6 [.var 10, .var 11, .var 12, .var 13, .var 3] 1, .fn 6 [.var 10, .var 11, .var 12, .var 13, .var 3] 2, .fn 6 [.var 10, .var 11, .var 12, .var 13, .var 3] 3] 0) (.bool true), .ok (.bin .gtr (.var 4) (.con (.int .i64 64))), .is (.bin .gtr (.var 4) (.con (.int .i64 64))) (.bool true), .ok (.con (.bool true))], [.con (.bool true)]) := by kernel_rfl
theorem p0 : segTo Try.prog (orcFn tabA) 10000 (flA.drop 8) shA [1, 0, 1] shR [] = some (.ret, [.fn 17 (ECrash 5) [.var 6, .var 7, .var 8, .var 9, .var 3], .ok (.fn 5 [.var 6, .var 7, .var 8, .var 9, .var 3] 2), .ok (.fn 5 [.var 6, .var 7, .var 8, .var 9, .var 3] 3), .fn 18 (ECrashR 6) [.var 10, .var 11, .var 12, .var 13, .var 3], .ok (.fn 6 [.var 10, .var 11, .var 12, .var 13, .var 3] 2), .ok (.fn 6 [.var 10, .var 11, .var 12, .var 13, .var 3] 3), .fn 24 (ESame 12) [.fn 5 [.var 6, .var 7, .var 8, .var 9, .var 3] 0, .fn 5 [.var 6, .var 7, .var 8, .var 9, .var 3] 1, .fn 5 [.var 6, .var 7, .var 8, .var 9, .var 3] 2, .fn 5 [.var 6, .var 7, .var 8, .var 9, .var 3] 3, .fn 6 [.var 10, .var 11, .var 12, .var 13, .var 3] 0, .fn 6 [.var 10, .var 11, .var 12, .var 13, .var 3] 1, .fn 6 [.var 10, .var 11, .var 12, .var 13, .var 3] 2, .fn 6 [.var 10, .var 11, .var 12, .var 13, .var 3] 3], .is (.fn 12 [.fn 5 [.var 6, .var 7, .var 8, .var 9, .var 3] 0, .fn 5 [.var 6, .var 7, .var 8, .var 9, .var 3] 1, .fn 5 [.var 6, .var 7, .var 8, .var 9, .var 3] 2, .fn 5 [.var 6, .var 7, .var 8, .var 9, .var 3] 3, .fn 6 [.var 10, .var 11, .var 12, .var 13, .var 3] 0, .fn 6 [.var 10, .var 11, .var 12, .var 13, .var 3] 1, .fn 6 [.var 10, .var 11, .var 12, .var 13, .var 3] 2, .fn 6 [.var 10, .var 11, .var 12, .var 13, .var 3] 3] 0) (.bool true), .ok (.bin .gtr (.var 4) (.con (.int .i64 64))), .is (.bin .gtr (.var 4) (.con (.int .i64 64))) (.bool false), .fn 13 (ENew 1) [.var 4], .ok (.fn 1 [.var 4] 2), .ok (.fn 1 [.var 4] 3), .fn 14 (ENew 2) [.var 4], .ok (.fn 2 [.var 4] 2), .ok (.fn 2 [.var 4] 3), .fn 24 (ESame 12) [.fn 1 [.var 4] 0, .fn 1 [.var 4] 1, .fn 1 [.var 4] 2, .fn 1 [.var 4] 3, .fn 2 [.var 4] 0, .fn 2 [.var 4] 1, .fn 2 [.var 4] 2, .fn 2 [.var 4] 3], .is (.fn 12 [.fn 1 [.var 4] 0, .fn 1 [.var 4] 1, .fn 1 [.var 4] 2, .fn 1 [.var 4] 3, .fn 2 [.var 4] 0, .fn 2 [.var 4] 1, .fn 2 [.var 4] 2, .fn 2 [.var 4] 3] 0) (.bool true), .ok (.con (.bool true))], [.con (.bool true)]) := by kernel_rfl

def enc3 : Enc (Nat × Nat × Nat) := { sz := 3, enc := fun p => [.int .u8 (p.1 : Int), .int .u8 (p.2.1 : Int), .int .u8 (p.2.2 : Int)], len := fun _ => rfl, one := fun _ u hu => by simp at hu; rcases hu with rfl | rfl | rfl <;> rfl, pos := by decide }
theorem cell3 (l : List (Nat × Nat × Nat)) (i : Nat) (h : i < l.length) (j : Nat) (hj : j < 3) : cellPV (pRow enc3 l) (pI (i : Int)) 3 j = ((enc3.enc l[i])[j]?).map .v := by
  rw [cellPV_row enc3 l i .i64 3 j rfl h, all_cell enc3 l i j l[i] (List.getElem?_eq_getElem h) hj]
@[simp] theorem kENew (k : Nat) : (ENew k).k = k := rfl
@[simp] theorem kEFlush (k : Nat) : (EFlush k).k = k := rfl
@[simp] theorem kEFlushR (k : Nat) : (EFlushR k).k = k := rfl
@[simp] theorem kECrash (k : Nat) : (ECrash k).k = k := rfl
@[simp] theorem kECrashR (k : Nat) : (ECrashR k).k = k := rfl
@[simp] theorem kERead (k : Nat) : (ERead k).k = k := rfl
@[simp] theorem kEWrite (k : Nat) : (EWrite k).k = k := rfl
@[simp] theorem kEWriteR (k : Nat) : (EWriteR k).k = k := rfl
@[simp] theorem kESc (k : Nat) : (ESc k).k = k := rfl
@[simp] theorem kESame (k : Nat) : (ESame k).k = k := rfl
noncomputable def G : Fns := fun k => match k with | 1 => spec RNew | 2 => spec RNew | 3 => spec RFlush | 4 => spec RFlush | 5 => spec RCrash | 6 => spec RCrash | 7 => spec RRead | 8 => spec RRead | 9 => spec RWrite | 10 => spec RWrite | 11 => spec RSec | 12 => spec RSame | 13 => spec RTrue | _ => fun _ => none
theorem u1 : ToldF 13 (ENew 1) (G 1) := symD.toldNew 1
theorem u2 : ToldF 14 (ENew 2) (G 2) := rdk.toldNew 2
theorem u3 : ToldF 15 (EFlush 3) (G 3) := symD.toldFlush 3
theorem u4 : ToldF 16 (EFlushR 4) (G 4) := rdk.toldFlush 4
theorem u5 : ToldF 17 (ECrash 5) (G 5) := symD.toldCrash 5
theorem u6 : ToldF 18 (ECrashR 6) (G 6) := rdk.toldCrash 6
theorem u7 : ToldF 19 (ERead 7) (G 7) := symD.toldRead 7
theorem u8 : ToldF 20 (ERead 8) (G 8) := rdk.toldRead 8
theorem u9 : ToldF 21 (EWrite 9) (G 9) := symD.toldWrite 9
theorem u10 : ToldF 22 (EWriteR 10) (G 10) := rdk.toldWrite 10
theorem u11 : ToldF 23 (ESc 11) (G 11) := symD.toldSec 11
theorem u12 : ToldF 24 (ESame 12) (G 12) := rdk.toldSame 12
theorem u13 : ToldF 12 (ETrue 13) (G 13) := symD.toldBegun
theorem G1 (n : Int) : G 1 [pI n] = some (pD (newD n)) ∧ G 2 [pI n] = some (pD (newD n)) := ⟨spec_of fNew ⟨n, rfl, rfl⟩, spec_of fNew ⟨n, rfl, rfl⟩⟩
theorem G3 {d d' : D} {b : Bool} (ok : d.ok) (h : flush2 d = (d', b)) : G 3 (pD d) = some (pD d' ++ [pB b]) ∧ G 4 (pD d) = some (pD d' ++ [pB b]) := ⟨spec_of fFlush ⟨d, ok, rfl, by rw [h]⟩, spec_of fFlush ⟨d, ok, rfl, by rw [h]⟩⟩
theorem G5 {d : D} {keep : List Int} (ok : d.ok) : G 5 (pD d ++ [pRow encI keep]) = some (pD (crashD d keep)) ∧ G 6 (pD d ++ [pRow encI keep]) = some (pD (crashD d keep)) := ⟨spec_of fCrash ⟨d, keep, ok, rfl, rfl⟩, spec_of fCrash ⟨d, keep, ok, rfl, rfl⟩⟩
theorem G7 {d : D} {i : Int} {s : ByteArray} {b : Bool} (ok : d.ok) (h : readD d i = (s, b)) : G 7 (pD d ++ [pI i]) = some [pS s, pB b] ∧ G 8 (pD d ++ [pI i]) = some [pS s, pB b] := ⟨spec_of fRead ⟨d, i, ok, rfl, by rw [h]⟩, spec_of fRead ⟨d, i, ok, rfl, by rw [h]⟩⟩
theorem G9 {d d' : D} {i : Int} {s : ByteArray} {b : Bool} (ok : d.ok) (h : writeD d i s = (d', b)) : G 9 (pD d ++ [pI i, pS s]) = some (pD d' ++ [pB b]) ∧ G 10 (pD d ++ [pI i, pS s]) = some (pD d' ++ [pB b]) := ⟨spec_of fWrite ⟨d, i, s, ok, rfl, by rw [h]⟩, spec_of fWrite ⟨d, i, s, ok, rfl, by rw [h]⟩⟩
theorem G11 {n : Nat} (h : n < 256) : G 11 [pU (n : Int)] = some [pS (sec.sec n)] := spec_of fSec ⟨n, h, rfl, rfl⟩
theorem G12 {d : D} (ok : d.ok) : G 12 (pD d ++ pD d) = some [pB true] := spec_of fSame ⟨d, ok, rfl, rfl⟩
theorem G13 : G 13 [] = some [pB true] := spec_of fTrue ⟨rfl, rfl⟩
theorem wait_write (d : D) (i : Int) (b : ByteArray) : (writeD d i b).1.wait.length ≤ d.wait.length + 1 := by
  unfold writeD
  split
  · simp
  · simp
theorem wait_flush (d : D) : (flush2 d).1.wait.length ≤ d.wait.length := by
  unfold flush2
  split
  · exact Nat.le_refl _
  · exact Nat.zero_le _
def ELaw (k : Nat) : FnE := { k := k, ins := [none, none, none, none, none], leaks := [], outs := [none], kinds := [.truth] }
def RL (ps qs : List PV) : Prop := ∃ (l : List (Nat × Nat × Nat)) (wild : Int) (s : ByteArray) (keep : List Int) (n : Int), (∀ p ∈ l, p.1 < 256 ∧ p.2.1 < 256 ∧ p.2.2 < 256) ∧ ps = [pRow enc3 l, pI wild, pS s, pRow encI keep, pI n] ∧ qs = [pB true]
theorem fL : ∀ ps q1 q2, RL ps q1 → RL ps q2 → q1 = q2 := by
  rintro ps q1 q2 ⟨_, _, _, _, _, _, _, rfl⟩ ⟨_, _, _, _, _, _, _, rfl⟩; rfl
theorem cutA : flA = flA.take 7 ++ .block (blockId (nth flA 7)) (.loop (loopBody (nth flA 7))) :: flA.drop 8 := by kernel_rfl
theorem cutL : lpA = lpA.take 2 ++ .block (blockId (nth lpA 2)) (blockBody (nth lpA 2)) :: lpA.drop 3 := by kernel_rfl
theorem cutB : bdA = bdA.take 3 ++ bdA.drop 3 := by kernel_rfl
abbrev stA (l : List (Nat × Nat × Nat)) (wild : Int) (s : ByteArray) (keep : List Int) (n : Int) (i : Nat) (d : D) : List PV := [pRow enc3 l, pI wild, pS s, pRow encI keep, pI n, pI (i : Int), pRow encS d.last, pRow encP d.wait, pI (d.arm : Int), pB d.down, pRow encS d.last, pRow encP d.wait, pI (d.arm : Int), pB d.down]
abbrev stB (l : List (Nat × Nat × Nat)) (wild : Int) (s : ByteArray) (keep : List Int) (n : Int) (i : Nat) (at1 : Int) (d : D) : List PV := [pRow enc3 l, pI wild, pS s, pRow encI keep, pI n, pI (i : Int), pI at1, pRow encS d.last, pRow encP d.wait, pI (d.arm : Int), pB d.down, pRow encS d.last, pRow encP d.wait, pI (d.arm : Int), pB d.down]
set_option maxHeartbeats 4000000 in
theorem told (k0 : Nat) : ToldF 3 (ELaw k0) (spec RL) := by
  refine told_by G _ (bodyOf Try.prog 3) Try.func3 (by kernel_rfl) sh0 (by kernel_rfl) ?_ ?_
  · intro ps qs h i hi
    obtain ⟨l, wild, s, keep, n, _, rfl, rfl⟩ := of_spec h
    simp [sh0] at hi
    match i, hi with
    | 0, hi => simp at hi
    | 1, hi => exact ⟨_, rfl, rfl⟩
    | 2, hi => exact ⟨_, rfl, rfl⟩
    | 3, hi => simp at hi
    | 4, hi => exact ⟨_, rfl, rfl⟩
    | i + 5, hi => simp at hi
  · intro C ps qs hF h a w hsh
    obtain ⟨l, wild, s, keep, n, hz, rfl, rfl⟩ := of_spec h
    show wpL Try.prog flA _ a w
    have fin : ∀ qs a1 w1, qs = [pB true] → InShape C shR qs a1 w1 → (AX.ret = .normal → wpL Try.prog [] (fun e a' w' => (e = .normal ∨ e = .ret) ∧ ∃ sh' ps' es, InShape C sh' ps' a' w' ∧ resTo Try.prog Try.f3 sh' (ELaw k0) = some es ∧ evs (fun i => ps'[i]?) G es = some [pB true]) a1 w1) ∧ (AX.ret ≠ .normal → ((AX.ret.to = .normal ∨ AX.ret.to = .ret) ∧ ∃ sh' ps' es, InShape C sh' ps' a1 w1 ∧ resTo Try.prog Try.f3 sh' (ELaw k0) = some es ∧ evs (fun i => ps'[i]?) G es = some [pB true])) := by
      rintro qs a1 w1 rfl h1
      exact ⟨fun h => (by cases h), fun _ => ⟨.inr rfl, shR, _, [SX.var 0], h1, by kernel_rfl, rfl⟩⟩
    by_cases hl1 : 30 < l.length
    · rw [← List.append_nil flA]
      refine seg_ok names_ok mixed_ok (orcFn_ok _) q1 hsh ?_ (fun qs a1 w1 hq h1 => fin qs a1 w1 (by simp [evs, SX.ev] at hq; exact hq.symm) h1)
      simp only [List.mem_cons, List.not_mem_nil, or_false, forall_eq_or_imp, forall_eq]
      simp [holds_idxP, holds_cellsP, Base.ev, SX.ev, evs, Value.oneCell', hF, lenPV_row, binPV, G13, u13]
      omega
    by_cases hs1 : 40 < s.size
    · rw [← List.append_nil flA]
      refine seg_ok names_ok mixed_ok (orcFn_ok _) q2 hsh ?_ (fun qs a1 w1 hq h1 => fin qs a1 w1 (by simp [evs, SX.ev] at hq; exact hq.symm) h1)
      simp only [List.mem_cons, List.not_mem_nil, or_false, forall_eq_or_imp, forall_eq]
      simp [holds_idxP, holds_cellsP, Base.ev, SX.ev, evs, Value.oneCell', hF, lenPV_row, binPV, slenPV, G13, u13]
      omega
    by_cases hk1 : 40 < keep.length
    · rw [← List.append_nil flA]
      refine seg_ok names_ok mixed_ok (orcFn_ok _) q3 hsh ?_ (fun qs a1 w1 hq h1 => fin qs a1 w1 (by simp [evs, SX.ev] at hq; exact hq.symm) h1)
      simp only [List.mem_cons, List.not_mem_nil, or_false, forall_eq_or_imp, forall_eq]
      simp [holds_idxP, holds_cellsP, Base.ev, SX.ev, evs, Value.oneCell', hF, lenPV_row, binPV, slenPV, G13, u13]
      omega
    rw [cutA]
    obtain ⟨n1, n2⟩ := G1 4
    have on := ok_new 4
    have wn : (newD 4).wait.length = 0 := rfl
    generalize newD 4 = dn at *
    simp only [pD] at n1 n2
    refine seg_ok names_ok mixed_ok (orcFn_ok _) pre hsh ?_ ?_
    · simp only [List.mem_cons, List.not_mem_nil, or_false, forall_eq_or_imp, forall_eq]
      simp [holds_idxP, holds_cellsP, Base.ev, SX.ev, evs, Value.oneCell', hF, lenPV_row, binPV, slenPV, G13, u13, n1, n2, u1, u2]
      omega
    intro qs a1 w1 hq h1
    refine ⟨fun _ => ?_, fun h => absurd rfl h⟩
    simp [evs, SX.ev, hF, n1, n2] at hq
    subst hq
    refine block_loop (fun q a w => ∃ (i : Nat) (d : D), i ≤ l.length ∧ q = l.length - i ∧ d.ok ∧ d.wait.length ≤ i ∧ InShape C shA (stA l wild s keep n i d) a w) ?_ (n := l.length) ⟨0, dn, by omega, by omega, on, by omega, h1⟩
    rintro q a w ⟨i, d, hi, rfl, ok, hw, hin⟩
    show wpL Try.prog lpA _ a w
    by_cases hlt : i < l.length
    · -- a deed
      obtain ⟨z0, z1, z2⟩ := hz _ (List.getElem_mem hlt)
      have c0 : cellPV (pRow enc3 l) (pI (i : Int)) 3 0 = some (pU (l[i].1 : Int)) := by rw [cell3 l i hlt 0 (by omega)]; rfl
      have c1 : cellPV (pRow enc3 l) (pI (i : Int)) 3 1 = some (pU (l[i].2.1 : Int)) := by rw [cell3 l i hlt 1 (by omega)]; rfl
      have c2 : cellPV (pRow enc3 l) (pI (i : Int)) 3 2 = some (pU (l[i].2.2 : Int)) := by rw [cell3 l i hlt 2 (by omega)]; rfl
      have i1 := idxP_row enc3 l i 3 1 .i64 rfl hlt (by decide)
      have i2 := idxP_row enc3 l i 3 2 .i64 rfl hlt (by decide)
      have i3 := idxP_row enc3 l i 3 3 .i64 rfl hlt (by decide)
      have v3 : IntKind.i64.wrap ((i : Int) + 1) = (i : Int) + 1 := wrapI _ (by omega) (by omega)
      generalize l[i].1 = x0 at *
      generalize l[i].2.1 = x1 at *
      generalize l[i].2.2 = x2 at *
      have wc : ∀ z : Nat, z < 256 → IntKind.i64.wrap (z : Int) = (z : Int) := fun z hz => wrapI _ (by omega) (by omega)
      let Q : Exit → Act → World → Prop := fun e a' w' => (e = .normal ∧ ∃ n', n' < l.length - i ∧ ∃ (j : Nat) (d : D), j ≤ l.length ∧ n' = l.length - j ∧ d.ok ∧ d.wait.length ≤ j ∧ InShape C shA (stA l wild s keep n j d) a' w') ∨ (e = .exit (blockId (nth flA 7)) ∧ wpL Try.prog (flA.drop 8) (fun e a' w' => (e = .normal ∨ e = .ret) ∧ ∃ sh' ps' es, InShape C sh' ps' a' w' ∧ resTo Try.prog Try.f3 sh' (ELaw k0) = some es ∧ evs (fun i => ps'[i]?) G es = some [pB true]) a' w') ∨ (e = .ret ∧ ((Exit.ret = .normal ∨ Exit.ret = .ret) ∧ ∃ sh' ps' es, InShape C sh' ps' a' w' ∧ resTo Try.prog Try.f3 sh' (ELaw k0) = some es ∧ evs (fun i => ps'[i]?) G es = some [pB true]))
      let QB : Exit → Act → World → Prop := fun e a' w' => (e = .normal ∧ wpL Try.prog (lpA.drop 3) Q a' w') ∨ (e = .exit (blockId (nth lpA 2)) ∧ wpL Try.prog (lpA.drop 3) Q a' w') ∨ (e = .ret ∧ Q .ret a' w') ∨ (∃ j, j ≠ (blockId (nth lpA 2)) ∧ e = .exit j ∧ Q (.exit j) a' w') ∨ (∃ ch, e = .panic ch ∧ Q (.panic ch) a' w')
      have stC : ∀ (d : D) a w, d.ok → d.wait.length ≤ i + 1 → InShape C shA (stA l wild s keep n i d) a w → wpL Try.prog (lpA.drop 3) Q a w := by
        intro d a w ok hw hin
        rw [← List.append_nil (lpA.drop 3)]
        refine seg_ok names_ok mixed_ok (orcFn_ok _) stp hin ?_ ?_
        · simp only [List.mem_cons, List.not_mem_nil, or_false, forall_eq_or_imp, forall_eq]
          simp [holds_idxP, holds_cellsP, Base.ev, SX.ev, evs, Value.oneCell', binPV, v3]
        · intro qs a1 w1 hq h1
          refine ⟨fun _ => .inl ⟨rfl, l.length - (i + 1), by omega, i + 1, d, by omega, rfl, ok, by omega, ?_⟩, fun h => absurd rfl h⟩
          simp [evs, SX.ev, binPV, v3] at hq
          subst hq
          exact h1
      have stD : ∀ (at1 : Int) a w, InShape C shB (stB l wild s keep n i at1 d) a w → wpL Try.prog (bdA.drop 3) QB a w := by
        intro at1 a w hin
        rw [← List.append_nil (bdA.drop 3)]
        have go : ∀ (d' : D), d'.ok → d'.wait.length ≤ i + 1 → ∀ qs a1 w1, qs = stA l wild s keep n i d' → InShape C shA qs a1 w1 → (AX.normal = .normal → wpL Try.prog [] QB a1 w1) ∧ (AX.normal ≠ .normal → QB AX.normal.to a1 w1) := by
          rintro d' ok' hw' qs a1 w1 rfl h1
          exact ⟨fun _ => .inl ⟨rfl, stC d' a1 w1 ok' hw' h1⟩, fun h => absurd rfl h⟩
        clear stC
        have same : ∀ d' : D, d'.ok → G 12 [pRow encS d'.last, pRow encP d'.wait, pI (d'.arm : Int), pB d'.down, pRow encS d'.last, pRow encP d'.wait, pI (d'.arm : Int), pB d'.down] = some [pB true] := fun d' ok' => G12 ok'
        have wr : ∀ (b : ByteArray) (d' : D) (r : Bool), writeD d at1 b = (d', r) → d'.ok ∧ d'.wait.length ≤ i + 1 := fun b d' r h => by
          have h1 := ok_write ok (by omega) at1 b
          have h2 := wait_write d at1 b
          rw [h] at h1 h2
          exact ⟨h1, by simp only at h2; omega⟩
        obtain ⟨r, hr⟩ : ∃ r : Nat, x0 % 8 = r := ⟨_, rfl⟩
        have t8 : (x0 : Int).tmod 8 = (r : Int) := by rw [← hr]; rfl
        have hr8 : r < 8 := by omega
        match r, hr, hr8 with
        | 0, hr, _ =>
          cases hfl : flush2 d with
          | mk d' b =>
            obtain ⟨f1, f2⟩ := G3 ok hfl
            have o' : d'.ok := by have := ok_flush2 ok; rwa [hfl] at this
            have w' : d'.wait.length ≤ i + 1 := by have := wait_flush d; rw [hfl] at this; simp only at this; omega
            have sm := same d' o'
            simp only [pD, List.cons_append, List.nil_append] at f1 f2
            cases b with
            | true =>
              refine seg_ok names_ok mixed_ok (orcFn_ok _) k01 hin ?_ (fun qs a1 w1 hq h1 => go d' o' w' qs a1 w1 (by simp [evs, SX.ev, hF, f1, f2] at hq; exact hq.symm) h1)
              simp only [List.mem_cons, List.not_mem_nil, or_false, forall_eq_or_imp, forall_eq]
              simp [holds_idxP, holds_cellsP, Base.ev, SX.ev, evs, Value.oneCell', hF, binPV, c0, i1, i3, t8, f1, f2, sm, u3, u4, u12]
            | false =>
              refine seg_ok names_ok mixed_ok (orcFn_ok _) k00 hin ?_ (fun qs a1 w1 hq h1 => go d' o' w' qs a1 w1 (by simp [evs, SX.ev, hF, f1, f2] at hq; exact hq.symm) h1)
              simp only [List.mem_cons, List.not_mem_nil, or_false, forall_eq_or_imp, forall_eq]
              simp [holds_idxP, holds_cellsP, Base.ev, SX.ev, evs, Value.oneCell', hF, binPV, c0, i1, i3, t8, f1, f2, sm, u3, u4, u12]
        | 1, hr, _ =>
          obtain ⟨y, hy⟩ : ∃ y : Nat, x1 % 40 = y := ⟨_, rfl⟩
          have ty : (x1 : Int).tmod 40 = (y : Int) := by rw [← hy]; rfl
          have wy := wc y (by omega)
          have w1' := wc x1 z1
          have w2' := wc x2 z2
          obtain ⟨v, hv⟩ : ∃ v : Int, (x2 : Int) - 100 = v := ⟨_, rfl⟩
          have w3' : IntKind.i64.wrap ((x2 : Int) - 100) = v := by rw [wrapI _ (by omega) (by omega), hv]
          have hrow : PV.row 5 [pI (y : Int), pI v, pI 32, pI 0, pI (x1 : Int)] = pRow encI [(y : Int), v, 32, 0, (x1 : Int)] := by simp [pRow, Enc.all, encI]
          obtain ⟨f1, f2⟩ := G5 (d := d) (keep := [(y : Int), v, 32, 0, (x1 : Int)]) ok
          have o' := ok_crash ok [(y : Int), v, 32, 0, (x1 : Int)]
          have w' : (crashD d [(y : Int), v, 32, 0, (x1 : Int)]).wait.length ≤ i + 1 := Nat.zero_le _
          rw [← hrow] at f1 f2
          generalize crashD d [(y : Int), v, 32, 0, (x1 : Int)] = d' at *
          have sm := same d' o'
          simp only [pD, List.cons_append, List.nil_append] at f1 f2
          refine seg_ok names_ok mixed_ok (orcFn_ok _) k1 hin ?_ (fun qs a1 w1 hq h1 => go d' o' w' qs a1 w1 (by simp [evs, SX.ev, hF, binPV, convPV, c1, c2, ty, wy, w1', w2', w3', f1, f2] at hq; exact hq.symm) h1)
          simp only [List.mem_cons, List.not_mem_nil, or_false, forall_eq_or_imp, forall_eq]
          simp [holds_idxP, holds_cellsP, Base.ev, SX.ev, evs, Value.oneCell', hF, binPV, convPV, c0, c1, c2, i1, i2, i3, t8, ty, wy, w1', w2', w3', f1, f2, sm, u5, u6, u12]
        | 2, hr, _ =>
          obtain ⟨y, hy⟩ : ∃ y : Nat, x2 % 6 = y := ⟨_, rfl⟩
          have ty : (x2 : Int).tmod 6 = (y : Int) := by rw [← hy]; rfl
          have wy := wc y (by omega)
          have o' : D.ok { d with arm := y } := ⟨ok.n, ok.len, ok.wlen, ok.many, by show y ≤ 1000; omega⟩
          have sm := same { d with arm := y } o'
          simp only at sm
          refine seg_ok names_ok mixed_ok (orcFn_ok _) k2 hin ?_ (fun qs a1 w1 hq h1 => go { d with arm := y } o' (by show d.wait.length ≤ i + 1; omega) qs a1 w1 (by simp [evs, SX.ev, binPV, convPV, c2, ty, wy] at hq; exact hq.symm) h1)
          simp only [List.mem_cons, List.not_mem_nil, or_false, forall_eq_or_imp, forall_eq]
          simp [holds_idxP, holds_cellsP, Base.ev, SX.ev, evs, Value.oneCell', hF, binPV, convPV, c0, c2, i1, i3, t8, ty, wy, sm, u12]
        | 3, hr, _ =>
          have sm := same d ok
          cases hrd : readD d at1 with
          | mk t b =>
            obtain ⟨f1, f2⟩ := G7 ok hrd
            simp only [pD, List.cons_append, List.nil_append] at f1 f2
            cases b with
            | true =>
              refine seg_ok names_ok mixed_ok (orcFn_ok _) k31 hin ?_ (fun qs a1 w1 hq h1 => go d ok (by omega) qs a1 w1 (by simp [evs, SX.ev] at hq; exact hq.symm) h1)
              simp only [List.mem_cons, List.not_mem_nil, or_false, forall_eq_or_imp, forall_eq]
              simp [holds_idxP, holds_cellsP, Base.ev, SX.ev, evs, Value.oneCell', hF, binPV, c0, i1, i3, t8, f1, f2, sm, u7, u8, u12]
            | false =>
              refine seg_ok names_ok mixed_ok (orcFn_ok _) k30 hin ?_ (fun qs a1 w1 hq h1 => go d ok (by omega) qs a1 w1 (by simp [evs, SX.ev] at hq; exact hq.symm) h1)
              simp only [List.mem_cons, List.not_mem_nil, or_false, forall_eq_or_imp, forall_eq]
              simp [holds_idxP, holds_cellsP, Base.ev, SX.ev, evs, Value.oneCell', hF, binPV, c0, i1, i3, t8, f1, f2, sm, u7, u8, u12]
        | 4, hr, _ =>
          cases hwd : writeD d at1 s with
          | mk d' b =>
            obtain ⟨f1, f2⟩ := G9 ok hwd
            obtain ⟨o', w'⟩ := wr _ _ _ hwd
            have sm := same d' o'
            simp only [pD, List.cons_append, List.nil_append] at f1 f2
            cases b with
            | true =>
              refine seg_ok names_ok mixed_ok (orcFn_ok _) k41 hin ?_ (fun qs a1 w1 hq h1 => go d' o' w' qs a1 w1 (by simp [evs, SX.ev, hF, f1, f2] at hq; exact hq.symm) h1)
              simp only [List.mem_cons, List.not_mem_nil, or_false, forall_eq_or_imp, forall_eq]
              simp [holds_idxP, holds_cellsP, Base.ev, SX.ev, evs, Value.oneCell', hF, binPV, c0, i1, i3, t8, f1, f2, sm, u9, u10, u12]
            | false =>
              refine seg_ok names_ok mixed_ok (orcFn_ok _) k40 hin ?_ (fun qs a1 w1 hq h1 => go d' o' w' qs a1 w1 (by simp [evs, SX.ev, hF, f1, f2] at hq; exact hq.symm) h1)
              simp only [List.mem_cons, List.not_mem_nil, or_false, forall_eq_or_imp, forall_eq]
              simp [holds_idxP, holds_cellsP, Base.ev, SX.ev, evs, Value.oneCell', hF, binPV, c0, i1, i3, t8, f1, f2, sm, u9, u10, u12]
        | r + 5, hr, _ =>
          have hsec := G11 z2
          generalize sec.sec x2 = sx at *
          have e0 : ¬ (r : Int) + 5 = 0 := by omega
          have e1 : ¬ (r : Int) + 5 = 1 := by omega
          have e2 : ¬ (r : Int) + 5 = 2 := by omega
          have e3 : ¬ (r : Int) + 5 = 3 := by omega
          have e4 : ¬ (r : Int) + 5 = 4 := by omega
          have t8 : (x0 : Int).tmod 8 = (r : Int) + 5 := t8
          generalize (r : Int) + 5 = rr at *
          cases hwd : writeD d at1 sx with
          | mk d' b =>
            obtain ⟨f1, f2⟩ := G9 ok hwd
            obtain ⟨o', w'⟩ := wr _ _ _ hwd
            have sm := same d' o'
            simp only [pD, List.cons_append, List.nil_append] at f1 f2
            cases b with
            | true =>
              refine seg_ok names_ok mixed_ok (orcFn_ok _) k51 hin ?_ (fun qs a1 w1 hq h1 => go d' o' w' qs a1 w1 (by simp [evs, SX.ev, hF, c2, hsec, f1, f2] at hq; exact hq.symm) h1)
              simp only [List.mem_cons, List.not_mem_nil, or_false, forall_eq_or_imp, forall_eq]
              simp [holds_idxP, holds_cellsP, Base.ev, SX.ev, evs, Value.oneCell', hF, binPV, c0, c2, i1, i3, t8, e0, e1, e2, e3, e4, hsec, f1, f2, sm, u9, u10, u11, u12]
            | false =>
              refine seg_ok names_ok mixed_ok (orcFn_ok _) k50 hin ?_ (fun qs a1 w1 hq h1 => go d' o' w' qs a1 w1 (by simp [evs, SX.ev, hF, c2, hsec, f1, f2] at hq; exact hq.symm) h1)
              simp only [List.mem_cons, List.not_mem_nil, or_false, forall_eq_or_imp, forall_eq]
              simp [holds_idxP, holds_cellsP, Base.ev, SX.ev, evs, Value.oneCell', hF, binPV, c0, c2, i1, i3, t8, e0, e1, e2, e3, e4, hsec, f1, f2, sm, u9, u10, u11, u12]
      rw [cutL]
      refine seg_ok names_ok mixed_ok (orcFn_ok _) hd hin ?_ ?_
      · simp only [List.mem_cons, List.not_mem_nil, or_false, forall_eq_or_imp, forall_eq]
        simp [holds_idxP, holds_cellsP, Base.ev, SX.ev, evs, Value.oneCell', lenPV_row, binPV]
        exact hlt
      intro qs a1 w1 hq h1
      refine ⟨fun _ => ?_, fun h => absurd rfl h⟩
      simp [evs, SX.ev] at hq
      subst hq
      refine block_in ?_
      show wpL Try.prog bdA QB a1 w1
      rw [cutB]
      obtain ⟨y, hy⟩ : ∃ y : Nat, x1 % 6 = y := ⟨_, rfl⟩
      have ty : (x1 : Int).tmod 6 = (y : Int) := by rw [← hy]; rfl
      have wy := wc y (by omega)
      obtain ⟨at0, hat⟩ : ∃ at0 : Int, (y : Int) - 1 = at0 := ⟨_, rfl⟩
      have wz : IntKind.i64.wrap ((y : Int) - 1) = at0 := by rw [wrapI _ (by omega) (by omega), hat]
      obtain ⟨v, hv⟩ : ∃ v : Nat, i % 8 = v := ⟨_, rfl⟩
      have tv : (i : Int).tmod 8 = (v : Int) := by rw [← hv]; rfl
      by_cases hv7 : v = 7
      · subst hv7
        have tv : (i : Int).tmod 8 = 7 := tv
        refine seg_ok names_ok mixed_ok (orcFn_ok _) diskAll.a1 h1 ?_ (fun qs a2 w2 hq h2 => ⟨fun _ => stD wild a2 w2 (by simp [evs, SX.ev] at hq; subst hq; exact h2), fun h => absurd rfl h⟩)
        simp only [List.mem_cons, List.not_mem_nil, or_false, forall_eq_or_imp, forall_eq]
        simp [holds_idxP, holds_cellsP, Base.ev, SX.ev, evs, Value.oneCell', binPV, convPV, c1, i2, i3, ty, wy, wz, tv]
      · have hv7' : ¬ (v : Int) = 7 := by omega
        generalize (v : Int) = vv at *
        refine seg_ok names_ok mixed_ok (orcFn_ok _) diskAll.a0 h1 ?_ (fun qs a2 w2 hq h2 => ⟨fun _ => stD at0 a2 w2 (by simp [evs, SX.ev, binPV, convPV, c1, ty, wy, wz] at hq; subst hq; exact h2), fun h => absurd rfl h⟩)
        simp only [List.mem_cons, List.not_mem_nil, or_false, forall_eq_or_imp, forall_eq]
        simp [holds_idxP, holds_cellsP, Base.ev, SX.ev, evs, Value.oneCell', binPV, convPV, c1, i2, i3, ty, wy, wz, tv, hv7']
    · -- behind the loop
      have hie : i = l.length := by omega
      subst hie
      rw [← List.append_nil lpA]
      refine seg_ok names_ok mixed_ok (orcFn_ok _) ex hin ?_ ?_
      · simp only [List.mem_cons, List.not_mem_nil, or_false, forall_eq_or_imp, forall_eq]
        simp [holds_idxP, holds_cellsP, Base.ev, SX.ev, evs, Value.oneCell', lenPV_row, binPV]
      · intro qs a1 w1 hq h1
        refine ⟨fun h => (by cases h), fun _ => .inr (.inl ⟨by rw [show blockId (nth flA 7) = 0 by kernel_rfl]; rfl, ?_⟩)⟩
        simp [evs, SX.ev] at hq
        subst hq
        rw [← List.append_nil (flA.drop 8)]
        obtain ⟨f1, f2⟩ := G5 (d := d) (keep := keep) ok
        have sm := G12 (ok_crash ok keep)
        generalize crashD d keep = d' at *
        simp only [pD, List.cons_append, List.nil_append] at f1 f2 sm
        by_cases hn : 64 < n
        · refine seg_ok names_ok mixed_ok (orcFn_ok _) p1 h1 ?_ (fun qs a1 w1 hq h1 => fin qs a1 w1 (by simp [evs, SX.ev] at hq; exact hq.symm) h1)
          simp only [List.mem_cons, List.not_mem_nil, or_false, forall_eq_or_imp, forall_eq]
          simp [holds_idxP, holds_cellsP, Base.ev, SX.ev, evs, Value.oneCell', hF, binPV, f1, f2, sm, hn, u5, u6, u12]
        · obtain ⟨g1, g2⟩ := G1 n
          have sn := G12 (ok_new n)
          generalize newD n = dn at *
          simp only [pD, List.cons_append, List.nil_append] at g1 g2 sn
          refine seg_ok names_ok mixed_ok (orcFn_ok _) p0 h1 ?_ (fun qs a1 w1 hq h1 => fin qs a1 w1 (by simp [evs, SX.ev, hF, g1, g2, sn] at hq; exact hq.symm) h1)
          simp only [List.mem_cons, List.not_mem_nil, or_false, forall_eq_or_imp, forall_eq]
          simp [holds_idxP, holds_cellsP, Base.ev, SX.ev, evs, Value.oneCell', hF, binPV, f1, f2, sm, hn, g1, g2, sn, u1, u2, u5, u6, u12]
theorem grid3 {w : World} {v : Value} {len : Nat} {Z : Nat → Nat → Int} (h : IsGrid 3 w v len Z) : ∃ l : List (Nat × Nat × Nat), (∀ p ∈ l, p.1 < 256 ∧ p.2.1 < 256 ∧ p.2.2 < 256) ∧ Reads w (pRow enc3 l) v := by
  obtain ⟨a, cap, rfl, h1, h2, h3⟩ := h
  by_cases h0 : 0 < len
  · obtain ⟨b, off, rfl, hc⟩ := h3 h0
    refine ⟨(List.range len).map fun i => ((Z i 0).toNat, (Z i 1).toNat, (Z i 2).toNat), ?_, (reads_row enc3).2 ⟨_, cap, by simp, by simpa using h1, h2, fun _ => ⟨b, off, rfl, ?_, ?_⟩⟩⟩
    · intro p hp
      obtain ⟨i, hi, rfl⟩ := List.mem_map.1 hp
      have hi := List.mem_range.1 hi
      have z0 := (hc i hi 0 (by omega)).2
      have z1 := (hc i hi 1 (by omega)).2
      have z2 := (hc i hi 2 (by omega)).2
      simp only
      omega
    · exact World.block_lt_of_cell? w ⟨b, off + 0 * 3 + 0, none⟩ (hc 0 h0 0 (by omega)).1
    · intro q u hq
      have hql : q < len * 3 := by
        have := (List.getElem?_eq_some_iff.1 hq).1
        rw [Enc.all_length] at this
        simpa [enc3] using this
      have hi : q / 3 < len := by omega
      have hx : ((List.range len).map fun i => ((Z i 0).toNat, (Z i 1).toNat, (Z i 2).toNat))[q / 3]? = some ((Z (q / 3) 0).toNat, (Z (q / 3) 1).toNat, (Z (q / 3) 2).toNat) := by simp [hi]
      have := enc3.all_get _ (q / 3) (q % 3) _ hx (show q % 3 < 3 by omega)
      rw [show q / 3 * enc3.sz + q % 3 = q by show q / 3 * 3 + q % 3 = q; omega, hq] at this
      obtain ⟨k1, k2, k3⟩ := hc (q / 3) hi (q % 3) (by omega)
      rw [show off + q = off + q / 3 * 3 + q % 3 by omega, k1, this]
      have h3 : q % 3 = 0 ∨ q % 3 = 1 ∨ q % 3 = 2 := by omega
      rcases h3 with h3 | h3 | h3 <;> rw [h3] at k2 k3 ⊢ <;> simp [enc3] <;> omega
  · obtain rfl : len = 0 := by omega
    exact ⟨[], by simp, (reads_row enc3).2 ⟨a, cap, rfl, by simp, h2, fun h => absurd h (by simp)⟩⟩
theorem rowI {w : World} {v : Value} {len : Nat} {Z : Nat → Int} (h : IsRow .i64 w v len Z) : ∃ l : List Int, Reads w (pRow encI l) v := by
  obtain ⟨a, cap, rfl, h1, h2, h3⟩ := h
  by_cases h0 : 0 < len
  · obtain ⟨b, off, rfl, hc⟩ := h3 h0
    refine ⟨(List.range len).map Z, (reads_row encI).2 ⟨_, cap, by simp, by simpa using h1, h2, fun _ => ⟨b, off, rfl, World.block_lt_of_cell? w ⟨b, off + 0, none⟩ (hc 0 h0).1, fun q u hq => ?_⟩⟩⟩
    have hql : q < len := by
      have := (List.getElem?_eq_some_iff.1 hq).1
      rw [Enc.all_length] at this
      simpa [encI] using this
    have hx : ((List.range len).map Z)[q]? = some (Z q) := by simp [hql]
    have := encI.all_get _ q 0 _ hx (show 0 < 1 by omega)
    rw [show q * encI.sz + 0 = q by show q * 1 + 0 = q; omega, hq] at this
    rw [(hc q hql).1, this]
    rfl
  · obtain rfl : len = 0 := by omega
    exact ⟨[], (reads_row encI).2 ⟨a, cap, rfl, by simp, h2, fun h => absurd h (by simp)⟩⟩
theorem walk (w : World) (v : Value) (len : Nat) (Z : Nat → Nat → Int) (h : IsGrid 3 w v len Z) (a : Int) (wa : (Lit.int .i64 a).wf = true) (s : ByteArray) (hs : s.size ≤ maxLen) (v3 : Value) (len3 : Nat) (Z3 : Nat → Int) (h3 : IsRow .i64 w v3 len3 Z3) (n : Int) (wn : (Lit.int .i64 n).wf = true) :
    Calls Try.prog 3 #[v, .int .i64 a, .string s, v3, .int .i64 n] w fun e w' => e = .returned (.bool true) ∧ Ex w w' := by
  obtain ⟨l, hb, hr⟩ := grid3 h
  obtain ⟨keep, hr3⟩ := rowI h3
  refine told_true (told 0) rfl (us := [v, .int .i64 a, .string s, v3, .int .i64 n]) (ps := [pRow enc3 l, pI a, pS s, pRow encI keep, pI n]) (spec_of fL ⟨l, a, s, keep, n, hb, rfl, rfl⟩) rfl rfl (fun i p u hp hu => ?_)
  match i, hp, hu with
  | 0, hp, hu => simp at hp hu; subst hp; subst hu; exact hr
  | 1, hp, hu => simp at hp hu; subst hp; subst hu; exact plainReads rfl
  | 2, hp, hu => simp at hp hu; subst hp; subst hu; exact plainReads rfl
  | 3, hp, hu => simp at hp hu; subst hp; subst hu; exact hr3
  | 4, hp, hu => simp at hp hu; subst hp; subst hu; exact plainReads rfl
  | i + 5, hp, hu => simp at hp

end Go.Proofs.Ytfcdbknmajfkaaa.diskAll
