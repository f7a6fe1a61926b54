/- FileFronts by the symbolic engine. -/
import Derived.Test.YtlfdkccmfbfgiaaPck
import Derived.Test.YtlfdkccmfbfgiaaFrame
namespace Go.Proofs.Ytlfdkccmfbfgiaa.fileFronts
open Go Go.RowKit eng SX Fact fil pck
set_option linter.unusedVariables false
set_option linter.unusedSimpArgs false
set_option maxRecDepth 1000000

def EPut (k : Nat) : FnE := { k := k, ins := [none, some 2], leaks := [false, false, false], outs := [none], kinds := [.num] }
def EBg (k : Nat) : FnE := { k := k, ins := [], leaks := [], outs := [none], kinds := [.truth] }
def tabF (f : FuncId) : Option FnE := cond (Nat.beq f 38) (some (EAll 1)) (cond (Nat.beq f 36) (some (EPut 2)) (cond (Nat.beq f 30) (some (EBg 3)) none))
def tabQ (f : FuncId) : Option PtrE := cond (Nat.beq f 32) (some (EWs 22)) none
def orcF : Orc := orcOr (orcFn tabF) (orcP tabQ)
noncomputable def flF := flat (bodyOf Try.prog 10)
def shF : Shape := ⟨[(0, .leaf), (1, .leaf), (2, .leaf)], [], [none, some true, none], 60, 10⟩
def shFR : Shape := ⟨[(6, .leaf)], [], [none], 60, 10⟩
def tabA (f : FuncId) : Option FnE := cond (Nat.beq f 38) (some (EAll 1)) none
theorem p1 : segTo Try.prog orcF 10000 flF shF [1, 1] shFR [] = some (.ret, [.fn 30 (EBg 3) [], .is (.fn 3 [] 0) (.bool true), .ok (.slen (.var 0)), .ok (.bin .gtr (.slen (.var 0)) (.con (.int .i64 24))), .is (.bin .gtr (.slen (.var 0)) (.con (.int .i64 24))) (.bool true), .ok (.con (.bool true))], [.con (.bool true)]) := by kernel_rfl
theorem p2 : segTo Try.prog orcF 10000 flF shF [1, 0, 1] shFR [] = some (.ret, [.fn 30 (EBg 3) [], .is (.fn 3 [] 0) (.bool true), .ok (.slen (.var 0)), .ok (.bin .gtr (.slen (.var 0)) (.con (.int .i64 24))), .is (.bin .gtr (.slen (.var 0)) (.con (.int .i64 24))) (.bool false), .ok (.len (.var 1)), .ok (.bin .gtr (.len (.var 1)) (.con (.int .i64 20))), .is (.bin .gtr (.len (.var 1)) (.con (.int .i64 20))) (.bool true), .ok (.con (.bool true))], [.con (.bool true)]) := by kernel_rfl
theorem p3 : segTo Try.prog orcF 10000 flF shF [1, 0, 0, 1, 1] shFR [] = some (.ret, [.fn 30 (EBg 3) [], .is (.fn 3 [] 0) (.bool true), .ok (.slen (.var 0)), .ok (.bin .gtr (.slen (.var 0)) (.con (.int .i64 24))), .is (.bin .gtr (.slen (.var 0)) (.con (.int .i64 24))) (.bool false), .ok (.len (.var 1)), .ok (.bin .gtr (.len (.var 1)) (.con (.int .i64 20))), .is (.bin .gtr (.len (.var 1)) (.con (.int .i64 20))) (.bool false), .fp 32 (EWs 22) [.con (.int .i64 8), .var 1, .con (.int .i64 0)], .ok (.fn 22 [.con (.int .i64 8), .var 1, .con (.int .i64 0)] 2), .ok (.conv .i64 (.var 2)), .ok (.len (.fn 22 [.con (.int .i64 8), .var 1, .con (.int .i64 0)] 0)), .ok (.bin .add (.len (.fn 22 [.con (.int .i64 8), .var 1, .con (.int .i64 0)] 0)) (.con (.int .i64 1))), .ok (.bin .rem (.conv .i64 (.var 2)) (.bin .add (.len (.fn 22 [.con (.int .i64 8), .var 1, .con (.int .i64 0)] 0)) (.con (.int .i64 1)))), .fn 38 (EAll 1) [.var 0, .fn 22 [.con (.int .i64 8), .var 1, .con (.int .i64 0)] 0], .ok (.fn 1 [.var 0, .fn 22 [.con (.int .i64 8), .var 1, .con (.int .i64 0)] 0] 0), le3 (rop ROp.min2 [.con (.int .i64 0), .con (.int .i64 0)]) (.bin .rem (.conv .i64 (.var 2)) (.bin .add (.len (.fn 22 [.con (.int .i64 8), .var 1, .con (.int .i64 0)] 0)) (.con (.int .i64 1)))) (.len (.fn 22 [.con (.int .i64 8), .var 1, .con (.int .i64 0)] 0)), .fn 38 (EAll 1) [.var 0, sub (.fn 22 [.con (.int .i64 8), .var 1, .con (.int .i64 0)] 0) (rop ROp.min2 [.con (.int .i64 0), .con (.int .i64 0)]) (.bin .rem (.conv .i64 (.var 2)) (.bin .add (.len (.fn 22 [.con (.int .i64 8), .var 1, .con (.int .i64 0)] 0)) (.con (.int .i64 1)))) 2], .ok (.fn 1 [.var 0, sub (.fn 22 [.con (.int .i64 8), .var 1, .con (.int .i64 0)] 0) (rop ROp.min2 [.con (.int .i64 0), .con (.int .i64 0)]) (.bin .rem (.conv .i64 (.var 2)) (.bin .add (.len (.fn 22 [.con (.int .i64 8), .var 1, .con (.int .i64 0)] 0)) (.con (.int .i64 1)))) 2] 0), le3 (rop ROp.min2 [.bin .rem (.conv .i64 (.var 2)) (.bin .add (.len (.fn 22 [.con (.int .i64 8), .var 1, .con (.int .i64 0)] 0)) (.con (.int .i64 1))), .bin .rem (.conv .i64 (.var 2)) (.bin .add (.len (.fn 22 [.con (.int .i64 8), .var 1, .con (.int .i64 0)] 0)) (.con (.int .i64 1)))]) (.len (.fn 22 [.con (.int .i64 8), .var 1, .con (.int .i64 0)] 0)) (.len (.fn 22 [.con (.int .i64 8), .var 1, .con (.int .i64 0)] 0)), .fn 38 (EAll 1) [.fn 1 [.var 0, sub (.fn 22 [.con (.int .i64 8), .var 1, .con (.int .i64 0)] 0) (rop ROp.min2 [.con (.int .i64 0), .con (.int .i64 0)]) (.bin .rem (.conv .i64 (.var 2)) (.bin .add (.len (.fn 22 [.con (.int .i64 8), .var 1, .con (.int .i64 0)] 0)) (.con (.int .i64 1)))) 2] 0, sub (.fn 22 [.con (.int .i64 8), .var 1, .con (.int .i64 0)] 0) (rop ROp.min2 [.bin .rem (.conv .i64 (.var 2)) (.bin .add (.len (.fn 22 [.con (.int .i64 8), .var 1, .con (.int .i64 0)] 0)) (.con (.int .i64 1))), .bin .rem (.conv .i64 (.var 2)) (.bin .add (.len (.fn 22 [.con (.int .i64 8), .var 1, .con (.int .i64 0)] 0)) (.con (.int .i64 1)))]) (.len (.fn 22 [.con (.int .i64 8), .var 1, .con (.int .i64 0)] 0)) 2], .ok (.fn 1 [.fn 1 [.var 0, sub (.fn 22 [.con (.int .i64 8), .var 1, .con (.int .i64 0)] 0) (rop ROp.min2 [.con (.int .i64 0), .con (.int .i64 0)]) (.bin .rem (.conv .i64 (.var 2)) (.bin .add (.len (.fn 22 [.con (.int .i64 8), .var 1, .con (.int .i64 0)] 0)) (.con (.int .i64 1)))) 2] 0, sub (.fn 22 [.con (.int .i64 8), .var 1, .con (.int .i64 0)] 0) (rop ROp.min2 [.bin .rem (.conv .i64 (.var 2)) (.bin .add (.len (.fn 22 [.con (.int .i64 8), .var 1, .con (.int .i64 0)] 0)) (.con (.int .i64 1))), .bin .rem (.conv .i64 (.var 2)) (.bin .add (.len (.fn 22 [.con (.int .i64 8), .var 1, .con (.int .i64 0)] 0)) (.con (.int .i64 1)))]) (.len (.fn 22 [.con (.int .i64 8), .var 1, .con (.int .i64 0)] 0)) 2] 0), .ok (.bin .eql (.fn 1 [.fn 1 [.var 0, sub (.fn 22 [.con (.int .i64 8), .var 1, .con (.int .i64 0)] 0) (rop ROp.min2 [.con (.int .i64 0), .con (.int .i64 0)]) (.bin .rem (.conv .i64 (.var 2)) (.bin .add (.len (.fn 22 [.con (.int .i64 8), .var 1, .con (.int .i64 0)] 0)) (.con (.int .i64 1)))) 2] 0, sub (.fn 22 [.con (.int .i64 8), .var 1, .con (.int .i64 0)] 0) (rop ROp.min2 [.bin .rem (.conv .i64 (.var 2)) (.bin .add (.len (.fn 22 [.con (.int .i64 8), .var 1, .con (.int .i64 0)] 0)) (.con (.int .i64 1))), .bin .rem (.conv .i64 (.var 2)) (.bin .add (.len (.fn 22 [.con (.int .i64 8), .var 1, .con (.int .i64 0)] 0)) (.con (.int .i64 1)))]) (.len (.fn 22 [.con (.int .i64 8), .var 1, .con (.int .i64 0)] 0)) 2] 0) (.fn 1 [.var 0, .fn 22 [.con (.int .i64 8), .var 1, .con (.int .i64 0)] 0] 0)), .is (.bin .eql (.fn 1 [.fn 1 [.var 0, sub (.fn 22 [.con (.int .i64 8), .var 1, .con (.int .i64 0)] 0) (rop ROp.min2 [.con (.int .i64 0), .con (.int .i64 0)]) (.bin .rem (.conv .i64 (.var 2)) (.bin .add (.len (.fn 22 [.con (.int .i64 8), .var 1, .con (.int .i64 0)] 0)) (.con (.int .i64 1)))) 2] 0, sub (.fn 22 [.con (.int .i64 8), .var 1, .con (.int .i64 0)] 0) (rop ROp.min2 [.bin .rem (.conv .i64 (.var 2)) (.bin .add (.len (.fn 22 [.con (.int .i64 8), .var 1, .con (.int .i64 0)] 0)) (.con (.int .i64 1))), .bin .rem (.conv .i64 (.var 2)) (.bin .add (.len (.fn 22 [.con (.int .i64 8), .var 1, .con (.int .i64 0)] 0)) (.con (.int .i64 1)))]) (.len (.fn 22 [.con (.int .i64 8), .var 1, .con (.int .i64 0)] 0)) 2] 0) (.fn 1 [.var 0, .fn 22 [.con (.int .i64 8), .var 1, .con (.int .i64 0)] 0] 0)) (.bool true), .ok (.len (.fn 22 [.con (.int .i64 8), .var 1, .con (.int .i64 0)] 0)), .ok (.bin .eql (.len (.fn 22 [.con (.int .i64 8), .var 1, .con (.int .i64 0)] 0)) (.con (.int .i64 0))), .is (.bin .eql (.len (.fn 22 [.con (.int .i64 8), .var 1, .con (.int .i64 0)] 0)) (.con (.int .i64 0))) (.bool true), .ok (.con (.bool true))], [.con (.bool true)]) := by kernel_rfl
theorem p4 : segTo Try.prog orcF 10000 flF shF [1, 0, 0, 1, 0, 1] shFR [] = some (.ret, [.fn 30 (EBg 3) [], .is (.fn 3 [] 0) (.bool true), .ok (.slen (.var 0)), .ok (.bin .gtr (.slen (.var 0)) (.con (.int .i64 24))), .is (.bin .gtr (.slen (.var 0)) (.con (.int .i64 24))) (.bool false), .ok (.len (.var 1)), .ok (.bin .gtr (.len (.var 1)) (.con (.int .i64 20))), .is (.bin .gtr (.len (.var 1)) (.con (.int .i64 20))) (.bool false), .fp 32 (EWs 22) [.con (.int .i64 8), .var 1, .con (.int .i64 0)], .ok (.fn 22 [.con (.int .i64 8), .var 1, .con (.int .i64 0)] 2), .ok (.conv .i64 (.var 2)), .ok (.len (.fn 22 [.con (.int .i64 8), .var 1, .con (.int .i64 0)] 0)), .ok (.bin .add (.len (.fn 22 [.con (.int .i64 8), .var 1, .con (.int .i64 0)] 0)) (.con (.int .i64 1))), .ok (.bin .rem (.conv .i64 (.var 2)) (.bin .add (.len (.fn 22 [.con (.int .i64 8), .var 1, .con (.int .i64 0)] 0)) (.con (.int .i64 1)))), .fn 38 (EAll 1) [.var 0, .fn 22 [.con (.int .i64 8), .var 1, .con (.int .i64 0)] 0], .ok (.fn 1 [.var 0, .fn 22 [.con (.int .i64 8), .var 1, .con (.int .i64 0)] 0] 0), le3 (rop ROp.min2 [.con (.int .i64 0), .con (.int .i64 0)]) (.bin .rem (.conv .i64 (.var 2)) (.bin .add (.len (.fn 22 [.con (.int .i64 8), .var 1, .con (.int .i64 0)] 0)) (.con (.int .i64 1)))) (.len (.fn 22 [.con (.int .i64 8), .var 1, .con (.int .i64 0)] 0)), .fn 38 (EAll 1) [.var 0, sub (.fn 22 [.con (.int .i64 8), .var 1, .con (.int .i64 0)] 0) (rop ROp.min2 [.con (.int .i64 0), .con (.int .i64 0)]) (.bin .rem (.conv .i64 (.var 2)) (.bin .add (.len (.fn 22 [.con (.int .i64 8), .var 1, .con (.int .i64 0)] 0)) (.con (.int .i64 1)))) 2], .ok (.fn 1 [.var 0, sub (.fn 22 [.con (.int .i64 8), .var 1, .con (.int .i64 0)] 0) (rop ROp.min2 [.con (.int .i64 0), .con (.int .i64 0)]) (.bin .rem (.conv .i64 (.var 2)) (.bin .add (.len (.fn 22 [.con (.int .i64 8), .var 1, .con (.int .i64 0)] 0)) (.con (.int .i64 1)))) 2] 0), le3 (rop ROp.min2 [.bin .rem (.conv .i64 (.var 2)) (.bin .add (.len (.fn 22 [.con (.int .i64 8), .var 1, .con (.int .i64 0)] 0)) (.con (.int .i64 1))), .bin .rem (.conv .i64 (.var 2)) (.bin .add (.len (.fn 22 [.con (.int .i64 8), .var 1, .con (.int .i64 0)] 0)) (.con (.int .i64 1)))]) (.len (.fn 22 [.con (.int .i64 8), .var 1, .con (.int .i64 0)] 0)) (.len (.fn 22 [.con (.int .i64 8), .var 1, .con (.int .i64 0)] 0)), .fn 38 (EAll 1) [.fn 1 [.var 0, sub (.fn 22 [.con (.int .i64 8), .var 1, .con (.int .i64 0)] 0) (rop ROp.min2 [.con (.int .i64 0), .con (.int .i64 0)]) (.bin .rem (.conv .i64 (.var 2)) (.bin .add (.len (.fn 22 [.con (.int .i64 8), .var 1, .con (.int .i64 0)] 0)) (.con (.int .i64 1)))) 2] 0, sub (.fn 22 [.con (.int .i64 8), .var 1, .con (.int .i64 0)] 0) (rop ROp.min2 [.bin .rem (.conv .i64 (.var 2)) (.bin .add (.len (.fn 22 [.con (.int .i64 8), .var 1, .con (.int .i64 0)] 0)) (.con (.int .i64 1))), .bin .rem (.conv .i64 (.var 2)) (.bin .add (.len (.fn 22 [.con (.int .i64 8), .var 1, .con (.int .i64 0)] 0)) (.con (.int .i64 1)))]) (.len (.fn 22 [.con (.int .i64 8), .var 1, .con (.int .i64 0)] 0)) 2], .ok (.fn 1 [.fn 1 [.var 0, sub (.fn 22 [.con (.int .i64 8), .var 1, .con (.int .i64 0)] 0) (rop ROp.min2 [.con (.int .i64 0), .con (.int .i64 0)]) (.bin .rem (.conv .i64 (.var 2)) (.bin .add (.len (.fn 22 [.con (.int .i64 8), .var 1, .con (.int .i64 0)] 0)) (.con (.int .i64 1)))) 2] 0, sub (.fn 22 [.con (.int .i64 8), .var 1, .con (.int .i64 0)] 0) (rop ROp.min2 [.bin .rem (.conv .i64 (.var 2)) (.bin .add (.len (.fn 22 [.con (.int .i64 8), .var 1, .con (.int .i64 0)] 0)) (.con (.int .i64 1))), .bin .rem (.conv .i64 (.var 2)) (.bin .add (.len (.fn 22 [.con (.int .i64 8), .var 1, .con (.int .i64 0)] 0)) (.con (.int .i64 1)))]) (.len (.fn 22 [.con (.int .i64 8), .var 1, .con (.int .i64 0)] 0)) 2] 0), .ok (.bin .eql (.fn 1 [.fn 1 [.var 0, sub (.fn 22 [.con (.int .i64 8), .var 1, .con (.int .i64 0)] 0) (rop ROp.min2 [.con (.int .i64 0), .con (.int .i64 0)]) (.bin .rem (.conv .i64 (.var 2)) (.bin .add (.len (.fn 22 [.con (.int .i64 8), .var 1, .con (.int .i64 0)] 0)) (.con (.int .i64 1)))) 2] 0, sub (.fn 22 [.con (.int .i64 8), .var 1, .con (.int .i64 0)] 0) (rop ROp.min2 [.bin .rem (.conv .i64 (.var 2)) (.bin .add (.len (.fn 22 [.con (.int .i64 8), .var 1, .con (.int .i64 0)] 0)) (.con (.int .i64 1))), .bin .rem (.conv .i64 (.var 2)) (.bin .add (.len (.fn 22 [.con (.int .i64 8), .var 1, .con (.int .i64 0)] 0)) (.con (.int .i64 1)))]) (.len (.fn 22 [.con (.int .i64 8), .var 1, .con (.int .i64 0)] 0)) 2] 0) (.fn 1 [.var 0, .fn 22 [.con (.int .i64 8), .var 1, .con (.int .i64 0)] 0] 0)), .is (.bin .eql (.fn 1 [.fn 1 [.var 0, sub (.fn 22 [.con (.int .i64 8), .var 1, .con (.int .i64 0)] 0) (rop ROp.min2 [.con (.int .i64 0), .con (.int .i64 0)]) (.bin .rem (.conv .i64 (.var 2)) (.bin .add (.len (.fn 22 [.con (.int .i64 8), .var 1, .con (.int .i64 0)] 0)) (.con (.int .i64 1)))) 2] 0, sub (.fn 22 [.con (.int .i64 8), .var 1, .con (.int .i64 0)] 0) (rop ROp.min2 [.bin .rem (.conv .i64 (.var 2)) (.bin .add (.len (.fn 22 [.con (.int .i64 8), .var 1, .con (.int .i64 0)] 0)) (.con (.int .i64 1))), .bin .rem (.conv .i64 (.var 2)) (.bin .add (.len (.fn 22 [.con (.int .i64 8), .var 1, .con (.int .i64 0)] 0)) (.con (.int .i64 1)))]) (.len (.fn 22 [.con (.int .i64 8), .var 1, .con (.int .i64 0)] 0)) 2] 0) (.fn 1 [.var 0, .fn 22 [.con (.int .i64 8), .var 1, .con (.int .i64 0)] 0] 0)) (.bool true), .ok (.len (.fn 22 [.con (.int .i64 8), .var 1, .con (.int .i64 0)] 0)), .ok (.bin .eql (.len (.fn 22 [.con (.int .i64 8), .var 1, .con (.int .i64 0)] 0)) (.con (.int .i64 0))), .is (.bin .eql (.len (.fn 22 [.con (.int .i64 8), .var 1, .con (.int .i64 0)] 0)) (.con (.int .i64 0))) (.bool false), .ok (.len (.fn 22 [.con (.int .i64 8), .var 1, .con (.int .i64 0)] 0)), .ok (.bin .sub (.len (.fn 22 [.con (.int .i64 8), .var 1, .con (.int .i64 0)] 0)) (.con (.int .i64 1))), .idx (.fn 22 [.con (.int .i64 8), .var 1, .con (.int .i64 0)] 0) (.bin .sub (.len (.fn 22 [.con (.int .i64 8), .var 1, .con (.int .i64 0)] 0)) (.con (.int .i64 1))) 2 2, .idx (.fn 22 [.con (.int .i64 8), .var 1, .con (.int .i64 0)] 0) (.bin .sub (.len (.fn 22 [.con (.int .i64 8), .var 1, .con (.int .i64 0)] 0)) (.con (.int .i64 1))) 2 2, .ok (.cell (.fn 22 [.con (.int .i64 8), .var 1, .con (.int .i64 0)] 0) (.bin .sub (.len (.fn 22 [.con (.int .i64 8), .var 1, .con (.int .i64 0)] 0)) (.con (.int .i64 1))) 2 0), .ok (.cell (.fn 22 [.con (.int .i64 8), .var 1, .con (.int .i64 0)] 0) (.bin .sub (.len (.fn 22 [.con (.int .i64 8), .var 1, .con (.int .i64 0)] 0)) (.con (.int .i64 1))) 2 1), .fn 36 (EPut 2) [.fn 1 [.var 0, .fn 22 [.con (.int .i64 8), .var 1, .con (.int .i64 0)] 0] 0, .cell (.fn 22 [.con (.int .i64 8), .var 1, .con (.int .i64 0)] 0) (.bin .sub (.len (.fn 22 [.con (.int .i64 8), .var 1, .con (.int .i64 0)] 0)) (.con (.int .i64 1))) 2 0, .cell (.fn 22 [.con (.int .i64 8), .var 1, .con (.int .i64 0)] 0) (.bin .sub (.len (.fn 22 [.con (.int .i64 8), .var 1, .con (.int .i64 0)] 0)) (.con (.int .i64 1))) 2 1], .ok (.fn 2 [.fn 1 [.var 0, .fn 22 [.con (.int .i64 8), .var 1, .con (.int .i64 0)] 0] 0, .cell (.fn 22 [.con (.int .i64 8), .var 1, .con (.int .i64 0)] 0) (.bin .sub (.len (.fn 22 [.con (.int .i64 8), .var 1, .con (.int .i64 0)] 0)) (.con (.int .i64 1))) 2 0, .cell (.fn 22 [.con (.int .i64 8), .var 1, .con (.int .i64 0)] 0) (.bin .sub (.len (.fn 22 [.con (.int .i64 8), .var 1, .con (.int .i64 0)] 0)) (.con (.int .i64 1))) 2 1] 0), .ok (.bin .eql (.fn 2 [.fn 1 [.var 0, .fn 22 [.con (.int .i64 8), .var 1, .con (.int .i64 0)] 0] 0, .cell (.fn 22 [.con (.int .i64 8), .var 1, .con (.int .i64 0)] 0) (.bin .sub (.len (.fn 22 [.con (.int .i64 8), .var 1, .con (.int .i64 0)] 0)) (.con (.int .i64 1))) 2 0, .cell (.fn 22 [.con (.int .i64 8), .var 1, .con (.int .i64 0)] 0) (.bin .sub (.len (.fn 22 [.con (.int .i64 8), .var 1, .con (.int .i64 0)] 0)) (.con (.int .i64 1))) 2 1] 0) (.fn 1 [.var 0, .fn 22 [.con (.int .i64 8), .var 1, .con (.int .i64 0)] 0] 0)), .is (.bin .eql (.fn 2 [.fn 1 [.var 0, .fn 22 [.con (.int .i64 8), .var 1, .con (.int .i64 0)] 0] 0, .cell (.fn 22 [.con (.int .i64 8), .var 1, .con (.int .i64 0)] 0) (.bin .sub (.len (.fn 22 [.con (.int .i64 8), .var 1, .con (.int .i64 0)] 0)) (.con (.int .i64 1))) 2 0, .cell (.fn 22 [.con (.int .i64 8), .var 1, .con (.int .i64 0)] 0) (.bin .sub (.len (.fn 22 [.con (.int .i64 8), .var 1, .con (.int .i64 0)] 0)) (.con (.int .i64 1))) 2 1] 0) (.fn 1 [.var 0, .fn 22 [.con (.int .i64 8), .var 1, .con (.int .i64 0)] 0] 0)) (.bool true), .ok (.con (.bool true))], [.con (.bool true)]) := by kernel_rfl
theorem rPut : runTo Try.prog (orcFn tabA) 10000 36 (EPut 2) [.num, .num, .num] [] = some ([.ok (.var 0), .ok (.var 1), .ok (.var 2), .fn 38 (EAll 1) [.var 0, .lit 1 [.var 1, .var 2]], .ok (.fn 1 [.var 0, .lit 1 [.var 1, .var 2]] 0)], [.fn 1 [.var 0, .lit 1 [.var 1, .var 2]] 0]) := by kernel_rfl

/-! What is told. -/
theorem ranB : isTrue ((theEng Try.prog fil.noOrc 100000).call 30 [] ⟨.nil, 0, []⟩) = true := by kernel_rfl
def RBg (ps qs : List PV) : Prop := ps = [] ∧ qs = [pB true]
theorem fBg : ∀ ps q1 q2, RBg ps q1 → RBg ps q2 → q1 = q2 := by
  rintro ps q1 q2 ⟨_, rfl⟩ ⟨_, rfl⟩; rfl
theorem plain_reads {w : World} {x : Value} (h : x.oneCell' = true) : Reads w (.v x) x := by simp only [Reads]; exact ⟨trivial, h⟩
theorem toldBg (k : Nat) : ToldF 30 (EBg k) (spec RBg) := by
  intro w FP us ps qs hs hul hpl hFP hrd
  obtain ⟨rfl, rfl⟩ := of_spec hs
  obtain rfl : us = [] := List.eq_nil_of_length_eq_zero (by simpa using hul)
  refine (calls_true names_ok mixed_ok fil.noOrc_ok (args := []) ranB w).mono ?_
  rintro e w' ⟨rfl, hex⟩
  refine ⟨[.bool true], rfl, rfl, fun j q u hq hu w2 _ => ?_, rfl, hex⟩
  match j, hq, hu with
  | 0, hq, hu => simp at hq hu; subst hq; subst hu; exact plain_reads rfl
  | j + 1, hq, hu => simp at hq
def bs (l : List UInt8) : ByteArray := ⟨l.toArray⟩
def RPut (ps qs : List PV) : Prop := ∃ (b : ByteArray) (o : Int) (s : ByteArray), b.size ≤ 1000 ∧ -9223372036854775808 ≤ o ∧ o ≤ 9223372036854775807 ∧ s.size ≤ 1000000 ∧ ps = [pS b, pI o, pS s] ∧ qs = [pS (bs (putW b.data.toList (o, s)))]
theorem fPut : ∀ ps q1 q2, RPut ps q1 → RPut ps q2 → q1 = q2 := by
  rintro ps q1 q2 ⟨b, o, s, _, _, _, _, rfl, rfl⟩ ⟨b', o', s', _, _, _, _, h, rfl⟩
  simp only [List.cons.injEq, PV.v.injEq, Value.string.injEq, Value.int.injEq, true_and, and_true] at h
  obtain ⟨rfl, rfl, rfl⟩ := h
  rfl
noncomputable def F : Fns := fun k => match k with | 1 => spec RAll | 2 => spec RPut | 3 => spec RBg | 22 => spec RWs | _ => fun _ => none
@[simp] theorem holds_fn (B : Base) (f : FuncId) (E : FnE) (es : List SX) : (Fact.fn f E es).holds B ↔ ToldF f E (B.F E.k) ∧ ∃ ps qs, evs B.s B.F es = some ps ∧ B.F E.k ps = some qs := Iff.rfl
@[simp] theorem kAll (k : Nat) : (EAll k).k = k := rfl
@[simp] theorem kPut (k : Nat) : (EPut k).k = k := rfl
@[simp] theorem kBg (k : Nat) : (EBg k).k = k := rfl
@[simp] theorem kWs (k : Nat) : (EWs k).k = k := rfl
theorem F1 {b : ByteArray} {ws : List (Int × ByteArray)} (h1 : b.size ≤ 1000) (h2 : ws.length ≤ 1000) (h3 : ∀ w ∈ ws, -9223372036854775808 ≤ w.1 ∧ w.1 ≤ 9223372036854775807 ∧ w.2.size ≤ 1000000) : F 1 [pS b, pRow encW ws] = some [pS (bs (allW b.data.toList ws))] := spec_of fAll ⟨b, ws, h1, h2, h3, rfl, rfl⟩
theorem t1 : ToldF 38 (EAll 1) (F 1) := toldAll 1
theorem t3 : ToldF 30 (EBg 3) (F 3) := toldBg 3
theorem F3 : F 3 [] = some [pB true] := spec_of fBg ⟨rfl, rfl⟩
theorem t22 : ToldP 32 (EWs 22) (F 22) := toldWs 22
theorem F22 {most n : Nat} {l : List Nat} (h : most ≤ 100) (ok : OkP l n) : F 22 [pI (most : Int), pRow encU l, pI (n : Int)] = some [pRow encW (writes l n most).1, pRow encU l, pI ((writes l n most).2 : Int)] := spec_of fWs ⟨most, n, l, h, ok, rfl, rfl⟩
theorem toldPut (k : Nat) : ToldF 36 (EPut k) (spec RPut) := by
  refine told_of mixed_ok names_ok F [.num, .num, .num] ?_
  intro ps qs h _
  obtain ⟨b, o, s, h1, h2, h3, h4, rfl, rfl⟩ := of_spec h
  have e1 : F 1 [pS b, .row 1 [pI o, pS s]] = some [pS (bs (putW b.data.toList (o, s)))] := by
    rw [row1]
    exact F1 (ws := [(o, s)]) h1 (by simp) (fun w hw => by simp at hw; subst hw; exact ⟨h2, h3, h4⟩)
  refine ⟨_, _, _, _, _, _, orcFn_ok tabA, rPut, fun w FP => ?_, ?_⟩
  · simp only [List.mem_cons, List.not_mem_nil, or_false, forall_eq_or_imp, forall_eq]
    simp [Base.ev, SX.ev, evs, e1, t1, Value.oneCell']
  · simp [evs, SX.ev, e1]
theorem t2 : ToldF 36 (EPut 2) (F 2) := toldPut 2
theorem F2 {b : ByteArray} {o : Int} {s : ByteArray} (h1 : b.size ≤ 1000) (h2 : -9223372036854775808 ≤ o) (h3 : o ≤ 9223372036854775807) (h4 : s.size ≤ 1000000) : F 2 [pS b, pI o, pS s] = some [pS (bs (putW b.data.toList (o, s)))] := spec_of fPut ⟨b, o, s, h1, h2, h3, h4, rfl, rfl⟩

/-! Writes behind one another. -/
theorem bs_list (l : List UInt8) : (bs l).data.toList = l := by simp [bs]
theorem bs_size (l : List UInt8) : (bs l).size = l.length := by simp [bs, ByteArray.size]
theorem all_app (l : List UInt8) (a b : List (Int × ByteArray)) : allW (allW l a) b = allW l (a ++ b) := by simp [allW]
theorem put_twice (l : List UInt8) (w : Int × ByteArray) : putW (putW l w) w = putW l w := by
  unfold putW
  cases h : mayW w with
  | false => rfl
  | true =>
    simp only [cond_true]
    have hx : w.2.data.toList.length = w.2.size := by simp
    generalize w.2.data.toList = x at *
    generalize w.1.toNat = o
    rw [← hx]
    have hm : o + x.length ≤ (grown l (o + x.length)).length := by simp [grown]; omega
    generalize grown l (o + x.length) = m at *
    have hl : (over m x o).length = m.length := by simp [over]; omega
    have hg : grown (over m x o) (o + x.length) = over m x o := by
      have : o + x.length - (over m x o).length = 0 := by omega
      simp [grown, this]
    rw [hg]
    have e1 : (over m x o).take o = m.take o := by
      simp only [over, List.append_assoc]
      rw [List.take_left' (by simp; omega)]
    have e2 : (over m x o).drop (o + x.length) = m.drop (o + x.length) := by
      simp only [over]
      rw [List.drop_left' (by simp; omega)]
    unfold over at e1 e2 ⊢
    rw [e1, e2]
theorem tbl_size : ∀ j, (tbl j).size ≤ 14
  | 0 => by decide
  | 1 => by decide
  | 2 => by decide
  | 3 => by decide
  | 4 => by decide
  | 5 => by decide
  | _ + 6 => by show (⟨⟨[UInt8.ofNat 120]⟩⟩ : ByteArray).size ≤ 14; decide
theorem wseq_ok (l : List Nat) : ∀ c n, ∀ w ∈ (wseq l c n).1, 0 ≤ w.1 ∧ w.1 < 10 ∧ w.2.size ≤ 14
  | 0, n, w, h => by simp [wseq] at h
  | c + 1, n, w, h => by
    simp only [wseq, List.mem_cons] at h
    rcases h with rfl | h
    · have := numV_lt (l := l) (n := n) (m := 10) (by omega)
      simp only [wr1]
      exact ⟨by omega, by omega, tbl_size _⟩
    · exact wseq_ok l c _ w h
theorem all_split (ws : List (Int × ByteArray)) (k : Nat) : encW.all ws = encW.all (ws.take k) ++ encW.all (ws.drop k) := by
  rw [← Enc.all_append, List.take_append_drop]
theorem take_row (ws : List (Int × ByteArray)) (k : Nat) (h : k ≤ ws.length) : PV.row k ((((encW.all ws).map PV.v).drop 0).take (k * 2)) = pRow encW (ws.take k) := by
  have hl : ((encW.all (ws.take k)).map PV.v).length = k * 2 := by
    rw [List.length_map, Enc.all_length, List.length_take, Nat.min_eq_left h]
    rfl
  rw [List.drop_zero, all_split ws k, List.map_append, ← hl, List.take_left' rfl]
  simp only [pRow, List.length_take, Nat.min_eq_left h]
theorem drop_row (ws : List (Int × ByteArray)) (k : Nat) (h : k ≤ ws.length) : PV.row (ws.length - k) ((((encW.all ws).map PV.v).drop (k * 2)).take ((ws.length - k) * 2)) = pRow encW (ws.drop k) := by
  have hl : ((encW.all (ws.take k)).map PV.v).length = k * 2 := by
    rw [List.length_map, Enc.all_length, List.length_take, Nat.min_eq_left h]
    rfl
  have hl2 : ((encW.all (ws.drop k)).map PV.v).length = (ws.length - k) * 2 := by
    rw [List.length_map, Enc.all_length, List.length_drop]
    rfl
  rw [all_split ws k, List.map_append, ← hl, List.drop_left' rfl, List.take_of_length_le (by rw [hl2]; exact Nat.le_refl _)]
  simp only [pRow, List.length_drop]
theorem sub_take (ws : List (Int × ByteArray)) (k : Nat) (h : k ≤ ws.length) : subPV (pRow encW ws) (pI 0) (pI (k : Int)) 2 = some (pRow encW (ws.take k)) := by
  have h1 : (0 : Int) ≤ (k : Int) := by omega
  have h2 : (k : Int) ≤ (ws.length : Int) := by omega
  rw [← take_row ws k h]
  simp [subPV, pRow, h1, h2]
theorem sub_drop (ws : List (Int × ByteArray)) (k : Nat) (h : k ≤ ws.length) : subPV (pRow encW ws) (pI (k : Int)) (pI (ws.length : Int)) 2 = some (pRow encW (ws.drop k)) := by
  have h1 : (0 : Int) ≤ (k : Int) := by omega
  have h2 : (k : Int) ≤ (ws.length : Int) := by omega
  rw [← drop_row ws k h]
  simp [subPV, pRow, h1, h2]

@[simp] theorem ex_cast0 (p : Nat → Prop) : (∃ a : Nat, (0 : Int) = (a : Int) ∧ p a) ↔ p 0 := by
  constructor
  · rintro ⟨a, h, hp⟩
    have : a = 0 := by omega
    rw [this] at hp
    exact hp
  · exact fun h => ⟨0, rfl, h⟩
/-! The law. -/
def R (ps qs : List PV) : Prop := ∃ (b : ByteArray) (l : List Nat) (c : Nat), b.size ≤ 9223372036854775807 ∧ l.length ≤ 9223372036854775807 ∧ (∀ z ∈ l, z < 256) ∧ c < 256 ∧ ps = [pS b, pRow encU l, pU (c : Int)] ∧ qs = [pB true]
def EL (k : Nat) : FnE := { k := k, ins := [none, none, none], leaks := [false, true, false], outs := [none], kinds := [.truth] }
theorem fR : ∀ ps q1 q2, R ps q1 → R ps q2 → q1 = q2 := by
  rintro ps q1 q2 ⟨_, _, _, _, _, _, _, _, rfl⟩ ⟨_, _, _, _, _, _, _, _, rfl⟩; rfl
theorem orcF_ok : OrcOk Try.prog orcF := orcOr_ok (orcFn_ok tabF) (orcP_ok tabQ)
theorem cellW2 (ws : List (Int × ByteArray)) (i : Nat) (h : i < ws.length) : cellPV (pRow encW ws) (pI (i : Int)) 2 0 = some (pI ws[i].1) ∧ cellPV (pRow encW ws) (pI (i : Int)) 2 1 = some (pS ws[i].2) := by
  constructor
  · rw [cellW ws i h 0 (by omega)]; rfl
  · rw [cellW ws i h 1 (by omega)]; rfl
@[simp] theorem holds_idx (B : Base) (e i : SX) (sz q : Nat) : (Fact.idx e i sz q).holds B ↔ ∃ n cs k z, B.ev e = some (.row n cs) ∧ B.ev i = some (.v (.int k z)) ∧ 0 ≤ z ∧ z < (n : Int) ∧ z.toNat * sz + q ≤ cs.length := Iff.rfl
set_option maxHeartbeats 4000000 in
theorem told (k : Nat) : ToldF 10 (EL k) (spec R) := by
  refine told_by F _ (bodyOf Try.prog 10) Try.func10 (by kernel_rfl) shF (by kernel_rfl) ?_ ?_
  · intro ps qs h i hi
    obtain ⟨b, l, c, _, _, _, _, rfl, rfl⟩ := of_spec h
    simp [shF] at hi
    match i, hi with
    | 0, hi => exact ⟨_, rfl, rfl⟩
    | 1, hi => simp at hi
    | 2, hi => exact ⟨_, rfl, rfl⟩
    | i + 3, hi => simp at hi
  · intro C ps qs hF h a w hsh
    obtain ⟨b, l, c, hb, hl, hz, hc, rfl, rfl⟩ := of_spec h
    show wpL Try.prog flF _ a w
    rw [← List.append_nil flF]
    have fin : ∀ qs a1 w1, qs = [pB true] → InShape C shFR qs a1 w1 → (AX.ret = .normal → wpL Try.prog [] (fun e a' w' => (e = .normal ∨ e = .ret) ∧ ∃ sh' ps' es, InShape C sh' ps' a' w' ∧ resTo Try.prog Try.f10 sh' (EL k) = some es ∧ evs (fun i => ps'[i]?) F es = some [pB true]) a1 w1) ∧ (AX.ret ≠ .normal → (AX.ret.to = .normal ∨ AX.ret.to = .ret) ∧ ∃ sh' ps' es, InShape C sh' ps' a1 w1 ∧ resTo Try.prog Try.f10 sh' (EL k) = some es ∧ evs (fun i => ps'[i]?) F es = some [pB true]) := by
      rintro qs a1 w1 rfl h1
      exact ⟨fun h => (by cases h), fun _ => ⟨.inr rfl, shFR, _, [SX.var 0], h1, by kernel_rfl, rfl⟩⟩
    by_cases hb1 : 24 < b.size
    · refine seg_ok names_ok mixed_ok orcF_ok p1 hsh ?_ (fun qs a1 w1 hq h1 => fin qs a1 w1 (by simp [evs, SX.ev] at hq; exact hq.symm) h1)
      simp only [List.mem_cons, List.not_mem_nil, or_false, forall_eq_or_imp, forall_eq]
      simp [Base.ev, SX.ev, evs, hF, slenPV, binPV, F3, t3, Value.oneCell']
      omega
    by_cases hl1 : 20 < l.length
    · refine seg_ok names_ok mixed_ok orcF_ok p2 hsh ?_ (fun qs a1 w1 hq h1 => fin qs a1 w1 (by simp [evs, SX.ev] at hq; exact hq.symm) h1)
      simp only [List.mem_cons, List.not_mem_nil, or_false, forall_eq_or_imp, forall_eq]
      simp [Base.ev, SX.ev, evs, hF, slenPV, lenPV_row, binPV, F3, t3, Value.oneCell']
      omega
    have ok : OkP l 0 := ⟨by omega, by omega, hz⟩
    have e22 : F 22 [pI 8, pRow encU l, pI 0] = some [pRow encW (writes l 0 8).1, pRow encU l, pI ((writes l 0 8).2 : Int)] := F22 (most := 8) (n := 0) (by omega) ok
    have hws : ∀ w ∈ (writes l 0 8).1, 0 ≤ w.1 ∧ w.1 < 10 ∧ w.2.size ≤ 14 := wseq_ok l _ _
    have hwl : (writes l 0 8).1.length ≤ 8 := by
      have := numV_lt (l := l) (n := 0) (m := 9) (by omega)
      simp only [writes, wseq_len]
      show numV l 0 9 ≤ 8
      omega
    generalize (writes l 0 8).2 = n2 at e22
    generalize (writes l 0 8).1 = ws at e22 hws hwl
    have hws' : ∀ w ∈ ws, -9223372036854775808 ≤ w.1 ∧ w.1 ≤ 9223372036854775807 ∧ w.2.size ≤ 1000000 := fun w hw => by
      obtain ⟨h1, h2, h3⟩ := hws w hw
      omega
    have w1 : IntKind.i64.wrap (c : Int) = (c : Int) := wrapI _ (by omega) (by omega)
    have w2 : IntKind.i64.wrap ((ws.length : Int) + 1) = (ws.length : Int) + 1 := wrapI _ (by omega) (by omega)
    obtain ⟨j, hj⟩ : ∃ j, j = c % (ws.length + 1) := ⟨_, rfl⟩
    have w3 : ((c : Int).tmod ((ws.length : Int) + 1)) = (j : Int) := by rw [hj]; rfl
    have hjl : j ≤ ws.length := by rw [hj]; have := Nat.mod_lt c (show 0 < ws.length + 1 by omega); omega
    have hnz : ¬ ((ws.length : Int) + 1 = 0) := by omega
    have s1 := sub_take ws j hjl
    have s2 := sub_drop ws j hjl
    have hbl : b.data.toList.length = b.size := by simp
    have lenOf : ∀ ws' : List (Int × ByteArray), (allW b.data.toList ws').length ≤ 24 := fun ws' => by have := allW_len ws' b.data.toList; omega
    have g1 : F 1 [pS b, pRow encW ws] = some [pS (bs (allW b.data.toList ws))] := F1 (by omega) (by omega) hws'
    have g2 : F 1 [pS b, pRow encW (ws.take j)] = some [pS (bs (allW b.data.toList (ws.take j)))] := F1 (by omega) (by simp; omega) (fun w hw => hws' w (List.mem_of_mem_take hw))
    have g3 : F 1 [pS (bs (allW b.data.toList (ws.take j))), pRow encW (ws.drop j)] = some [pS (bs (allW b.data.toList ws))] := by
      rw [F1 (by rw [bs_size]; have := lenOf (ws.take j); omega) (by simp; omega) (fun w hw => hws' w (List.mem_of_mem_drop hw)), bs_list, all_app, List.take_append_drop]
    by_cases h0 : ws.length = 0
    · refine seg_ok names_ok mixed_ok orcF_ok p3 hsh ?_ (fun qs a1 w1 hq h1 => fin qs a1 w1 (by simp [evs, SX.ev] at hq; exact hq.symm) h1)
      simp only [List.mem_cons, List.not_mem_nil, or_false, forall_eq_or_imp, forall_eq]
      simp [Base.ev, SX.ev, evs, hF, slenPV, lenPV_row, binPV, convPV, F3, t3, t22, t1, e22, w1, w2, w3, hnz, r_min, g1, g2, g3, s1, s2, Value.oneCell']
      exact ⟨by omega, by omega, hjl, List.eq_nil_of_length_eq_zero h0⟩
    · obtain ⟨m, hm⟩ : ∃ m, ws.length = m + 1 := ⟨ws.length - 1, by omega⟩
      have w4 : IntKind.i64.wrap ((ws.length : Int) - 1) = (m : Int) := by rw [wrapI _ (by omega) (by omega)]; omega
      obtain ⟨c0', c1'⟩ := cellW2 ws m (by omega)
      have hlast : allW b.data.toList ws = putW (allW b.data.toList (ws.take m)) ws[m] := by
        have e : ws.take (m + 1) = ws := List.take_of_length_le (by omega)
        conv => lhs; rw [← e, List.take_add_one, List.getElem?_eq_getElem (show m < ws.length by omega)]
        simp only [allW, Option.toList_some, List.foldl_append, List.foldl_cons, List.foldl_nil]
      obtain ⟨q1, q2, q3⟩ := hws ws[m] (List.getElem_mem _)
      have g4 : F 2 [pS (bs (allW b.data.toList ws)), pI ws[m].1, pS ws[m].2] = some [pS (bs (allW b.data.toList ws))] := by
        rw [F2 (by rw [bs_size]; have := lenOf ws; omega) (by omega) (by omega) (by omega), bs_list]
        rw [hlast]
        rw [put_twice]
      refine seg_ok names_ok mixed_ok orcF_ok p4 hsh ?_ (fun qs a1 w1 hq h1 => fin qs a1 w1 (by simp [evs, SX.ev] at hq; exact hq.symm) h1)
      simp only [List.mem_cons, List.not_mem_nil, or_false, forall_eq_or_imp, forall_eq]
      simp [Base.ev, SX.ev, evs, hF, slenPV, lenPV_row, binPV, convPV, F3, t3, t22, t1, t2, e22, w1, w2, w3, w4, hnz, r_min, g1, g2, g3, g4, s1, s2, c0', c1', Value.oneCell']
      obtain ⟨xn, xc, xk, xz, x1, x2, x3, x4, x5⟩ := idx_row encW ws m 2 2 rfl (by omega) (by decide)
      exact ⟨by omega, by omega, hjl, fun e => h0 (by rw [e]; rfl), xn, xc, Option.some.inj x1, xk, xz, by simpa using x2, x3, x4, x5⟩

theorem encU_all : ∀ zs : List Nat, encU.all zs = u8s zs
  | [] => rfl
  | z :: zs => by
    rw [Enc.all_cons, encU_all zs]
    rfl
theorem rowU {w : World} {v : Value} {len : Nat} {Z : Nat → Int} (h : IsRow .u8 w v len Z) : ∃ l : List Nat, (∀ z ∈ l, z < 256) ∧ l.length ≤ 9223372036854775807 ∧ Reads w (pRow encU l) v := by
  obtain ⟨zs, hzl, hz, hr⟩ := row_u8 h
  have hall := encU_all zs
  obtain ⟨a, cap, rfl, h1, h2, h3⟩ := hr
  rw [u8s_length] at h1 h3
  have hm := maxLen_le h2
  refine ⟨zs, hz, by omega, (reads_row encU).2 ⟨a, cap, by rw [u8s_length], h1, h2, fun h0 => ?_⟩⟩
  obtain ⟨b, off, rfl, h4⟩ := h3 h0
  have hlt : 0 < (u8s zs).length := by rw [u8s_length]; exact h0
  refine ⟨b, off, rfl, World.block_lt_of_cell? w ⟨b, off + 0, none⟩ (h4 0 _ (List.getElem?_eq_getElem hlt)), fun i u hu => ?_⟩
  rw [hall] at hu
  exact h4 i u hu
theorem walk (w : World) (s : ByteArray) (hs : s.size ≤ maxLen) (v : Value) (len : Nat) (Z : Nat → Int) (hg : IsRow .u8 w v len Z) (a : Int) (wa : (Lit.int .u8 a).wf = true) :
    Calls Try.prog 10 #[.string s, v, .int .u8 a] w fun e w' => e = .returned (.bool true) ∧ Ex w w' := by
  obtain ⟨l, hb, hlen, hr⟩ := rowU hg
  obtain ⟨h0, h1⟩ := bounds_u8 wa
  obtain ⟨c, rfl⟩ : ∃ c : Nat, a = (c : Int) := ⟨a.toNat, by omega⟩
  refine (told 0 w (fun k => k < w.heap.size) [.string s, v, .int .u8 (c : Int)] [pS s, pRow encU l, pU (c : Int)] [pB true] (spec_of fR ⟨s, l, c, maxLen_le hs, hlen, hb, by omega, rfl, rfl⟩) rfl rfl (fun _ h => h) (fun i p u hp hu => ?_)).mono ?_
  · match i, hp, hu with
    | 0, hp, hu => simp at hp hu; subst hp; subst hu; exact ⟨plain_reads rfl, fun _ w2 _ => plain_reads rfl⟩
    | 1, hp, hu => simp at hp hu; subst hp; subst hu; exact ⟨hr, fun _ w2 hw2 => Reads.keep hw2 _ hr⟩
    | 2, hp, hu => simp at hp hu; subst hp; subst hu; exact ⟨plain_reads rfl, fun _ w2 _ => plain_reads rfl⟩
    | i + 3, hp, hu => simp at hp
  · rintro e w' ⟨us, h1, _, h2, rfl, hex⟩
    obtain ⟨x, rfl⟩ : ∃ x, us = [x] := by match us, h1 with | [x], _ => exact ⟨x, rfl⟩
    have := h2 0 (pB true) x rfl rfl w' (fun _ _ => rfl)
    simp only [Reads] at this
    rw [this.1]
    exact ⟨rfl, hex⟩
end Go.Proofs.Ytlfdkccmfbfgiaa.fileFronts
