/- MarkAll by the symbolic engine. -/
import Derived.Test.YtegfdigljpnhcaaMkc
import Derived.Test.YtegfdigljpnhcaaGrd
import Derived.Test.YtegfdigljpnhcaaFrameB
namespace Go.Proofs.Ytegfdigljpnhcaa.markAll
open Go Go.RowKit eng SX Fact fil sta grd
set_option linter.unusedVariables false
set_option linter.unusedSimpArgs false
set_option maxRecDepth 1000000

def EIsL (k : Nat) : FnE := { k := k, ins := [none, none, none], leaks := [false, false, false], outs := [some 4, none], kinds := [.num, .num, .num, .num, .num] }
def tabA (f : FuncId) : Option FnE := cond (Nat.beq f 19) (some (ENewM 1)) (cond (Nat.beq f 21) (some (EPutM 2)) (cond (Nat.beq f 22) (some (EPutM 3)) (cond (Nat.beq f 24) (some (EIsL 4)) (cond (Nat.beq f 25) (some (EIsL 5)) (cond (Nat.beq f 23) (some (ESmM 6)) (cond (Nat.beq f 18) (some (ETrue 7)) (cond (Nat.beq f 20) (some (ENewSt 8)) none)))))))
def hL (_ : FuncId) (o : Oper) : Option Hint := cond (isApp o.op) (some .own) (match o.op with | .binOp .. => none | _ => some .lazy)
noncomputable def flA := flat (bodyOf Try.prog 7)
noncomputable def lpA := flat (loopBody (nth flA 7))
noncomputable def bdA := flat (blockBody (nth lpA 2))
noncomputable def lpB := flat (loopBody (nth bdA 6))
def mbox : BoxT := ⟨50, 0, false, [.leaf, .leaf, .leaf, .leaf], none, false⟩
def sh0 : Shape := ⟨[(0, .leaf), (1, .agg 4), (2, .leaf), (3, .leaf), (4, .leaf)], [], [some false, none, none, none, none, none, none, none], 153, 7⟩
def shA : Shape := ⟨[(0, .leaf), (2, .leaf), (3, .leaf), (4, .leaf), (6, .ptr 0 0 0 0), (11, .leaf), (12, .leaf), (13, .leaf)], [mbox], [some false, none, none, none, some true, some true, none, none, none, none, none], 153, 7⟩
def shB : Shape := ⟨[(0, .leaf), (2, .leaf), (3, .leaf), (4, .leaf), (6, .ptr 0 0 0 0), (11, .leaf), (12, .leaf), (13, .leaf), (14, .leaf), (16, .leaf)], [mbox], [some false, none, none, none, some true, some true, none, none, none, none, none, none, none], 153, 7⟩
def shR : Shape := ⟨[(10, .leaf)], [], [none], 153, 7⟩
theorem q1 : segTo Try.prog (orcFn tabA) 10000 flA sh0 [1, 1] shR [] = some (.ret, [.fn 18 (ETrue 7) [], .is (.fn 7 [] 0) (.bool true), .ok (.len (.var 0)), .ok (.bin .gtr (.len (.var 0)) (.con (.int .i64 20))), .is (.bin .gtr (.len (.var 0)) (.con (.int .i64 20))) (.bool true), .ok (.con (.bool true))], [.con (.bool true)]) := by kernel_rfl
theorem q2 : segTo Try.prog (orcFn tabA) 10000 flA sh0 [1, 0, 1] shR [] = some (.ret, [.fn 18 (ETrue 7) [], .is (.fn 7 [] 0) (.bool true), .ok (.len (.var 0)), .ok (.bin .gtr (.len (.var 0)) (.con (.int .i64 20))), .is (.bin .gtr (.len (.var 0)) (.con (.int .i64 20))) (.bool false), .ok (.bin .gtr (.var 7) (.con (.int .i64 50))), .is (.bin .gtr (.var 7) (.con (.int .i64 50))) (.bool true), .ok (.con (.bool true))], [.con (.bool true)]) := by kernel_rfl
theorem pre : segTo Try.prog (orcFn tabA) 10000 (flA.take 7) sh0 [1, 0, 0] shA [(1, 0)] = some (.normal, [.fn 18 (ETrue 7) [], .is (.fn 7 [] 0) (.bool true), .ok (.len (.var 0)), .ok (.bin .gtr (.len (.var 0)) (.con (.int .i64 20))), .is (.bin .gtr (.len (.var 0)) (.con (.int .i64 20))) (.bool false), .ok (.bin .gtr (.var 7) (.con (.int .i64 50))), .is (.bin .gtr (.var 7) (.con (.int .i64 50))) (.bool false), .fn 19 (ENewM 1) [.con (.int .i64 3)], .fn 20 (ENewSt 8) [], .ok (.fn 8 [] 2), .ok (.var 5), .ok (.var 6), .ok (.var 7), .ok (.con (.int .i64 0)), .ok (.var 1), .ok (.var 2), .ok (.var 3), .ok (.var 4)], [.var 0, .var 5, .var 6, .var 7, .fn 1 [.con (.int .i64 3)] 0, .fn 8 [] 1, .con (.int .i64 0), .var 1, .var 2, .var 3, .var 4]) := by kernel_rfl
theorem hd : segTo Try.prog (orcFn tabA) 10000 (lpA.take 2) shA [1] shA [(0, 0)] = some (.normal, [.ok (.len (.var 0)), .ok (.bin .lss (.var 6) (.len (.var 0))), .is (.bin .lss (.var 6) (.len (.var 0))) (.bool true), .ok (.var 1), .ok (.var 2), .ok (.var 3), .ok (.var 6), .ok (.var 7), .ok (.var 8), .ok (.var 9), .ok (.var 10)], [.var 0, .var 1, .var 2, .var 3, .var 4, .var 5, .var 6, .var 7, .var 8, .var 9, .var 10]) := by kernel_rfl
theorem ex : segTo Try.prog (orcFn tabA) 10000 lpA shA [0] shA [(0, 0)] = some (.exit 0, [.ok (.len (.var 0)), .ok (.bin .lss (.var 6) (.len (.var 0))), .is (.bin .lss (.var 6) (.len (.var 0))) (.bool false), .ok (.var 1), .ok (.var 2), .ok (.var 3), .ok (.var 6), .ok (.var 7), .ok (.var 8), .ok (.var 9), .ok (.var 10)], [.var 0, .var 1, .var 2, .var 3, .var 4, .var 5, .var 6, .var 7, .var 8, .var 9, .var 10]) := by kernel_rfl
theorem bd : segTo Try.prog (orcFn tabA) 10000 (bdA.take 6) shA [1] shB [(0, 0)] hL = some (.normal, [.idx (.var 0) (.var 6) 4 4, .idx (.var 0) (.var 6) 4 1, .ok (.cell (.var 0) (.var 6) 4 0), .ok (.bin .rem (.cell (.var 0) (.var 6) 4 0) (.con (.int .u8 5))), .ok (.conv .i64 (.bin .rem (.cell (.var 0) (.var 6) 4 0) (.con (.int .u8 5)))), .ok (.bin .sub (.conv .i64 (.bin .rem (.cell (.var 0) (.var 6) 4 0) (.con (.int .u8 5)))) (.con (.int .i64 1))), .idx (.var 0) (.var 6) 4 4, .idx (.var 0) (.var 6) 4 2, .ok (.cell (.var 0) (.var 6) 4 1), .ok (.bin .rem (.cell (.var 0) (.var 6) 4 1) (.con (.int .u8 9))), .ok (.conv .i64 (.bin .rem (.cell (.var 0) (.var 6) 4 1) (.con (.int .u8 9)))), .idx (.var 0) (.var 6) 4 4, .idx (.var 0) (.var 6) 4 3, .ok (.cell (.var 0) (.var 6) 4 2), .ok (.bin .rem (.cell (.var 0) (.var 6) 4 2) (.con (.int .u8 3))), .ok (.conv .i64 (.bin .rem (.cell (.var 0) (.var 6) 4 2) (.con (.int .u8 3)))), .idx (.var 0) (.var 6) 4 4, .idx (.var 0) (.var 6) 4 4, .ok (.cell (.var 0) (.var 6) 4 3), .ok (.bin .rem (.cell (.var 0) (.var 6) 4 3) (.con (.int .u8 7))), .ok (.conv .i64 (.bin .rem (.cell (.var 0) (.var 6) 4 3) (.con (.int .u8 7)))), .fn 21 (EPutM 2) [.var 4, .bin .sub (.conv .i64 (.bin .rem (.cell (.var 0) (.var 6) 4 0) (.con (.int .u8 5)))) (.con (.int .i64 1)), .conv .i64 (.bin .rem (.cell (.var 0) (.var 6) 4 1) (.con (.int .u8 9))), .conv .i64 (.bin .rem (.cell (.var 0) (.var 6) 4 2) (.con (.int .u8 3))), .conv .i64 (.bin .rem (.cell (.var 0) (.var 6) 4 3) (.con (.int .u8 7))), .var 6], .fn 22 (EPutM 3) [.var 5, .bin .sub (.conv .i64 (.bin .rem (.cell (.var 0) (.var 6) 4 0) (.con (.int .u8 5)))) (.con (.int .i64 1)), .conv .i64 (.bin .rem (.cell (.var 0) (.var 6) 4 1) (.con (.int .u8 9))), .conv .i64 (.bin .rem (.cell (.var 0) (.var 6) 4 2) (.con (.int .u8 3))), .conv .i64 (.bin .rem (.cell (.var 0) (.var 6) 4 3) (.con (.int .u8 7))), .var 6], .fn 23 (ESmM 6) [.fn 2 [.var 4, .bin .sub (.conv .i64 (.bin .rem (.cell (.var 0) (.var 6) 4 0) (.con (.int .u8 5)))) (.con (.int .i64 1)), .conv .i64 (.bin .rem (.cell (.var 0) (.var 6) 4 1) (.con (.int .u8 9))), .conv .i64 (.bin .rem (.cell (.var 0) (.var 6) 4 2) (.con (.int .u8 3))), .conv .i64 (.bin .rem (.cell (.var 0) (.var 6) 4 3) (.con (.int .u8 7))), .var 6] 0, .fn 3 [.var 5, .bin .sub (.conv .i64 (.bin .rem (.cell (.var 0) (.var 6) 4 0) (.con (.int .u8 5)))) (.con (.int .i64 1)), .conv .i64 (.bin .rem (.cell (.var 0) (.var 6) 4 1) (.con (.int .u8 9))), .conv .i64 (.bin .rem (.cell (.var 0) (.var 6) 4 2) (.con (.int .u8 3))), .conv .i64 (.bin .rem (.cell (.var 0) (.var 6) 4 3) (.con (.int .u8 7))), .var 6] 0], .is (.fn 6 [.fn 2 [.var 4, .bin .sub (.conv .i64 (.bin .rem (.cell (.var 0) (.var 6) 4 0) (.con (.int .u8 5)))) (.con (.int .i64 1)), .conv .i64 (.bin .rem (.cell (.var 0) (.var 6) 4 1) (.con (.int .u8 9))), .conv .i64 (.bin .rem (.cell (.var 0) (.var 6) 4 2) (.con (.int .u8 3))), .conv .i64 (.bin .rem (.cell (.var 0) (.var 6) 4 3) (.con (.int .u8 7))), .var 6] 0, .fn 3 [.var 5, .bin .sub (.conv .i64 (.bin .rem (.cell (.var 0) (.var 6) 4 0) (.con (.int .u8 5)))) (.con (.int .i64 1)), .conv .i64 (.bin .rem (.cell (.var 0) (.var 6) 4 1) (.con (.int .u8 9))), .conv .i64 (.bin .rem (.cell (.var 0) (.var 6) 4 2) (.con (.int .u8 3))), .conv .i64 (.bin .rem (.cell (.var 0) (.var 6) 4 3) (.con (.int .u8 7))), .var 6] 0] 0) (.bool true), .ok (.var 1), .ok (.var 2), .ok (.var 3), .ok (.var 6), .ok (.bin .sub (.conv .i64 (.bin .rem (.cell (.var 0) (.var 6) 4 0) (.con (.int .u8 5)))) (.con (.int .i64 1))), .ok (.con (.int .i64 0)), .ok (.var 7), .ok (.var 8), .ok (.var 9), .ok (.var 10)], [.var 0, .var 1, .var 2, .var 3, .fn 2 [.var 4, .bin .sub (.conv .i64 (.bin .rem (.cell (.var 0) (.var 6) 4 0) (.con (.int .u8 5)))) (.con (.int .i64 1)), .conv .i64 (.bin .rem (.cell (.var 0) (.var 6) 4 1) (.con (.int .u8 9))), .conv .i64 (.bin .rem (.cell (.var 0) (.var 6) 4 2) (.con (.int .u8 3))), .conv .i64 (.bin .rem (.cell (.var 0) (.var 6) 4 3) (.con (.int .u8 7))), .var 6] 0, .fn 3 [.var 5, .bin .sub (.conv .i64 (.bin .rem (.cell (.var 0) (.var 6) 4 0) (.con (.int .u8 5)))) (.con (.int .i64 1)), .conv .i64 (.bin .rem (.cell (.var 0) (.var 6) 4 1) (.con (.int .u8 9))), .conv .i64 (.bin .rem (.cell (.var 0) (.var 6) 4 2) (.con (.int .u8 3))), .conv .i64 (.bin .rem (.cell (.var 0) (.var 6) 4 3) (.con (.int .u8 7))), .var 6] 0, .var 6, .bin .sub (.conv .i64 (.bin .rem (.cell (.var 0) (.var 6) 4 0) (.con (.int .u8 5)))) (.con (.int .i64 1)), .con (.int .i64 0), .var 7, .var 8, .var 9, .var 10]) := by kernel_rfl
theorem ib : segTo Try.prog (orcFn tabA) 10000 lpB shB [1, 0, 0] shB [(0, 0)] hL = some (.normal, [.ok (.bin .lss (.var 8) (.con (.int .i64 9))), .is (.bin .lss (.var 8) (.con (.int .i64 9))) (.bool true), .fn 24 (EIsL 4) [.var 4, .var 7, .var 8], .ok (.fn 4 [.var 4, .var 7, .var 8] 0), .ok (.fn 4 [.var 4, .var 7, .var 8] 1), .ok (.fn 4 [.var 4, .var 7, .var 8] 2), .ok (.fn 4 [.var 4, .var 7, .var 8] 3), .ok (.fn 4 [.var 4, .var 7, .var 8] 4), .fn 25 (EIsL 5) [.var 5, .var 7, .var 8], .ok (.fn 5 [.var 5, .var 7, .var 8] 0), .ok (.fn 5 [.var 5, .var 7, .var 8] 1), .ok (.fn 5 [.var 5, .var 7, .var 8] 2), .ok (.fn 5 [.var 5, .var 7, .var 8] 3), .ok (.fn 5 [.var 5, .var 7, .var 8] 4), .ok (.op (Op.binOp .neq 50 (Operand.tmp 104) (Operand.tmp 105) 50) 4 [104, 105] [.agg [.fn 4 [.var 4, .var 7, .var 8] 0, .fn 4 [.var 4, .var 7, .var 8] 1, .fn 4 [.var 4, .var 7, .var 8] 2, .fn 4 [.var 4, .var 7, .var 8] 3], .agg [.fn 5 [.var 5, .var 7, .var 8] 0, .fn 5 [.var 5, .var 7, .var 8] 1, .fn 5 [.var 5, .var 7, .var 8] 2, .fn 5 [.var 5, .var 7, .var 8] 3]]), .is (.op (Op.binOp .neq 50 (Operand.tmp 104) (Operand.tmp 105) 50) 4 [104, 105] [.agg [.fn 4 [.var 4, .var 7, .var 8] 0, .fn 4 [.var 4, .var 7, .var 8] 1, .fn 4 [.var 4, .var 7, .var 8] 2, .fn 4 [.var 4, .var 7, .var 8] 3], .agg [.fn 5 [.var 5, .var 7, .var 8] 0, .fn 5 [.var 5, .var 7, .var 8] 1, .fn 5 [.var 5, .var 7, .var 8] 2, .fn 5 [.var 5, .var 7, .var 8] 3]]) (.bool false), .ok (rop ROp.neB [.fn 4 [.var 4, .var 7, .var 8] 4, .fn 5 [.var 5, .var 7, .var 8] 4]), .is (rop ROp.neB [.fn 4 [.var 4, .var 7, .var 8] 4, .fn 5 [.var 5, .var 7, .var 8] 4]) (.bool false), .ok (.bin .add (.var 8) (.con (.int .i64 1))), .ok (.var 1), .ok (.var 2), .ok (.var 3), .ok (.var 6), .ok (.var 7), .ok (.bin .add (.var 8) (.con (.int .i64 1))), .ok (.var 9), .ok (.var 10), .ok (.var 11), .ok (.var 12)], [.var 0, .var 1, .var 2, .var 3, .var 4, .var 5, .var 6, .var 7, .bin .add (.var 8) (.con (.int .i64 1)), .var 9, .var 10, .var 11, .var 12]) := by kernel_rfl
theorem ix : segTo Try.prog (orcFn tabA) 10000 lpB shB [0] shA [(0, 0)] hL = some (.exit 2, [.ok (.bin .lss (.var 8) (.con (.int .i64 9))), .is (.bin .lss (.var 8) (.con (.int .i64 9))) (.bool false), .ok (.var 1), .ok (.var 2), .ok (.var 3), .ok (.var 6), .ok (.var 9), .ok (.var 10), .ok (.var 11), .ok (.var 12)], [.var 0, .var 1, .var 2, .var 3, .var 4, .var 5, .var 6, .var 9, .var 10, .var 11, .var 12]) := by kernel_rfl
theorem stp : segTo Try.prog (orcFn tabA) 10000 (lpA.drop 3) shA [] shA [(0, 0)] = some (.normal, [.ok (.bin .add (.var 6) (.con (.int .i64 1))), .ok (.var 1), .ok (.var 2), .ok (.var 3), .ok (.bin .add (.var 6) (.con (.int .i64 1))), .ok (.var 7), .ok (.var 8), .ok (.var 9), .ok (.var 10)], [.var 0, .var 1, .var 2, .var 3, .var 4, .var 5, .bin .add (.var 6) (.con (.int .i64 1)), .var 7, .var 8, .var 9, .var 10]) := by kernel_rfl
theorem post : segTo Try.prog (orcFn tabA) 10000 (flA.drop 8) shA [1, 1, 1, 1, 1] shR [] hL = some (.ret, [.fn 24 (EIsL 4) [.var 4, .var 1, .var 2], .ok (.fn 4 [.var 4, .var 1, .var 2] 0), .ok (.fn 4 [.var 4, .var 1, .var 2] 1), .ok (.fn 4 [.var 4, .var 1, .var 2] 2), .ok (.fn 4 [.var 4, .var 1, .var 2] 3), .ok (.fn 4 [.var 4, .var 1, .var 2] 4), .fn 25 (EIsL 5) [.var 5, .var 1, .var 2], .ok (.fn 5 [.var 5, .var 1, .var 2] 0), .ok (.fn 5 [.var 5, .var 1, .var 2] 1), .ok (.fn 5 [.var 5, .var 1, .var 2] 2), .ok (.fn 5 [.var 5, .var 1, .var 2] 3), .ok (.fn 5 [.var 5, .var 1, .var 2] 4), .ok (.op (Op.binOp .eql 50 (Operand.tmp 126) (Operand.tmp 127) 50) 4 [126, 127] [.agg [.fn 4 [.var 4, .var 1, .var 2] 0, .fn 4 [.var 4, .var 1, .var 2] 1, .fn 4 [.var 4, .var 1, .var 2] 2, .fn 4 [.var 4, .var 1, .var 2] 3], .agg [.fn 5 [.var 5, .var 1, .var 2] 0, .fn 5 [.var 5, .var 1, .var 2] 1, .fn 5 [.var 5, .var 1, .var 2] 2, .fn 5 [.var 5, .var 1, .var 2] 3]]), .is (.op (Op.binOp .eql 50 (Operand.tmp 126) (Operand.tmp 127) 50) 4 [126, 127] [.agg [.fn 4 [.var 4, .var 1, .var 2] 0, .fn 4 [.var 4, .var 1, .var 2] 1, .fn 4 [.var 4, .var 1, .var 2] 2, .fn 4 [.var 4, .var 1, .var 2] 3], .agg [.fn 5 [.var 5, .var 1, .var 2] 0, .fn 5 [.var 5, .var 1, .var 2] 1, .fn 5 [.var 5, .var 1, .var 2] 2, .fn 5 [.var 5, .var 1, .var 2] 3]]) (.bool true), .ok (rop ROp.eqB [.fn 4 [.var 4, .var 1, .var 2] 4, .fn 5 [.var 5, .var 1, .var 2] 4]), .is (rop ROp.eqB [.fn 4 [.var 4, .var 1, .var 2] 4, .fn 5 [.var 5, .var 1, .var 2] 4]) (.bool true), .fn 21 (EPutM 2) [.var 4, .var 1, .var 7, .var 8, .var 9, .var 10], .fn 22 (EPutM 3) [.var 5, .var 1, .var 7, .var 8, .var 9, .var 10], .fn 23 (ESmM 6) [.fn 2 [.var 4, .var 1, .var 7, .var 8, .var 9, .var 10] 0, .fn 3 [.var 5, .var 1, .var 7, .var 8, .var 9, .var 10] 0], .is (.fn 6 [.fn 2 [.var 4, .var 1, .var 7, .var 8, .var 9, .var 10] 0, .fn 3 [.var 5, .var 1, .var 7, .var 8, .var 9, .var 10] 0] 0) (.bool true), .fn 19 (ENewM 1) [.var 3], .ok (.len (.fn 1 [.var 3] 0)), .ok (rop ROp.max2 [.var 3, .con (.int .i64 0)]), .ok (.bin .eql (.len (.fn 1 [.var 3] 0)) (rop ROp.max2 [.var 3, .con (.int .i64 0)])), .is (.bin .eql (.len (.fn 1 [.var 3] 0)) (rop ROp.max2 [.var 3, .con (.int .i64 0)])) (.bool true), .ok (.con (.bool true))], [.con (.bool true)]) := by kernel_rfl

abbrev E4 := encK 4 (by decide)
theorem cutA : flA = flA.take 7 ++ .block (blockId (nth flA 7)) (.loop (loopBody (nth flA 7))) :: flA.drop 8 := by kernel_rfl
theorem cutL : lpA = lpA.take 2 ++ .block (blockId (nth lpA 2)) (blockBody (nth lpA 2)) :: lpA.drop 3 := by kernel_rfl
theorem cutB : bdA = bdA.take 6 ++ .block (blockId (nth bdA 6)) (.loop (loopBody (nth bdA 6))) :: [] := by kernel_rfl
def ELaw (k : Nat) : FnE := { k := k, ins := [none, some 4, none, none, none], leaks := [], outs := [none], kinds := [.truth] }
def RL (ps qs : List PV) : Prop := ∃ (l : List (Nat → Nat)) (m : MarkM) (c q n : Int), (∀ f ∈ l, ∀ j, f j < 256) ∧ l.length ≤ 9223372036854775807 ∧ -9223372036854775808 ≤ c ∧ c ≤ 9223372036854775807 ∧ -9223372036854775808 ≤ n ∧ n ≤ 9223372036854775807 ∧ ps = [pRow E4 l, pI m.1, pI m.2.1, pI m.2.2.1, pI m.2.2.2, pI c, pI q, pI n] ∧ qs = [pB true]
theorem fL : ∀ ps q1 q2, RL ps q1 → RL ps q2 → q1 = q2 := by
  rintro ps q1 q2 ⟨_, _, _, _, _, _, _, _, _, _, _, _, rfl⟩ ⟨_, _, _, _, _, _, _, _, _, _, _, _, rfl⟩; rfl
@[simp] theorem kIsL (k : Nat) : (EIsL k).k = k := rfl
noncomputable def G : Fns := fun k => match k with | 1 => spec RNewM | 2 => spec RPutP | 3 => spec RPutM | 4 => spec RIsM | 5 => spec RIsM | 6 => spec RSmM | 7 => spec RTrue | 8 => spec RNewSt | _ => fun _ => none
theorem ranB : isTrue ((theEng Try.prog fil.noOrc 100000).call 18 [] ⟨.nil, 0, []⟩) = true := by kernel_rfl
theorem u1 : ToldF 19 (ENewM 1) (G 1) := toldNewM 1
theorem u2 : ToldF 21 (EPutM 2) (G 2) := toldPutP 2
theorem u3 : ToldF 22 (EPutM 3) (G 3) := toldPutM 3
theorem u4 : ToldF 24 (EIsL 4) (G 4) := told_kinds (toldIsM 4) rfl rfl rfl rfl rfl
theorem u5 : ToldF 25 (EIsL 5) (G 5) := told_kinds (toldIsR 5) rfl rfl rfl rfl rfl
theorem u6 : ToldF 23 (ESmM 6) (G 6) := toldSmM 6
theorem u7 : ToldF 18 (ETrue 7) (G 7) := told_closed 7 fun w => calls_true names_ok mixed_ok fil.noOrc_ok (args := []) ranB w
theorem u8 : ToldF 20 (ENewSt 8) (G 8) := toldNewSt 8
theorem G7 : G 7 [] = some [pB true] := spec_of fTrue ⟨rfl, rfl⟩
theorem G8 : G 8 [] = some [filesP, pRow encM (List.replicate 3 m0), pI 0] := spec_of fNewSt ⟨rfl, rfl⟩
theorem G1 {n : Int} (h : -9223372036854775808 ≤ n) (h2 : n ≤ 1000) : G 1 [pI n] = some [pRow encM (List.replicate n.toNat m0)] := spec_of fNewM ⟨n, h, h2, rfl, rfl⟩
theorem G2 {M : List MarkM} {c : Int} {m : MarkM} (h : M.length = 3) (h1 : -9223372036854775808 ≤ c) (h2 : c ≤ 9223372036854775807) : G 2 [pRow encM M, pI c, pI m.1, pI m.2.1, pI m.2.2.1, pI m.2.2.2] = some [pRow encM (putMk M c m)] ∧ G 3 [pRow encM M, pI c, pI m.1, pI m.2.1, pI m.2.2.1, pI m.2.2.2] = some [pRow encM (putMk M c m)] := ⟨spec_of fPutP ⟨M, c, m, by omega, by omega, h1, h2, rfl, rfl⟩, spec_of fPutM ⟨M, c, m, by omega, h1, h2, rfl, rfl⟩⟩
theorem G4 {M : List MarkM} {c q : Int} (h : M.length = 3) (h1 : -9223372036854775808 ≤ c) (h2 : c ≤ 9223372036854775807) : ∃ (x y z u : Int) (b : Bool), G 4 [pRow encM M, pI c, pI q] = some [pI x, pI y, pI z, pI u, pB b] ∧ G 5 [pRow encM M, pI c, pI q] = some [pI x, pI y, pI z, pI u, pB b] := by
  have : spec RIsM [pRow encM M, pI c, pI q] = some (isQ (isMk M c q)) := spec_of fIsM ⟨M, c, q, by omega, h1, h2, rfl, rfl⟩
  exact ⟨_, _, _, _, _, this, this⟩
theorem G6 {M : List MarkM} (h : M.length = 3) : G 6 [pRow encM M, pRow encM M] = some [pB true] := spec_of fSmM ⟨M, by omega, rfl, rfl⟩
theorem put_len (M : List MarkM) (c : Int) (m : MarkM) : (putMk M c m).length = M.length := by
  unfold putMk; split
  · simp
  · rfl
theorem r_neB (b : Bool) : ropPV .neB [pB b, pB b] = some (pB false) := by cases b <;> rfl
theorem r_eqB (b : Bool) : ropPV .eqB [pB b, pB b] = some (pB true) := by cases b <;> rfl
abbrev stA (l : List (Nat → Nat)) (m : MarkM) (c q n : Int) (M : List MarkM) (i : Nat) : List PV := [pRow E4 l, pI c, pI q, pI n, pRow encM M, pRow encM M, pI (i : Int), pI m.1, pI m.2.1, pI m.2.2.1, pI m.2.2.2]
abbrev stB (l : List (Nat → Nat)) (m : MarkM) (c q n : Int) (M : List MarkM) (i : Nat) (cc : Int) (k : Nat) : List PV := [pRow E4 l, pI c, pI q, pI n, pRow encM M, pRow encM M, pI (i : Int), pI cc, pI (k : Int), pI m.1, pI m.2.1, pI m.2.2.1, pI m.2.2.2]
set_option maxHeartbeats 4000000 in
theorem told (k0 : Nat) : ToldF 7 (ELaw k0) (spec RL) := by
  refine told_by G _ (bodyOf Try.prog 7) Try.func7 (by kernel_rfl) sh0 (by kernel_rfl) ?_ ?_
  · intro ps qs h i hi
    obtain ⟨l, m, c, q, n, _, _, _, _, _, _, rfl, rfl⟩ := of_spec h
    simp [sh0] at hi
    match i, hi with
    | 0, hi => simp at hi
    | 1, hi => exact ⟨_, rfl, rfl⟩
    | 2, hi => exact ⟨_, rfl, rfl⟩
    | 3, hi => exact ⟨_, rfl, rfl⟩
    | 4, hi => exact ⟨_, rfl, rfl⟩
    | 5, hi => exact ⟨_, rfl, rfl⟩
    | 6, hi => exact ⟨_, rfl, rfl⟩
    | 7, hi => exact ⟨_, rfl, rfl⟩
    | i + 8, hi => simp at hi
  · intro C ps qs hF h a w hsh
    obtain ⟨l, ⟨m1, m2, m3, m4⟩, c, q, n, hz, hl, hc1, hc2, hn1, hn2, rfl, rfl⟩ := of_spec h
    show wpL Try.prog flA _ a w
    have fin : ∀ qs a1 w1, qs = [pB true] → InShape C shR qs a1 w1 → (AX.ret = .normal → wpL Try.prog [] (fun e a' w' => (e = .normal ∨ e = .ret) ∧ ∃ sh' ps' es, InShape C sh' ps' a' w' ∧ resTo Try.prog Try.f7 sh' (ELaw k0) = some es ∧ evs (fun i => ps'[i]?) G es = some [pB true]) a1 w1) ∧ (AX.ret ≠ .normal → (AX.ret.to = .normal ∨ AX.ret.to = .ret) ∧ ∃ sh' ps' es, InShape C sh' ps' a1 w1 ∧ resTo Try.prog Try.f7 sh' (ELaw k0) = some es ∧ evs (fun i => ps'[i]?) G es = some [pB true]) := by
      rintro qs a1 w1 rfl h1
      exact ⟨fun h => (by cases h), fun _ => ⟨.inr rfl, shR, _, [SX.var 0], h1, by kernel_rfl, rfl⟩⟩
    by_cases hl1 : 20 < l.length
    · rw [← List.append_nil flA]
      refine seg_ok names_ok mixed_ok (orcFn_ok _) q1 hsh ?_ (fun qs a1 w1 hq h1 => fin qs a1 w1 (by simp [evs, SX.ev] at hq; exact hq.symm) h1)
      simp only [List.mem_cons, List.not_mem_nil, or_false, forall_eq_or_imp, forall_eq]
      simp [holds_idxP, holds_cellsP, Base.ev, SX.ev, evs, Value.oneCell', hF, lenPV_row, binPV, G7, u7]
      omega
    by_cases hn3 : 50 < n
    · rw [← List.append_nil flA]
      refine seg_ok names_ok mixed_ok (orcFn_ok _) q2 hsh ?_ (fun qs a1 w1 hq h1 => fin qs a1 w1 (by simp [evs, SX.ev] at hq; exact hq.symm) h1)
      simp only [List.mem_cons, List.not_mem_nil, or_false, forall_eq_or_imp, forall_eq]
      simp [holds_idxP, holds_cellsP, Base.ev, SX.ev, evs, Value.oneCell', hF, lenPV_row, binPV, G7, u7]
      omega
    rw [cutA]
    have g1 := G1 (n := 3) (by omega) (by omega)
    have hr3 : List.replicate (3 : Int).toNat m0 = List.replicate 3 m0 := rfl
    rw [hr3] at g1
    have g8 := G8
    have hM0 : (List.replicate 3 m0).length = 3 := rfl
    generalize List.replicate 3 m0 = M0 at *
    generalize filesP = fp at *
    refine seg_ok names_ok mixed_ok (orcFn_ok _) pre hsh ?_ ?_
    · simp only [List.mem_cons, List.not_mem_nil, or_false, forall_eq_or_imp, forall_eq]
      simp [holds_idxP, holds_cellsP, Base.ev, SX.ev, evs, Value.oneCell', hF, lenPV_row, binPV, G7, u7, g1, g8, u1, u8]
      omega
    intro qs a1 w1 hq h1
    refine ⟨fun _ => ?_, fun h => absurd rfl h⟩
    simp [evs, SX.ev, hF, g1, g8] at hq
    subst hq
    refine block_loop (fun q' a w => ∃ (i : Nat) (M : List MarkM), i ≤ l.length ∧ q' = l.length - i ∧ M.length = 3 ∧ InShape C shA (stA l (m1, m2, m3, m4) c q n M i) a w) ?_ (n := l.length) ⟨0, M0, by omega, by omega, hM0, h1⟩
    rintro q' a w ⟨i, M, hi, rfl, hM, hin⟩
    show wpL Try.prog lpA _ a w
    by_cases hlt : i < l.length
    · have hzi := hz _ (List.getElem_mem hlt)
      have c0 : cellPV (pRow E4 l) (pI (i : Int)) 4 0 = some (pU (l[i] 0 : Int)) := cellK 4 _ l i hlt 0 (by omega)
      have c1 : cellPV (pRow E4 l) (pI (i : Int)) 4 1 = some (pU (l[i] 1 : Int)) := cellK 4 _ l i hlt 1 (by omega)
      have c2 : cellPV (pRow E4 l) (pI (i : Int)) 4 2 = some (pU (l[i] 2 : Int)) := cellK 4 _ l i hlt 2 (by omega)
      have c3 : cellPV (pRow E4 l) (pI (i : Int)) 4 3 = some (pU (l[i] 3 : Int)) := cellK 4 _ l i hlt 3 (by omega)
      have i1 := idxP_row E4 l i 4 1 .i64 rfl hlt (by decide)
      have i2 := idxP_row E4 l i 4 2 .i64 rfl hlt (by decide)
      have i3 := idxP_row E4 l i 4 3 .i64 rfl hlt (by decide)
      have i4 := idxP_row E4 l i 4 4 .i64 rfl hlt (by decide)
      have v3 : IntKind.i64.wrap ((i : Int) + 1) = (i : Int) + 1 := wrapI _ (by omega) (by omega)
      have wc : ∀ z : Nat, z < 256 → IntKind.i64.wrap (z : Int) = (z : Int) := fun z hz => wrapI _ (by omega) (by omega)
      generalize l[i] = f at *
      obtain ⟨x0, h0⟩ : ∃ x0 : Nat, f 0 % 5 = x0 := ⟨_, rfl⟩
      obtain ⟨x1, h1'⟩ : ∃ x1 : Nat, f 1 % 9 = x1 := ⟨_, rfl⟩
      obtain ⟨x2, h2'⟩ : ∃ x2 : Nat, f 2 % 3 = x2 := ⟨_, rfl⟩
      obtain ⟨x3, h3'⟩ : ∃ x3 : Nat, f 3 % 7 = x3 := ⟨_, rfl⟩
      have t0 : (f 0 : Int).tmod 5 = (x0 : Int) := by rw [← h0]; rfl
      have t1 : (f 1 : Int).tmod 9 = (x1 : Int) := by rw [← h1']; rfl
      have t2 : (f 2 : Int).tmod 3 = (x2 : Int) := by rw [← h2']; rfl
      have t3 : (f 3 : Int).tmod 7 = (x3 : Int) := by rw [← h3']; rfl
      have wx0 := wc x0 (by omega)
      have wx1 := wc x1 (by omega)
      have wx2 := wc x2 (by omega)
      have wx3 := wc x3 (by omega)
      obtain ⟨cc, hcc⟩ : ∃ cc : Int, (x0 : Int) - 1 = cc := ⟨_, rfl⟩
      have wcc : IntKind.i64.wrap ((x0 : Int) - 1) = cc := by rw [wrapI _ (by omega) (by omega), hcc]
      have hcc1 : -9223372036854775808 ≤ cc := by omega
      have hcc2 : cc ≤ 9223372036854775807 := by omega
      obtain ⟨e2, e3⟩ := G2 (m := ((x1 : Int), (x2 : Int), (x3 : Int), (i : Int))) hM hcc1 hcc2
      have hM2 : (putMk M cc ((x1 : Int), (x2 : Int), (x3 : Int), (i : Int))).length = 3 := by rw [put_len]; exact hM
      simp only at e2 e3
      generalize putMk M cc ((x1 : Int), (x2 : Int), (x3 : Int), (i : Int)) = M2 at *
      have e6 := G6 hM2
      let Q : Exit → Act → World → Prop := fun e a' w' => (e = .normal ∧ ∃ n', n' < l.length - i ∧ ∃ (j : Nat) (M : List MarkM), j ≤ l.length ∧ n' = l.length - j ∧ M.length = 3 ∧ InShape C shA (stA l (m1, m2, m3, m4) c q n M j) a' w') ∨ (e = .exit (blockId (nth flA 7)) ∧ wpL Try.prog (flA.drop 8) (fun e a' w' => (e = .normal ∨ e = .ret) ∧ ∃ sh' ps' es, InShape C sh' ps' a' w' ∧ resTo Try.prog Try.f7 sh' (ELaw k0) = some es ∧ evs (fun i => ps'[i]?) G es = some [pB true]) a' w') ∨ (e = .ret ∧ (((Exit.ret = .normal) ∨ Exit.ret = .ret) ∧ ∃ sh' ps' es, InShape C sh' ps' a' w' ∧ resTo Try.prog Try.f7 sh' (ELaw k0) = some es ∧ evs (fun i => ps'[i]?) G es = some [pB true]))
      have stp' : ∀ a w, InShape C shA (stA l (m1, m2, m3, m4) c q n M2 i) a w → wpL Try.prog (lpA.drop 3) Q a w := by
        intro a w hin
        rw [← List.append_nil (lpA.drop 3)]
        refine seg_ok names_ok mixed_ok (orcFn_ok _) stp hin ?_ ?_
        · simp only [List.mem_cons, List.not_mem_nil, or_false, forall_eq_or_imp, forall_eq]
          simp [holds_idxP, holds_cellsP, Base.ev, SX.ev, evs, Value.oneCell', binPV, v3]
        · intro qs a1 w1 hq h1
          refine ⟨fun _ => .inl ⟨rfl, l.length - (i + 1), by omega, i + 1, M2, by omega, rfl, hM2, ?_⟩, fun h => absurd rfl h⟩
          simp [evs, SX.ev, binPV, v3] at hq
          subst hq
          exact h1
      have main : wpL Try.prog lpA Q a w := by
        rw [cutL]
        refine seg_ok names_ok mixed_ok (orcFn_ok _) hd hin ?_ ?_
        · simp only [List.mem_cons, List.not_mem_nil, or_false, forall_eq_or_imp, forall_eq]
          simp [holds_idxP, holds_cellsP, Base.ev, SX.ev, evs, Value.oneCell', lenPV_row, binPV]
          exact hlt
        intro qs a1 w1 hq h1
        refine ⟨fun _ => ?_, fun h => absurd rfl h⟩
        simp [evs, SX.ev] at hq
        subst hq
        refine block_in ?_
        show wpL Try.prog bdA _ a1 w1
        rw [cutB]
        refine seg_ok names_ok mixed_ok (orcFn_ok _) bd h1 ?_ ?_
        · simp only [List.mem_cons, List.not_mem_nil, or_false, forall_eq_or_imp, forall_eq]
          simp [holds_idxP, holds_cellsP, Base.ev, SX.ev, evs, Value.oneCell', hF, binPV, convPV, c0, c1, c2, c3, i1, i2, i3, i4, t0, t1, t2, t3, wx0, wx1, wx2, wx3, wcc, e2, e3, e6, u2, u3, u6]
        intro qs a2 w2 hq h2
        refine ⟨fun _ => ?_, fun h => absurd rfl h⟩
        simp [evs, SX.ev, hF, binPV, convPV, c0, c1, c2, c3, t0, t1, t2, t3, wx0, wx1, wx2, wx3, wcc, e2, e3] at hq
        subst hq
        refine block_loop (fun q' a w => ∃ k : Nat, k ≤ 9 ∧ q' = 9 - k ∧ InShape C shB (stB l (m1, m2, m3, m4) c q n M2 i cc k) a w) ?_ (n := 9) ⟨0, by omega, by omega, h2⟩
        rintro q' a w ⟨k, hk, rfl, hin⟩
        show wpL Try.prog lpB _ a w
        rw [← List.append_nil lpB]
        by_cases hk9 : k < 9
        · obtain ⟨x, y, z, u, b, e4, e5⟩ := G4 (q := (k : Int)) hM2 hcc1 hcc2
          have nq := mark_neq 4 104 105 rfl x y z u
          have rn := r_neB b
          have vk : IntKind.i64.wrap ((k : Int) + 1) = (k : Int) + 1 := wrapI _ (by omega) (by omega)
          refine seg_ok names_ok mixed_ok (orcFn_ok _) ib hin ?_ ?_
          · simp only [List.mem_cons, List.not_mem_nil, or_false, forall_eq_or_imp, forall_eq]
            simp [holds_idxP, holds_cellsP, Base.ev, SX.ev, evs, Value.oneCell', hF, binPV, plainL, PV.plain, vk, e4, e5, nq, rn, u4, u5]
            omega
          · intro qs a3 w3 hq h3
            refine ⟨fun _ => .inl ⟨rfl, 9 - (k + 1), by omega, k + 1, by omega, rfl, ?_⟩, fun h => absurd rfl h⟩
            simp [evs, SX.ev, binPV, vk] at hq
            subst hq
            exact h3
        · refine seg_ok names_ok mixed_ok (orcFn_ok _) ix hin ?_ ?_
          · simp only [List.mem_cons, List.not_mem_nil, or_false, forall_eq_or_imp, forall_eq]
            simp [holds_idxP, holds_cellsP, Base.ev, SX.ev, evs, Value.oneCell', binPV]
            omega
          · intro qs a3 w3 hq h3
            refine ⟨fun h => (by cases h), fun _ => .inr (.inl ⟨by rw [show blockId (nth bdA 6) = 2 by kernel_rfl]; rfl, ?_⟩)⟩
            simp [evs, SX.ev] at hq
            subst hq
            exact .inl ⟨rfl, stp' a3 w3 h3⟩
      exact main
    · have hie : i = l.length := by omega
      subst hie
      rw [← List.append_nil lpA]
      refine seg_ok names_ok mixed_ok (orcFn_ok _) ex hin ?_ ?_
      · simp only [List.mem_cons, List.not_mem_nil, or_false, forall_eq_or_imp, forall_eq]
        simp [holds_idxP, holds_cellsP, Base.ev, SX.ev, evs, Value.oneCell', lenPV_row, binPV]
      · intro qs a1 w1 hq h1
        refine ⟨fun h => (by cases h), fun _ => .inr (.inl ⟨by rw [show blockId (nth flA 7) = 0 by kernel_rfl]; rfl, ?_⟩)⟩
        simp [evs, SX.ev] at hq
        subst hq
        rw [← List.append_nil (flA.drop 8)]
        obtain ⟨x, y, z, u, b, e4, e5⟩ := G4 (q := q) hM hc1 hc2
        have nq := mark_eql 4 126 127 rfl x y z u
        have rq := r_eqB b
        obtain ⟨e2, e3⟩ := G2 (m := (m1, m2, m3, m4)) hM hc1 hc2
        have hM2 : (putMk M c (m1, m2, m3, m4)).length = 3 := by rw [put_len]; exact hM
        simp only at e2 e3
        generalize putMk M c (m1, m2, m3, m4) = M2 at *
        have e6 := G6 hM2
        have e1 := G1 hn1 (by omega)
        have hrl : (List.replicate n.toNat m0).length = n.toNat := by simp
        have hmx : ((n.toNat : Nat) : Int) = max n 0 := by omega
        have rm := r_max n 0
        generalize List.replicate n.toNat m0 = R at *
        refine seg_ok names_ok mixed_ok (orcFn_ok _) post h1 ?_ (fun qs a1 w1 hq h1 => fin qs a1 w1 (by simp [evs, SX.ev] at hq; exact hq.symm) h1)
        simp only [List.mem_cons, List.not_mem_nil, or_false, forall_eq_or_imp, forall_eq]
        simp [holds_idxP, holds_cellsP, Base.ev, SX.ev, evs, Value.oneCell', hF, lenPV_row, binPV, plainL, PV.plain, e4, e5, nq, rq, e2, e3, e6, e1, hrl, hmx, rm, u1, u2, u3, u4, u5, u6]
theorem walk (w : World) (v : Value) (len : Nat) (Z : Nat → Nat → Int) (h : IsGrid 4 w v len Z) (cs : List Value) (hc : LKs [.int .i64, .int .i64, .int .i64, .int .i64] cs) (c : Int) (wc : (Lit.int .i64 c).wf = true) (q : Int) (wq : (Lit.int .i64 q).wf = true) (n : Int) (wn : (Lit.int .i64 n).wf = true) :
    Calls Try.prog 7 #[v, .agg cs.toArray, .int .i64 c, .int .i64 q, .int .i64 n] w fun e w' => e = .returned (.bool true) ∧ Ex w w' := by
  obtain ⟨l, hb, hr⟩ := gridK (by decide) h
  obtain ⟨hcl, hck⟩ := hc
  match cs, hcl with
  | [x0, x1, x2, x3], _ =>
    obtain ⟨m1, rfl, _⟩ := hck 0 _ x0 rfl rfl
    obtain ⟨m2, rfl, _⟩ := hck 1 _ x1 rfl rfl
    obtain ⟨m3, rfl, _⟩ := hck 2 _ x2 rfl rfl
    obtain ⟨m4, rfl, _⟩ := hck 3 _ x3 rfl rfl
    obtain ⟨c1, c2⟩ := bounds_i64 wc
    obtain ⟨n1, n2⟩ := bounds_i64 wn
    have hl : l.length ≤ 9223372036854775807 := reads_len hr
    refine told_true (told 0) rfl (us := [v, .int .i64 m1, .int .i64 m2, .int .i64 m3, .int .i64 m4, .int .i64 c, .int .i64 q, .int .i64 n]) (ps := [pRow E4 l, pI m1, pI m2, pI m3, pI m4, pI c, pI q, pI n]) (spec_of fL ⟨l, (m1, m2, m3, m4), c, q, n, hb, hl, c1, c2, n1, n2, rfl, rfl⟩) rfl rfl (fun i p u hp hu => ?_)
    match i, hp, hu with
    | 0, hp, hu => simp at hp hu; subst hp; subst hu; exact hr
    | 1, hp, hu => simp at hp hu; subst hp; subst hu; exact plainReads rfl
    | 2, hp, hu => simp at hp hu; subst hp; subst hu; exact plainReads rfl
    | 3, hp, hu => simp at hp hu; subst hp; subst hu; exact plainReads rfl
    | 4, hp, hu => simp at hp hu; subst hp; subst hu; exact plainReads rfl
    | 5, hp, hu => simp at hp hu; subst hp; subst hu; exact plainReads rfl
    | 6, hp, hu => simp at hp hu; subst hp; subst hu; exact plainReads rfl
    | 7, hp, hu => simp at hp hu; subst hp; subst hu; exact plainReads rfl
    | i + 8, hp, hu => simp at hp
end Go.Proofs.Ytegfdigljpnhcaa.markAll
