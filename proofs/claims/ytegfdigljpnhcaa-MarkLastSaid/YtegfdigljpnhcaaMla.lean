/- MarkLast by the symbolic engine. -/
import Derived.Test.YtegfdigljpnhcaaMkc
import Derived.Test.YtegfdigljpnhcaaGrd
namespace Go.Proofs.Ytegfdigljpnhcaa.markLast
open Go Go.RowKit eng SX Fact fil sta grd
set_option linter.unusedVariables false
set_option linter.unusedSimpArgs false
set_option maxRecDepth 1000000

def tabA (f : FuncId) : Option FnE := cond (Nat.beq f 19) (some (ENewM 1)) (cond (Nat.beq f 21) (some (EPutM 2)) (cond (Nat.beq f 24) (some (EIsM 4)) (cond (Nat.beq f 18) (some (ETrue 7)) none)))
noncomputable def flA := flat (bodyOf Try.prog 8)
noncomputable def lpA := flat (loopBody (nth flA 8))
noncomputable def bdA := flat (blockBody (nth lpA 2))
noncomputable def lpB := flat (loopBody (nth bdA 4))
noncomputable def bdB := flat (blockBody (nth lpB 2))
noncomputable def lpC := flat (loopBody (nth bdB 1))
def lbox : BoxT := ⟨64, 0, false, [.leaf, .leaf, .leaf, .leaf], none, false⟩
def sh0 : Shape := ⟨[(0, .leaf)], [], [some false], 91, 8⟩
def shA : Shape := ⟨[(0, .leaf), (3, .leaf), (4, .ptr 0 0 0 0), (5, .leaf)], [lbox], [some false, some true, none, none, none, none, none], 91, 8⟩
def shB : Shape := ⟨[(0, .leaf), (3, .leaf), (4, .ptr 0 0 0 0), (5, .leaf), (8, .leaf)], [lbox], [some false, some true, none, none, none, none, none, none], 91, 8⟩
def shC : Shape := ⟨[(0, .leaf), (3, .leaf), (4, .ptr 0 0 0 0), (5, .leaf), (8, .leaf), (9, .leaf)], [lbox], [some false, some true, none, none, none, none, none, none, none], 91, 8⟩
def shR : Shape := ⟨[(2, .leaf)], [], [none], 91, 8⟩
theorem q1 : segTo Try.prog (orcFn tabA) 10000 flA sh0 [1, 1] shR [] = some (.ret, [.fn 18 (ETrue 7) [], .is (.fn 7 [] 0) (.bool true), .ok (.len (.var 0)), .ok (.bin .gtr (.len (.var 0)) (.con (.int .i64 20))), .is (.bin .gtr (.len (.var 0)) (.con (.int .i64 20))) (.bool true), .ok (.con (.bool true))], [.con (.bool true)]) := by kernel_rfl
theorem pre : segTo Try.prog (orcFn tabA) 10000 (flA.take 8) sh0 [1, 0] shA [(2, 0)] = some (.normal, [.fn 18 (ETrue 7) [], .is (.fn 7 [] 0) (.bool true), .ok (.len (.var 0)), .ok (.bin .gtr (.len (.var 0)) (.con (.int .i64 20))), .is (.bin .gtr (.len (.var 0)) (.con (.int .i64 20))) (.bool false), .fn 19 (ENewM 1) [.con (.int .i64 3)], .ok (.con (.int .i64 0)), .ok (.con (.int .i64 0)), .ok (.con (.int .i64 0)), .ok (.con (.int .i64 0)), .ok (.con (.int .i64 0))], [.var 0, .fn 1 [.con (.int .i64 3)] 0, .con (.int .i64 0), .con (.int .i64 0), .con (.int .i64 0), .con (.int .i64 0), .con (.int .i64 0)]) := by kernel_rfl
theorem hd : segTo Try.prog (orcFn tabA) 10000 (lpA.take 2) shA [1] shA [(0, 0)] = some (.normal, [.ok (.len (.var 0)), .ok (.bin .lss (.var 2) (.len (.var 0))), .is (.bin .lss (.var 2) (.len (.var 0))) (.bool true), .ok (.var 2), .ok (.var 3), .ok (.var 4), .ok (.var 5), .ok (.var 6)], [.var 0, .var 1, .var 2, .var 3, .var 4, .var 5, .var 6]) := by kernel_rfl
theorem ex : segTo Try.prog (orcFn tabA) 10000 lpA shA [0] shA [(0, 0)] = some (.exit 0, [.ok (.len (.var 0)), .ok (.bin .lss (.var 2) (.len (.var 0))), .is (.bin .lss (.var 2) (.len (.var 0))) (.bool false), .ok (.var 2), .ok (.var 3), .ok (.var 4), .ok (.var 5), .ok (.var 6)], [.var 0, .var 1, .var 2, .var 3, .var 4, .var 5, .var 6]) := by kernel_rfl
theorem bd1 : segTo Try.prog (orcFn tabA) 10000 (bdA.take 4) shA [1, 1] shB [(0, 0)] = some (.normal, [.idx (.var 0) (.var 2) 2 2, .idx (.var 0) (.var 2) 2 1, .ok (.cell (.var 0) (.var 2) 2 0), .ok (.bin .rem (.cell (.var 0) (.var 2) 2 0) (.con (.int .u8 3))), .ok (.conv .i64 (.bin .rem (.cell (.var 0) (.var 2) 2 0) (.con (.int .u8 3)))), .ok (.bin .add (.con (.int .i64 1)) (.conv .i64 (.bin .rem (.cell (.var 0) (.var 2) 2 0) (.con (.int .u8 3))))), .idx (.var 0) (.var 2) 2 2, .idx (.var 0) (.var 2) 2 2, .ok (.cell (.var 0) (.var 2) 2 1), .ok (.bin .rem (.cell (.var 0) (.var 2) 2 1) (.con (.int .u8 20))), .ok (.conv .i64 (.bin .rem (.cell (.var 0) (.var 2) 2 1) (.con (.int .u8 20)))), .ok (.bin .add (.var 2) (.con (.int .i64 1))), .fn 21 (EPutM 2) [.var 1, .bin .add (.con (.int .i64 1)) (.conv .i64 (.bin .rem (.cell (.var 0) (.var 2) 2 0) (.con (.int .u8 3)))), .conv .i64 (.bin .rem (.cell (.var 0) (.var 2) 2 1) (.con (.int .u8 20))), .con (.int .i64 0), .con (.int .i64 0), .bin .add (.var 2) (.con (.int .i64 1))], Fact.at (.bin .add (.con (.int .i64 1)) (.conv .i64 (.bin .rem (.cell (.var 0) (.var 2) 2 0) (.con (.int .u8 3))))) 1, .ok (rop ROp.max2 [.var 4, .conv .i64 (.bin .rem (.cell (.var 0) (.var 2) 2 1) (.con (.int .u8 20)))]), Fact.at (.bin .add (.con (.int .i64 1)) (.conv .i64 (.bin .rem (.cell (.var 0) (.var 2) 2 0) (.con (.int .u8 3))))) 1, .ok (.var 2), .ok (.con (.int .i64 1)), .ok (.var 3), .ok (rop ROp.max2 [.var 4, .conv .i64 (.bin .rem (.cell (.var 0) (.var 2) 2 1) (.con (.int .u8 20)))]), .ok (.var 5), .ok (.var 6)], [.var 0, .fn 2 [.var 1, .bin .add (.con (.int .i64 1)) (.conv .i64 (.bin .rem (.cell (.var 0) (.var 2) 2 0) (.con (.int .u8 3)))), .conv .i64 (.bin .rem (.cell (.var 0) (.var 2) 2 1) (.con (.int .u8 20))), .con (.int .i64 0), .con (.int .i64 0), .bin .add (.var 2) (.con (.int .i64 1))] 0, .var 2, .con (.int .i64 1), .var 3, rop ROp.max2 [.var 4, .conv .i64 (.bin .rem (.cell (.var 0) (.var 2) 2 1) (.con (.int .u8 20)))], .var 5, .var 6]) := by kernel_rfl
theorem bd2 : segTo Try.prog (orcFn tabA) 10000 (bdA.take 4) shA [2, 2] shB [(0, 0)] = some (.normal, [.idx (.var 0) (.var 2) 2 2, .idx (.var 0) (.var 2) 2 1, .ok (.cell (.var 0) (.var 2) 2 0), .ok (.bin .rem (.cell (.var 0) (.var 2) 2 0) (.con (.int .u8 3))), .ok (.conv .i64 (.bin .rem (.cell (.var 0) (.var 2) 2 0) (.con (.int .u8 3)))), .ok (.bin .add (.con (.int .i64 1)) (.conv .i64 (.bin .rem (.cell (.var 0) (.var 2) 2 0) (.con (.int .u8 3))))), .idx (.var 0) (.var 2) 2 2, .idx (.var 0) (.var 2) 2 2, .ok (.cell (.var 0) (.var 2) 2 1), .ok (.bin .rem (.cell (.var 0) (.var 2) 2 1) (.con (.int .u8 20))), .ok (.conv .i64 (.bin .rem (.cell (.var 0) (.var 2) 2 1) (.con (.int .u8 20)))), .ok (.bin .add (.var 2) (.con (.int .i64 1))), .fn 21 (EPutM 2) [.var 1, .bin .add (.con (.int .i64 1)) (.conv .i64 (.bin .rem (.cell (.var 0) (.var 2) 2 0) (.con (.int .u8 3)))), .conv .i64 (.bin .rem (.cell (.var 0) (.var 2) 2 1) (.con (.int .u8 20))), .con (.int .i64 0), .con (.int .i64 0), .bin .add (.var 2) (.con (.int .i64 1))], Fact.at (.bin .add (.con (.int .i64 1)) (.conv .i64 (.bin .rem (.cell (.var 0) (.var 2) 2 0) (.con (.int .u8 3))))) 2, .ok (rop ROp.max2 [.var 5, .conv .i64 (.bin .rem (.cell (.var 0) (.var 2) 2 1) (.con (.int .u8 20)))]), Fact.at (.bin .add (.con (.int .i64 1)) (.conv .i64 (.bin .rem (.cell (.var 0) (.var 2) 2 0) (.con (.int .u8 3))))) 2, .ok (.var 2), .ok (.con (.int .i64 1)), .ok (.var 3), .ok (.var 4), .ok (rop ROp.max2 [.var 5, .conv .i64 (.bin .rem (.cell (.var 0) (.var 2) 2 1) (.con (.int .u8 20)))]), .ok (.var 6)], [.var 0, .fn 2 [.var 1, .bin .add (.con (.int .i64 1)) (.conv .i64 (.bin .rem (.cell (.var 0) (.var 2) 2 0) (.con (.int .u8 3)))), .conv .i64 (.bin .rem (.cell (.var 0) (.var 2) 2 1) (.con (.int .u8 20))), .con (.int .i64 0), .con (.int .i64 0), .bin .add (.var 2) (.con (.int .i64 1))] 0, .var 2, .con (.int .i64 1), .var 3, .var 4, rop ROp.max2 [.var 5, .conv .i64 (.bin .rem (.cell (.var 0) (.var 2) 2 1) (.con (.int .u8 20)))], .var 6]) := by kernel_rfl
theorem bd3 : segTo Try.prog (orcFn tabA) 10000 (bdA.take 4) shA [3, 3] shB [(0, 0)] = some (.normal, [.idx (.var 0) (.var 2) 2 2, .idx (.var 0) (.var 2) 2 1, .ok (.cell (.var 0) (.var 2) 2 0), .ok (.bin .rem (.cell (.var 0) (.var 2) 2 0) (.con (.int .u8 3))), .ok (.conv .i64 (.bin .rem (.cell (.var 0) (.var 2) 2 0) (.con (.int .u8 3)))), .ok (.bin .add (.con (.int .i64 1)) (.conv .i64 (.bin .rem (.cell (.var 0) (.var 2) 2 0) (.con (.int .u8 3))))), .idx (.var 0) (.var 2) 2 2, .idx (.var 0) (.var 2) 2 2, .ok (.cell (.var 0) (.var 2) 2 1), .ok (.bin .rem (.cell (.var 0) (.var 2) 2 1) (.con (.int .u8 20))), .ok (.conv .i64 (.bin .rem (.cell (.var 0) (.var 2) 2 1) (.con (.int .u8 20)))), .ok (.bin .add (.var 2) (.con (.int .i64 1))), .fn 21 (EPutM 2) [.var 1, .bin .add (.con (.int .i64 1)) (.conv .i64 (.bin .rem (.cell (.var 0) (.var 2) 2 0) (.con (.int .u8 3)))), .conv .i64 (.bin .rem (.cell (.var 0) (.var 2) 2 1) (.con (.int .u8 20))), .con (.int .i64 0), .con (.int .i64 0), .bin .add (.var 2) (.con (.int .i64 1))], Fact.at (.bin .add (.con (.int .i64 1)) (.conv .i64 (.bin .rem (.cell (.var 0) (.var 2) 2 0) (.con (.int .u8 3))))) 3, .ok (rop ROp.max2 [.var 6, .conv .i64 (.bin .rem (.cell (.var 0) (.var 2) 2 1) (.con (.int .u8 20)))]), Fact.at (.bin .add (.con (.int .i64 1)) (.conv .i64 (.bin .rem (.cell (.var 0) (.var 2) 2 0) (.con (.int .u8 3))))) 3, .ok (.var 2), .ok (.con (.int .i64 1)), .ok (.var 3), .ok (.var 4), .ok (.var 5), .ok (rop ROp.max2 [.var 6, .conv .i64 (.bin .rem (.cell (.var 0) (.var 2) 2 1) (.con (.int .u8 20)))])], [.var 0, .fn 2 [.var 1, .bin .add (.con (.int .i64 1)) (.conv .i64 (.bin .rem (.cell (.var 0) (.var 2) 2 0) (.con (.int .u8 3)))), .conv .i64 (.bin .rem (.cell (.var 0) (.var 2) 2 1) (.con (.int .u8 20))), .con (.int .i64 0), .con (.int .i64 0), .bin .add (.var 2) (.con (.int .i64 1))] 0, .var 2, .con (.int .i64 1), .var 3, .var 4, .var 5, rop ROp.max2 [.var 6, .conv .i64 (.bin .rem (.cell (.var 0) (.var 2) 2 1) (.con (.int .u8 20)))]]) := by kernel_rfl
theorem bhd : segTo Try.prog (orcFn tabA) 10000 (lpB.take 2) shB [1] shB [(0, 0)] = some (.normal, [.ok (.bin .leq (.var 3) (.con (.int .i64 3))), .is (.bin .leq (.var 3) (.con (.int .i64 3))) (.bool true), .ok (.var 2), .ok (.var 3), .ok (.var 4), .ok (.var 5), .ok (.var 6), .ok (.var 7)], [.var 0, .var 1, .var 2, .var 3, .var 4, .var 5, .var 6, .var 7]) := by kernel_rfl
theorem bex : segTo Try.prog (orcFn tabA) 10000 lpB shB [0] shA [(0, 0)] = some (.exit 2, [.ok (.bin .leq (.var 3) (.con (.int .i64 3))), .is (.bin .leq (.var 3) (.con (.int .i64 3))) (.bool false), .ok (.var 2), .ok (.var 4), .ok (.var 5), .ok (.var 6), .ok (.var 7)], [.var 0, .var 1, .var 2, .var 4, .var 5, .var 6, .var 7]) := by kernel_rfl
theorem b0 : segTo Try.prog (orcFn tabA) 10000 (bdB.take 1) shB [] shC [(0, 0)] = some (.normal, [.ok (.var 2), .ok (.var 3), .ok (.con (.int .i64 0)), .ok (.var 4), .ok (.var 5), .ok (.var 6), .ok (.var 7)], [.var 0, .var 1, .var 2, .var 3, .con (.int .i64 0), .var 4, .var 5, .var 6, .var 7]) := by kernel_rfl
theorem cex : segTo Try.prog (orcFn tabA) 10000 lpC shC [0] shB [(0, 0)] = some (.exit 4, [.ok (.bin .lss (.var 4) (.con (.int .i64 20))), .is (.bin .lss (.var 4) (.con (.int .i64 20))) (.bool false), .ok (.var 2), .ok (.var 3), .ok (.var 5), .ok (.var 6), .ok (.var 7), .ok (.var 8)], [.var 0, .var 1, .var 2, .var 3, .var 5, .var 6, .var 7, .var 8]) := by kernel_rfl
theorem y1 : segTo Try.prog (orcFn tabA) 10000 lpC shC [1, 1, 1, 1, 1, 0] shC [(0, 0)] = some (.normal, [.ok (.bin .lss (.var 4) (.con (.int .i64 20))), .is (.bin .lss (.var 4) (.con (.int .i64 20))) (.bool true), .fn 24 (EIsM 4) [.var 1, .var 3, .var 4], .ok (.fn 4 [.var 1, .var 3, .var 4] 0), .ok (.fn 4 [.var 1, .var 3, .var 4] 1), .ok (.fn 4 [.var 1, .var 3, .var 4] 2), .ok (.fn 4 [.var 1, .var 3, .var 4] 3), .is (.fn 4 [.var 1, .var 3, .var 4] 4) (.bool true), Fact.at (.var 3) 1, .ok (.bin .eql (.var 4) (.var 6)), .is (.bin .eql (.var 4) (.var 6)) (.bool true), .ok (.bin .gtr (.var 4) (.con (.int .i64 0))), .is (.bin .gtr (.var 4) (.con (.int .i64 0))) (.bool true), .ok (.bin .neq (.fn 4 [.var 1, .var 3, .var 4] 0) (.var 4)), .is (.bin .neq (.fn 4 [.var 1, .var 3, .var 4] 0) (.var 4)) (.bool false), .ok (.bin .add (.var 4) (.con (.int .i64 1))), .ok (.var 2), .ok (.var 3), .ok (.bin .add (.var 4) (.con (.int .i64 1))), .ok (.var 5), .ok (.var 6), .ok (.var 7), .ok (.var 8)], [.var 0, .var 1, .var 2, .var 3, .bin .add (.var 4) (.con (.int .i64 1)), .var 5, .var 6, .var 7, .var 8]) := by kernel_rfl
theorem y2 : segTo Try.prog (orcFn tabA) 10000 lpC shC [1, 1, 2, 1, 1, 0] shC [(0, 0)] = some (.normal, [.ok (.bin .lss (.var 4) (.con (.int .i64 20))), .is (.bin .lss (.var 4) (.con (.int .i64 20))) (.bool true), .fn 24 (EIsM 4) [.var 1, .var 3, .var 4], .ok (.fn 4 [.var 1, .var 3, .var 4] 0), .ok (.fn 4 [.var 1, .var 3, .var 4] 1), .ok (.fn 4 [.var 1, .var 3, .var 4] 2), .ok (.fn 4 [.var 1, .var 3, .var 4] 3), .is (.fn 4 [.var 1, .var 3, .var 4] 4) (.bool true), Fact.at (.var 3) 2, .ok (.bin .eql (.var 4) (.var 7)), .is (.bin .eql (.var 4) (.var 7)) (.bool true), .ok (.bin .gtr (.var 4) (.con (.int .i64 0))), .is (.bin .gtr (.var 4) (.con (.int .i64 0))) (.bool true), .ok (.bin .neq (.fn 4 [.var 1, .var 3, .var 4] 0) (.var 4)), .is (.bin .neq (.fn 4 [.var 1, .var 3, .var 4] 0) (.var 4)) (.bool false), .ok (.bin .add (.var 4) (.con (.int .i64 1))), .ok (.var 2), .ok (.var 3), .ok (.bin .add (.var 4) (.con (.int .i64 1))), .ok (.var 5), .ok (.var 6), .ok (.var 7), .ok (.var 8)], [.var 0, .var 1, .var 2, .var 3, .bin .add (.var 4) (.con (.int .i64 1)), .var 5, .var 6, .var 7, .var 8]) := by kernel_rfl
theorem y3 : segTo Try.prog (orcFn tabA) 10000 lpC shC [1, 1, 3, 1, 1, 0] shC [(0, 0)] = some (.normal, [.ok (.bin .lss (.var 4) (.con (.int .i64 20))), .is (.bin .lss (.var 4) (.con (.int .i64 20))) (.bool true), .fn 24 (EIsM 4) [.var 1, .var 3, .var 4], .ok (.fn 4 [.var 1, .var 3, .var 4] 0), .ok (.fn 4 [.var 1, .var 3, .var 4] 1), .ok (.fn 4 [.var 1, .var 3, .var 4] 2), .ok (.fn 4 [.var 1, .var 3, .var 4] 3), .is (.fn 4 [.var 1, .var 3, .var 4] 4) (.bool true), Fact.at (.var 3) 3, .ok (.bin .eql (.var 4) (.var 8)), .is (.bin .eql (.var 4) (.var 8)) (.bool true), .ok (.bin .gtr (.var 4) (.con (.int .i64 0))), .is (.bin .gtr (.var 4) (.con (.int .i64 0))) (.bool true), .ok (.bin .neq (.fn 4 [.var 1, .var 3, .var 4] 0) (.var 4)), .is (.bin .neq (.fn 4 [.var 1, .var 3, .var 4] 0) (.var 4)) (.bool false), .ok (.bin .add (.var 4) (.con (.int .i64 1))), .ok (.var 2), .ok (.var 3), .ok (.bin .add (.var 4) (.con (.int .i64 1))), .ok (.var 5), .ok (.var 6), .ok (.var 7), .ok (.var 8)], [.var 0, .var 1, .var 2, .var 3, .bin .add (.var 4) (.con (.int .i64 1)), .var 5, .var 6, .var 7, .var 8]) := by kernel_rfl
theorem z1 : segTo Try.prog (orcFn tabA) 10000 lpC shC [1, 0, 1, 1, 0] shC [(0, 0)] = some (.normal, [.ok (.bin .lss (.var 4) (.con (.int .i64 20))), .is (.bin .lss (.var 4) (.con (.int .i64 20))) (.bool true), .fn 24 (EIsM 4) [.var 1, .var 3, .var 4], .ok (.fn 4 [.var 1, .var 3, .var 4] 0), .ok (.fn 4 [.var 1, .var 3, .var 4] 1), .ok (.fn 4 [.var 1, .var 3, .var 4] 2), .ok (.fn 4 [.var 1, .var 3, .var 4] 3), .is (.fn 4 [.var 1, .var 3, .var 4] 4) (.bool false), Fact.at (.var 3) 1, .ok (.bin .eql (.var 4) (.var 6)), .is (.bin .eql (.var 4) (.var 6)) (.bool true), .ok (.bin .gtr (.var 4) (.con (.int .i64 0))), .is (.bin .gtr (.var 4) (.con (.int .i64 0))) (.bool false), .ok (.bin .add (.var 4) (.con (.int .i64 1))), .ok (.var 2), .ok (.var 3), .ok (.bin .add (.var 4) (.con (.int .i64 1))), .ok (.var 5), .ok (.var 6), .ok (.var 7), .ok (.var 8)], [.var 0, .var 1, .var 2, .var 3, .bin .add (.var 4) (.con (.int .i64 1)), .var 5, .var 6, .var 7, .var 8]) := by kernel_rfl
theorem z2 : segTo Try.prog (orcFn tabA) 10000 lpC shC [1, 0, 2, 1, 0] shC [(0, 0)] = some (.normal, [.ok (.bin .lss (.var 4) (.con (.int .i64 20))), .is (.bin .lss (.var 4) (.con (.int .i64 20))) (.bool true), .fn 24 (EIsM 4) [.var 1, .var 3, .var 4], .ok (.fn 4 [.var 1, .var 3, .var 4] 0), .ok (.fn 4 [.var 1, .var 3, .var 4] 1), .ok (.fn 4 [.var 1, .var 3, .var 4] 2), .ok (.fn 4 [.var 1, .var 3, .var 4] 3), .is (.fn 4 [.var 1, .var 3, .var 4] 4) (.bool false), Fact.at (.var 3) 2, .ok (.bin .eql (.var 4) (.var 7)), .is (.bin .eql (.var 4) (.var 7)) (.bool true), .ok (.bin .gtr (.var 4) (.con (.int .i64 0))), .is (.bin .gtr (.var 4) (.con (.int .i64 0))) (.bool false), .ok (.bin .add (.var 4) (.con (.int .i64 1))), .ok (.var 2), .ok (.var 3), .ok (.bin .add (.var 4) (.con (.int .i64 1))), .ok (.var 5), .ok (.var 6), .ok (.var 7), .ok (.var 8)], [.var 0, .var 1, .var 2, .var 3, .bin .add (.var 4) (.con (.int .i64 1)), .var 5, .var 6, .var 7, .var 8]) := by kernel_rfl
theorem z3 : segTo Try.prog (orcFn tabA) 10000 lpC shC [1, 0, 3, 1, 0] shC [(0, 0)] = some (.normal, [.ok (.bin .lss (.var 4) (.con (.int .i64 20))), .is (.bin .lss (.var 4) (.con (.int .i64 20))) (.bool true), .fn 24 (EIsM 4) [.var 1, .var 3, .var 4], .ok (.fn 4 [.var 1, .var 3, .var 4] 0), .ok (.fn 4 [.var 1, .var 3, .var 4] 1), .ok (.fn 4 [.var 1, .var 3, .var 4] 2), .ok (.fn 4 [.var 1, .var 3, .var 4] 3), .is (.fn 4 [.var 1, .var 3, .var 4] 4) (.bool false), Fact.at (.var 3) 3, .ok (.bin .eql (.var 4) (.var 8)), .is (.bin .eql (.var 4) (.var 8)) (.bool true), .ok (.bin .gtr (.var 4) (.con (.int .i64 0))), .is (.bin .gtr (.var 4) (.con (.int .i64 0))) (.bool false), .ok (.bin .add (.var 4) (.con (.int .i64 1))), .ok (.var 2), .ok (.var 3), .ok (.bin .add (.var 4) (.con (.int .i64 1))), .ok (.var 5), .ok (.var 6), .ok (.var 7), .ok (.var 8)], [.var 0, .var 1, .var 2, .var 3, .bin .add (.var 4) (.con (.int .i64 1)), .var 5, .var 6, .var 7, .var 8]) := by kernel_rfl
theorem n1 : segTo Try.prog (orcFn tabA) 10000 lpC shC [1, 0, 1, 0] shC [(0, 0)] = some (.normal, [.ok (.bin .lss (.var 4) (.con (.int .i64 20))), .is (.bin .lss (.var 4) (.con (.int .i64 20))) (.bool true), .fn 24 (EIsM 4) [.var 1, .var 3, .var 4], .ok (.fn 4 [.var 1, .var 3, .var 4] 0), .ok (.fn 4 [.var 1, .var 3, .var 4] 1), .ok (.fn 4 [.var 1, .var 3, .var 4] 2), .ok (.fn 4 [.var 1, .var 3, .var 4] 3), .is (.fn 4 [.var 1, .var 3, .var 4] 4) (.bool false), Fact.at (.var 3) 1, .ok (.bin .eql (.var 4) (.var 6)), .is (.bin .eql (.var 4) (.var 6)) (.bool false), .ok (.bin .add (.var 4) (.con (.int .i64 1))), .ok (.var 2), .ok (.var 3), .ok (.bin .add (.var 4) (.con (.int .i64 1))), .ok (.var 5), .ok (.var 6), .ok (.var 7), .ok (.var 8)], [.var 0, .var 1, .var 2, .var 3, .bin .add (.var 4) (.con (.int .i64 1)), .var 5, .var 6, .var 7, .var 8]) := by kernel_rfl
theorem n2 : segTo Try.prog (orcFn tabA) 10000 lpC shC [1, 0, 2, 0] shC [(0, 0)] = some (.normal, [.ok (.bin .lss (.var 4) (.con (.int .i64 20))), .is (.bin .lss (.var 4) (.con (.int .i64 20))) (.bool true), .fn 24 (EIsM 4) [.var 1, .var 3, .var 4], .ok (.fn 4 [.var 1, .var 3, .var 4] 0), .ok (.fn 4 [.var 1, .var 3, .var 4] 1), .ok (.fn 4 [.var 1, .var 3, .var 4] 2), .ok (.fn 4 [.var 1, .var 3, .var 4] 3), .is (.fn 4 [.var 1, .var 3, .var 4] 4) (.bool false), Fact.at (.var 3) 2, .ok (.bin .eql (.var 4) (.var 7)), .is (.bin .eql (.var 4) (.var 7)) (.bool false), .ok (.bin .add (.var 4) (.con (.int .i64 1))), .ok (.var 2), .ok (.var 3), .ok (.bin .add (.var 4) (.con (.int .i64 1))), .ok (.var 5), .ok (.var 6), .ok (.var 7), .ok (.var 8)], [.var 0, .var 1, .var 2, .var 3, .bin .add (.var 4) (.con (.int .i64 1)), .var 5, .var 6, .var 7, .var 8]) := by kernel_rfl
theorem n3 : segTo Try.prog (orcFn tabA) 10000 lpC shC [1, 0, 3, 0] shC [(0, 0)] = some (.normal, [.ok (.bin .lss (.var 4) (.con (.int .i64 20))), .is (.bin .lss (.var 4) (.con (.int .i64 20))) (.bool true), .fn 24 (EIsM 4) [.var 1, .var 3, .var 4], .ok (.fn 4 [.var 1, .var 3, .var 4] 0), .ok (.fn 4 [.var 1, .var 3, .var 4] 1), .ok (.fn 4 [.var 1, .var 3, .var 4] 2), .ok (.fn 4 [.var 1, .var 3, .var 4] 3), .is (.fn 4 [.var 1, .var 3, .var 4] 4) (.bool false), Fact.at (.var 3) 3, .ok (.bin .eql (.var 4) (.var 8)), .is (.bin .eql (.var 4) (.var 8)) (.bool false), .ok (.bin .add (.var 4) (.con (.int .i64 1))), .ok (.var 2), .ok (.var 3), .ok (.bin .add (.var 4) (.con (.int .i64 1))), .ok (.var 5), .ok (.var 6), .ok (.var 7), .ok (.var 8)], [.var 0, .var 1, .var 2, .var 3, .bin .add (.var 4) (.con (.int .i64 1)), .var 5, .var 6, .var 7, .var 8]) := by kernel_rfl
theorem bst : segTo Try.prog (orcFn tabA) 10000 (lpB.drop 3) shB [] shB [(0, 0)] = some (.normal, [.ok (.bin .add (.var 3) (.con (.int .i64 1))), .ok (.var 2), .ok (.bin .add (.var 3) (.con (.int .i64 1))), .ok (.var 4), .ok (.var 5), .ok (.var 6), .ok (.var 7)], [.var 0, .var 1, .var 2, .bin .add (.var 3) (.con (.int .i64 1)), .var 4, .var 5, .var 6, .var 7]) := by kernel_rfl
theorem stp : segTo Try.prog (orcFn tabA) 10000 (lpA.drop 3) shA [] shA [(0, 0)] = some (.normal, [.ok (.bin .add (.var 2) (.con (.int .i64 1))), .ok (.bin .add (.var 2) (.con (.int .i64 1))), .ok (.var 3), .ok (.var 4), .ok (.var 5), .ok (.var 6)], [.var 0, .var 1, .bin .add (.var 2) (.con (.int .i64 1)), .var 3, .var 4, .var 5, .var 6]) := by kernel_rfl
theorem post : segTo Try.prog (orcFn tabA) 10000 (flA.drop 9) shA [1] shR [] = some (.ret, [.ok (.len (.var 1)), .ok (.bin .eql (.len (.var 1)) (.con (.int .i64 3))), .is (.bin .eql (.len (.var 1)) (.con (.int .i64 3))) (.bool true), .ok (.con (.bool true))], [.con (.bool true)]) := by kernel_rfl

abbrev E2 := encK 2 (by decide)
theorem cutA : flA = flA.take 8 ++ .block (blockId (nth flA 8)) (.loop (loopBody (nth flA 8))) :: flA.drop 9 := by kernel_rfl
theorem cutL : lpA = lpA.take 2 ++ .block (blockId (nth lpA 2)) (blockBody (nth lpA 2)) :: lpA.drop 3 := by kernel_rfl
theorem cutB : bdA = bdA.take 4 ++ .block (blockId (nth bdA 4)) (.loop (loopBody (nth bdA 4))) :: [] := by kernel_rfl
theorem cutM : lpB = lpB.take 2 ++ .block (blockId (nth lpB 2)) (blockBody (nth lpB 2)) :: lpB.drop 3 := by kernel_rfl
theorem cutC : bdB = bdB.take 1 ++ .block (blockId (nth bdB 1)) (.loop (loopBody (nth bdB 1))) :: [] := by kernel_rfl
def ELaw (k : Nat) : FnE := { k := k, ins := [none], leaks := [], outs := [none], kinds := [.truth] }
def RL (ps qs : List PV) : Prop := ∃ l : List (Nat → Nat), (∀ f ∈ l, ∀ j, f j < 256) ∧ l.length ≤ 9223372036854775807 ∧ ps = [pRow E2 l] ∧ qs = [pB true]
theorem fL : ∀ ps q1 q2, RL ps q1 → RL ps q2 → q1 = q2 := by
  rintro ps q1 q2 ⟨_, _, _, _, rfl⟩ ⟨_, _, _, _, rfl⟩; rfl
noncomputable def G : Fns := fun k => match k with | 1 => spec RNewM | 2 => spec RPutP | 4 => spec RIsM | 7 => spec RTrue | _ => fun _ => none
theorem ranB : isTrue ((theEng Try.prog fil.noOrc 100000).call 18 [] ⟨.nil, 0, []⟩) = true := by kernel_rfl
theorem u1 : ToldF 19 (ENewM 1) (G 1) := toldNewM 1
theorem u2 : ToldF 21 (EPutM 2) (G 2) := toldPutP 2
theorem u4 : ToldF 24 (EIsM 4) (G 4) := toldIsM 4
theorem u7 : ToldF 18 (ETrue 7) (G 7) := told_closed 7 fun w => calls_true names_ok mixed_ok fil.noOrc_ok (args := []) ranB w
theorem G7 : G 7 [] = some [pB true] := spec_of fTrue ⟨rfl, rfl⟩
theorem G1 : G 1 [pI 3] = some [pRow encM (List.replicate 3 m0)] := spec_of fNewM ⟨3, by omega, by omega, rfl, rfl⟩
theorem G2 {M : List MarkM} {c : Int} {m : MarkM} (h : M.length = 3) (h1 : -9223372036854775808 ≤ c) (h2 : c ≤ 9223372036854775807) : G 2 [pRow encM M, pI c, pI m.1, pI m.2.1, pI m.2.2.1, pI m.2.2.2] = some [pRow encM (putMk M c m)] := spec_of fPutP ⟨M, c, m, by omega, by omega, h1, h2, rfl, rfl⟩
theorem G4 {M : List MarkM} {c q : Int} (h : M.length = 3) (h1 : -9223372036854775808 ≤ c) (h2 : c ≤ 9223372036854775807) : G 4 [pRow encM M, pI c, pI q] = some (isQ (isMk M c q)) := spec_of fIsM ⟨M, c, q, by omega, h1, h2, rfl, rfl⟩
/-- The greatest numbers so far. -/
structure Lst (M : List MarkM) (a1 a2 a3 : Int) : Prop where
  len : M.length = 3
  e1 : (M.getD 0 m0).1 = a1
  e2 : (M.getD 1 m0).1 = a2
  e3 : (M.getD 2 m0).1 = a3
theorem lst3 {M : List MarkM} {a1 a2 a3 : Int} (h : Lst M a1 a2 a3) : ∃ x y z : Int × Int × Int, M = [(a1, x), (a2, y), (a3, z)] := by
  obtain ⟨hl, h1, h2, h3⟩ := h
  match M, hl with
  | [⟨b1, x⟩, ⟨b2, y⟩, ⟨b3, z⟩], _ =>
    simp at h1 h2 h3
    subst h1 h2 h3
    exact ⟨x, y, z, rfl⟩
theorem lst_put1 {M : List MarkM} {a1 a2 a3 : Int} (h : Lst M a1 a2 a3) (n : Int) (r : Int × Int × Int) : Lst (putMk M 1 (n, r)) (max a1 n) a2 a3 := by
  obtain ⟨x, y, z, rfl⟩ := lst3 h
  unfold putMk
  by_cases hc : a1 < n
  · rw [if_pos (by simp; exact hc)]; exact ⟨rfl, by simp; omega, rfl, rfl⟩
  · rw [if_neg (by simp; omega)]; exact ⟨rfl, by simp; omega, rfl, rfl⟩
theorem lst_put2 {M : List MarkM} {a1 a2 a3 : Int} (h : Lst M a1 a2 a3) (n : Int) (r : Int × Int × Int) : Lst (putMk M 2 (n, r)) a1 (max a2 n) a3 := by
  obtain ⟨x, y, z, rfl⟩ := lst3 h
  unfold putMk
  by_cases hc : a2 < n
  · rw [if_pos (by simp; exact hc)]; exact ⟨rfl, rfl, by simp; omega, rfl⟩
  · rw [if_neg (by simp; omega)]; exact ⟨rfl, rfl, by simp; omega, rfl⟩
theorem lst_put3 {M : List MarkM} {a1 a2 a3 : Int} (h : Lst M a1 a2 a3) (n : Int) (r : Int × Int × Int) : Lst (putMk M 3 (n, r)) a1 a2 (max a3 n) := by
  obtain ⟨x, y, z, rfl⟩ := lst3 h
  unfold putMk
  by_cases hc : a3 < n
  · rw [if_pos (by simp; exact hc)]; exact ⟨rfl, rfl, rfl, by simp; omega⟩
  · rw [if_neg (by simp; omega)]; exact ⟨rfl, rfl, rfl, by simp; omega⟩
/-- What is known of who. -/
theorem is_yes {M : List MarkM} {c s a : Int} (hl : M.length = 3) (h1 : 1 ≤ c) (h2 : c ≤ 3) (ha : (M.getD (c.toNat - 1) m0).1 = a) (hs : s = a) (h0 : 0 < s) : ∃ y z u : Int, isQ (isMk M c s) = [pI s, pI y, pI z, pI u, pB true] := by
  rw [isMk, if_pos ⟨h1, by omega, h0, by rw [ha, hs]⟩]
  exact ⟨(M.getD (c.toNat - 1) m0).2.1, (M.getD (c.toNat - 1) m0).2.2.1, (M.getD (c.toNat - 1) m0).2.2.2, by simp only [isQ, ha, hs]⟩
theorem is_no {M : List MarkM} {c s a : Int} (ha : (M.getD (c.toNat - 1) m0).1 = a) (hs : ¬ (s = a ∧ 0 < s)) : isQ (isMk M c s) = [pI 0, pI 0, pI 0, pI 0, pB false] := by
  rw [isMk, if_neg (fun h => hs ⟨by rw [← h.2.2.2, ha], h.2.2.1⟩)]
  rfl
theorem put_len (M : List MarkM) (c : Int) (m : MarkM) : (putMk M c m).length = M.length := by
  unfold putMk; split
  · simp
  · rfl
abbrev stA (l : List (Nat → Nat)) (M : List MarkM) (i : Nat) (a1 a2 a3 : Int) : List PV := [pRow E2 l, pRow encM M, pI (i : Int), pI 0, pI a1, pI a2, pI a3]
abbrev stB (l : List (Nat → Nat)) (M : List MarkM) (i k : Nat) (a1 a2 a3 : Int) : List PV := [pRow E2 l, pRow encM M, pI (i : Int), pI (k : Int), pI 0, pI a1, pI a2, pI a3]
abbrev stC (l : List (Nat → Nat)) (M : List MarkM) (i k s : Nat) (a1 a2 a3 : Int) : List PV := [pRow E2 l, pRow encM M, pI (i : Int), pI (k : Int), pI (s : Int), pI 0, pI a1, pI a2, pI a3]

set_option maxHeartbeats 4000000 in
theorem told (k0 : Nat) : ToldF 8 (ELaw k0) (spec RL) := by
  refine told_by G _ (bodyOf Try.prog 8) Try.func8 (by kernel_rfl) sh0 (by kernel_rfl) ?_ ?_
  · intro ps qs h i hi
    obtain ⟨l, _, _, rfl, rfl⟩ := of_spec h
    simp [sh0] at hi
    match i, hi with
    | 0, hi => simp at hi
    | i + 1, hi => simp at hi
  · intro C ps qs hF h a w hsh
    obtain ⟨l, hz, hl, rfl, rfl⟩ := of_spec h
    show wpL Try.prog flA _ a w
    have fin : ∀ qs a1 w1, qs = [pB true] → InShape C shR qs a1 w1 → (AX.ret = .normal → wpL Try.prog [] (fun e a' w' => (e = .normal ∨ e = .ret) ∧ ∃ sh' ps' es, InShape C sh' ps' a' w' ∧ resTo Try.prog Try.f8 sh' (ELaw k0) = some es ∧ evs (fun i => ps'[i]?) G es = some [pB true]) a1 w1) ∧ (AX.ret ≠ .normal → (AX.ret.to = .normal ∨ AX.ret.to = .ret) ∧ ∃ sh' ps' es, InShape C sh' ps' a1 w1 ∧ resTo Try.prog Try.f8 sh' (ELaw k0) = some es ∧ evs (fun i => ps'[i]?) G es = some [pB true]) := by
      rintro qs a1 w1 rfl h1
      exact ⟨fun h => (by cases h), fun _ => ⟨.inr rfl, shR, _, [SX.var 0], h1, by kernel_rfl, rfl⟩⟩
    by_cases hl1 : 20 < l.length
    · rw [← List.append_nil flA]
      refine seg_ok names_ok mixed_ok (orcFn_ok _) q1 hsh ?_ (fun qs a1 w1 hq h1 => fin qs a1 w1 (by simp [evs, SX.ev] at hq; exact hq.symm) h1)
      simp only [List.mem_cons, List.not_mem_nil, or_false, forall_eq_or_imp, forall_eq]
      simp [holds_idxP, holds_cellsP, Base.ev, SX.ev, evs, Value.oneCell', hF, lenPV_row, binPV, G7, u7]
      omega
    rw [cutA]
    have g1 := G1
    have hM0 : Lst (List.replicate 3 m0) 0 0 0 := ⟨rfl, rfl, rfl, rfl⟩
    generalize List.replicate 3 m0 = M0 at *
    refine seg_ok names_ok mixed_ok (orcFn_ok _) pre hsh ?_ ?_
    · simp only [List.mem_cons, List.not_mem_nil, or_false, forall_eq_or_imp, forall_eq]
      simp [holds_idxP, holds_cellsP, Base.ev, SX.ev, evs, Value.oneCell', hF, lenPV_row, binPV, G7, u7, g1, u1]
      omega
    intro qs a1 w1 hq h1
    refine ⟨fun _ => ?_, fun h => absurd rfl h⟩
    simp [evs, SX.ev, hF, g1] at hq
    subst hq
    refine block_loop (fun q' a w => ∃ (i : Nat) (M : List MarkM) (a1 a2 a3 : Int), i ≤ l.length ∧ q' = l.length - i ∧ Lst M a1 a2 a3 ∧ InShape C shA (stA l M i a1 a2 a3) a w) ?_ (n := l.length) ⟨0, M0, 0, 0, 0, by omega, by omega, hM0, h1⟩
    rintro q' a w ⟨i, M, a1, a2, a3, hi, rfl, hM, hin⟩
    show wpL Try.prog lpA _ a w
    by_cases hlt : i < l.length
    · have hzi := hz _ (List.getElem_mem hlt)
      have c0 : cellPV (pRow E2 l) (pI (i : Int)) 2 0 = some (pU (l[i] 0 : Int)) := cellK 2 _ l i hlt 0 (by omega)
      have c1 : cellPV (pRow E2 l) (pI (i : Int)) 2 1 = some (pU (l[i] 1 : Int)) := cellK 2 _ l i hlt 1 (by omega)
      have i1 := idxP_row E2 l i 2 1 .i64 rfl hlt (by decide)
      have i2 := idxP_row E2 l i 2 2 .i64 rfl hlt (by decide)
      have v3 : IntKind.i64.wrap ((i : Int) + 1) = (i : Int) + 1 := wrapI _ (by omega) (by omega)
      generalize l[i] = f at *
      obtain ⟨x0, h0⟩ : ∃ x0 : Nat, f 0 % 3 = x0 := ⟨_, rfl⟩
      obtain ⟨x1, h1'⟩ : ∃ x1 : Nat, f 1 % 20 = x1 := ⟨_, rfl⟩
      have t0 : (f 0 : Int).tmod 3 = (x0 : Int) := by rw [← h0]; rfl
      have t1 : (f 1 : Int).tmod 20 = (x1 : Int) := by rw [← h1']; rfl
      have wx1 : IntKind.i64.wrap (x1 : Int) = (x1 : Int) := wrapI _ (by omega) (by omega)
      have hx0 : x0 < 3 := by omega
      have wk : IntKind.i64.wrap 0 = 0 ∧ IntKind.i64.wrap 1 = 1 ∧ IntKind.i64.wrap 2 = 2 ∧ IntKind.i64.wrap 3 = 3 := by decide
      let Q : Exit → Act → World → Prop := fun e a' w' => (e = .normal ∧ ∃ n', n' < l.length - i ∧ ∃ (j : Nat) (M : List MarkM) (a1 a2 a3 : Int), j ≤ l.length ∧ n' = l.length - j ∧ Lst M a1 a2 a3 ∧ InShape C shA (stA l M j a1 a2 a3) a' w') ∨ (e = .exit (blockId (nth flA 8)) ∧ wpL Try.prog (flA.drop 9) (fun e a' w' => (e = .normal ∨ e = .ret) ∧ ∃ sh' ps' es, InShape C sh' ps' a' w' ∧ resTo Try.prog Try.f8 sh' (ELaw k0) = some es ∧ evs (fun i => ps'[i]?) G es = some [pB true]) a' w') ∨ (e = .ret ∧ (((Exit.ret = .normal) ∨ Exit.ret = .ret) ∧ ∃ sh' ps' es, InShape C sh' ps' a' w' ∧ resTo Try.prog Try.f8 sh' (ELaw k0) = some es ∧ evs (fun i => ps'[i]?) G es = some [pB true]))
      let QB : Exit → Act → World → Prop := fun e a' w' => (e = .normal ∧ wpL Try.prog (lpA.drop 3) Q a' w') ∨ (e = .exit (blockId (nth lpA 2)) ∧ wpL Try.prog (lpA.drop 3) Q a' w') ∨ (e = .ret ∧ Q .ret a' w') ∨ (∃ j, j ≠ (blockId (nth lpA 2)) ∧ e = .exit j ∧ Q (.exit j) a' w') ∨ (∃ ch, e = .panic ch ∧ Q (.panic ch) a' w')
      have stp' : ∀ (M2 : List MarkM) (a1 a2 a3 : Int), Lst M2 a1 a2 a3 → ∀ a w, InShape C shA (stA l M2 i a1 a2 a3) a w → wpL Try.prog (lpA.drop 3) Q a w := by
        intro M2 a1 a2 a3 hM2 a w hin
        rw [← List.append_nil (lpA.drop 3)]
        refine seg_ok names_ok mixed_ok (orcFn_ok _) stp hin ?_ ?_
        · simp only [List.mem_cons, List.not_mem_nil, or_false, forall_eq_or_imp, forall_eq]
          simp [holds_idxP, holds_cellsP, Base.ev, SX.ev, evs, Value.oneCell', binPV, v3]
        · intro qs a1' w1 hq h1
          refine ⟨fun _ => .inl ⟨rfl, l.length - (i + 1), by omega, i + 1, M2, a1, a2, a3, by omega, rfl, hM2, ?_⟩, fun h => absurd rfl h⟩
          simp [evs, SX.ev, binPV, v3] at hq
          subst hq
          exact h1
      have rest : ∀ (M2 : List MarkM) (a1 a2 a3 : Int), Lst M2 a1 a2 a3 → ∀ a w, InShape C shB (stB l M2 i 1 a1 a2 a3) a w → wpL Try.prog (.block (blockId (nth bdA 4)) (.loop (loopBody (nth bdA 4))) :: []) QB a w := by
        intro M2 a1 a2 a3 hM2 a w hin
        refine block_loop (fun q' a w => ∃ k : Nat, 1 ≤ k ∧ k ≤ 4 ∧ q' = 4 - k ∧ InShape C shB (stB l M2 i k a1 a2 a3) a w) ?_ (n := 3) ⟨1, by omega, by omega, by omega, hin⟩
        rintro q' a w ⟨k, hk1, hk4, rfl, hin⟩
        show wpL Try.prog lpB _ a w
        by_cases hk3 : k ≤ 3
        · rw [cutM]
          have vk : IntKind.i64.wrap ((k : Int) + 1) = (k : Int) + 1 := wrapI _ (by omega) (by omega)
          refine seg_ok names_ok mixed_ok (orcFn_ok _) bhd hin ?_ ?_
          · simp only [List.mem_cons, List.not_mem_nil, or_false, forall_eq_or_imp, forall_eq]
            simp [holds_idxP, holds_cellsP, Base.ev, SX.ev, evs, Value.oneCell', binPV]
            omega
          intro qs a2' w2 hq h2
          refine ⟨fun _ => ?_, fun h => absurd rfl h⟩
          simp [evs, SX.ev] at hq
          subst hq
          refine block_in ?_
          show wpL Try.prog bdB _ a2' w2
          rw [cutC]
          refine seg_ok names_ok mixed_ok (orcFn_ok _) b0 h2 (by simp [Base.ev, SX.ev, Value.oneCell']) ?_
          intro qs a3' w3 hq h3
          refine ⟨fun _ => ?_, fun h => absurd rfl h⟩
          simp [evs, SX.ev] at hq
          subst hq
          refine block_loop (fun q' a w => ∃ s : Nat, s ≤ 20 ∧ q' = 20 - s ∧ InShape C shC (stC l M2 i k s a1 a2 a3) a w) ?_ (n := 20) ⟨0, by omega, by omega, h3⟩
          rintro q' a w ⟨s, hs20, rfl, hin⟩
          show wpL Try.prog lpC _ a w
          rw [← List.append_nil lpC]
          by_cases hslt : s < 20
          · have vs : IntKind.i64.wrap ((s : Int) + 1) = (s : Int) + 1 := wrapI _ (by omega) (by omega)
            have again : ∀ qs a' w', qs = stC l M2 i k (s + 1) a1 a2 a3 → InShape C shC qs a' w' → ∃ n', n' < 20 - s ∧ ∃ s' : Nat, s' ≤ 20 ∧ n' = 20 - s' ∧ InShape C shC (stC l M2 i k s' a1 a2 a3) a' w' := by
              rintro qs a' w' rfl h
              exact ⟨20 - (s + 1), by omega, s + 1, by omega, rfl, h⟩
            clear stp' vk
            match k, hk1, hk3 with
            | 1, _, _ =>
              have ha : (M2.getD ((1 : Int).toNat - 1) m0).1 = a1 := hM2.e1
              have e4 := G4 (q := (s : Int)) (c := 1) hM2.len (by omega) (by omega)
              by_cases hs : (s : Int) = a1
              · by_cases h0 : 0 < (s : Int)
                · obtain ⟨y, z, u, hq⟩ := is_yes hM2.len (by omega) (by omega) ha hs h0
                  rw [hq] at e4
                  subst hs
                  refine seg_ok names_ok mixed_ok (orcFn_ok _) markLast.y1 hin ?_ (fun qs a3 w3 hq h3 => ⟨fun _ => .inl ⟨rfl, again qs a3 w3 (by simp [evs, SX.ev, binPV, vs] at hq; exact hq.symm) h3⟩, fun h => absurd rfl h⟩)
                  simp only [List.mem_cons, List.not_mem_nil, or_false, forall_eq_or_imp, forall_eq]
                  simp [holds_idxP, holds_cellsP, Base.ev, SX.ev, evs, Value.oneCell', hF, binPV, vs, e4, u4, h0]
                  omega
                · have hq := is_no (s := (s : Int)) ha (fun h => h0 h.2)
                  rw [hq] at e4
                  subst hs
                  refine seg_ok names_ok mixed_ok (orcFn_ok _) markLast.z1 hin ?_ (fun qs a3 w3 hq h3 => ⟨fun _ => .inl ⟨rfl, again qs a3 w3 (by simp [evs, SX.ev, binPV, vs] at hq; exact hq.symm) h3⟩, fun h => absurd rfl h⟩)
                  simp only [List.mem_cons, List.not_mem_nil, or_false, forall_eq_or_imp, forall_eq]
                  simp [holds_idxP, holds_cellsP, Base.ev, SX.ev, evs, Value.oneCell', hF, binPV, vs, e4, u4, h0]
                  omega
              · have hq := is_no (s := (s : Int)) ha (fun h => hs h.1)
                rw [hq] at e4
                refine seg_ok names_ok mixed_ok (orcFn_ok _) markLast.n1 hin ?_ (fun qs a3 w3 hq h3 => ⟨fun _ => .inl ⟨rfl, again qs a3 w3 (by simp [evs, SX.ev, binPV, vs] at hq; exact hq.symm) h3⟩, fun h => absurd rfl h⟩)
                simp only [List.mem_cons, List.not_mem_nil, or_false, forall_eq_or_imp, forall_eq]
                simp [holds_idxP, holds_cellsP, Base.ev, SX.ev, evs, Value.oneCell', hF, binPV, vs, e4, u4, hs]
                omega
            | 2, _, _ =>
              have ha : (M2.getD ((2 : Int).toNat - 1) m0).1 = a2 := hM2.e2
              have e4 := G4 (q := (s : Int)) (c := 2) hM2.len (by omega) (by omega)
              by_cases hs : (s : Int) = a2
              · by_cases h0 : 0 < (s : Int)
                · obtain ⟨y, z, u, hq⟩ := is_yes hM2.len (by omega) (by omega) ha hs h0
                  rw [hq] at e4
                  subst hs
                  refine seg_ok names_ok mixed_ok (orcFn_ok _) markLast.y2 hin ?_ (fun qs a3 w3 hq h3 => ⟨fun _ => .inl ⟨rfl, again qs a3 w3 (by simp [evs, SX.ev, binPV, vs] at hq; exact hq.symm) h3⟩, fun h => absurd rfl h⟩)
                  simp only [List.mem_cons, List.not_mem_nil, or_false, forall_eq_or_imp, forall_eq]
                  simp [holds_idxP, holds_cellsP, Base.ev, SX.ev, evs, Value.oneCell', hF, binPV, vs, e4, u4, h0]
                  omega
                · have hq := is_no (s := (s : Int)) ha (fun h => h0 h.2)
                  rw [hq] at e4
                  subst hs
                  refine seg_ok names_ok mixed_ok (orcFn_ok _) markLast.z2 hin ?_ (fun qs a3 w3 hq h3 => ⟨fun _ => .inl ⟨rfl, again qs a3 w3 (by simp [evs, SX.ev, binPV, vs] at hq; exact hq.symm) h3⟩, fun h => absurd rfl h⟩)
                  simp only [List.mem_cons, List.not_mem_nil, or_false, forall_eq_or_imp, forall_eq]
                  simp [holds_idxP, holds_cellsP, Base.ev, SX.ev, evs, Value.oneCell', hF, binPV, vs, e4, u4, h0]
                  omega
              · have hq := is_no (s := (s : Int)) ha (fun h => hs h.1)
                rw [hq] at e4
                refine seg_ok names_ok mixed_ok (orcFn_ok _) markLast.n2 hin ?_ (fun qs a3 w3 hq h3 => ⟨fun _ => .inl ⟨rfl, again qs a3 w3 (by simp [evs, SX.ev, binPV, vs] at hq; exact hq.symm) h3⟩, fun h => absurd rfl h⟩)
                simp only [List.mem_cons, List.not_mem_nil, or_false, forall_eq_or_imp, forall_eq]
                simp [holds_idxP, holds_cellsP, Base.ev, SX.ev, evs, Value.oneCell', hF, binPV, vs, e4, u4, hs]
                omega
            | 3, _, _ =>
              have ha : (M2.getD ((3 : Int).toNat - 1) m0).1 = a3 := hM2.e3
              have e4 := G4 (q := (s : Int)) (c := 3) hM2.len (by omega) (by omega)
              by_cases hs : (s : Int) = a3
              · by_cases h0 : 0 < (s : Int)
                · obtain ⟨y, z, u, hq⟩ := is_yes hM2.len (by omega) (by omega) ha hs h0
                  rw [hq] at e4
                  subst hs
                  refine seg_ok names_ok mixed_ok (orcFn_ok _) markLast.y3 hin ?_ (fun qs a3 w3 hq h3 => ⟨fun _ => .inl ⟨rfl, again qs a3 w3 (by simp [evs, SX.ev, binPV, vs] at hq; exact hq.symm) h3⟩, fun h => absurd rfl h⟩)
                  simp only [List.mem_cons, List.not_mem_nil, or_false, forall_eq_or_imp, forall_eq]
                  simp [holds_idxP, holds_cellsP, Base.ev, SX.ev, evs, Value.oneCell', hF, binPV, vs, e4, u4, h0]
                  omega
                · have hq := is_no (s := (s : Int)) ha (fun h => h0 h.2)
                  rw [hq] at e4
                  subst hs
                  refine seg_ok names_ok mixed_ok (orcFn_ok _) markLast.z3 hin ?_ (fun qs a3 w3 hq h3 => ⟨fun _ => .inl ⟨rfl, again qs a3 w3 (by simp [evs, SX.ev, binPV, vs] at hq; exact hq.symm) h3⟩, fun h => absurd rfl h⟩)
                  simp only [List.mem_cons, List.not_mem_nil, or_false, forall_eq_or_imp, forall_eq]
                  simp [holds_idxP, holds_cellsP, Base.ev, SX.ev, evs, Value.oneCell', hF, binPV, vs, e4, u4, h0]
                  omega
              · have hq := is_no (s := (s : Int)) ha (fun h => hs h.1)
                rw [hq] at e4
                refine seg_ok names_ok mixed_ok (orcFn_ok _) markLast.n3 hin ?_ (fun qs a3 w3 hq h3 => ⟨fun _ => .inl ⟨rfl, again qs a3 w3 (by simp [evs, SX.ev, binPV, vs] at hq; exact hq.symm) h3⟩, fun h => absurd rfl h⟩)
                simp only [List.mem_cons, List.not_mem_nil, or_false, forall_eq_or_imp, forall_eq]
                simp [holds_idxP, holds_cellsP, Base.ev, SX.ev, evs, Value.oneCell', hF, binPV, vs, e4, u4, hs]
                omega
            | k + 4, _, h => omega
          · refine seg_ok names_ok mixed_ok (orcFn_ok _) cex hin ?_ ?_
            · simp only [List.mem_cons, List.not_mem_nil, or_false, forall_eq_or_imp, forall_eq]
              simp [holds_idxP, holds_cellsP, Base.ev, SX.ev, evs, Value.oneCell', binPV]
              omega
            · intro qs a4 w4 hq h4
              refine ⟨fun h => (by cases h), fun _ => .inr (.inl ⟨by rw [show blockId (nth bdB 1) = 4 by kernel_rfl]; rfl, ?_⟩)⟩
              simp [evs, SX.ev] at hq
              subst hq
              refine .inl ⟨rfl, ?_⟩
              rw [← List.append_nil (lpB.drop 3)]
              refine seg_ok names_ok mixed_ok (orcFn_ok _) bst h4 ?_ ?_
              · simp only [List.mem_cons, List.not_mem_nil, or_false, forall_eq_or_imp, forall_eq]
                simp [holds_idxP, holds_cellsP, Base.ev, SX.ev, evs, Value.oneCell', binPV, vk]
              · intro qs a5 w5 hq h5
                refine ⟨fun _ => .inl ⟨rfl, 4 - (k + 1), by omega, k + 1, by omega, by omega, rfl, ?_⟩, fun h => absurd rfl h⟩
                simp [evs, SX.ev, binPV, vk] at hq
                subst hq
                exact h5
        · rw [← List.append_nil lpB]
          refine seg_ok names_ok mixed_ok (orcFn_ok _) bex hin ?_ ?_
          · simp only [List.mem_cons, List.not_mem_nil, or_false, forall_eq_or_imp, forall_eq]
            simp [holds_idxP, holds_cellsP, Base.ev, SX.ev, evs, Value.oneCell', binPV]
            omega
          · intro qs a3' w3 hq h3
            refine ⟨fun h => (by cases h), fun _ => .inr (.inl ⟨by rw [show blockId (nth bdA 4) = 2 by kernel_rfl]; rfl, ?_⟩)⟩
            simp [evs, SX.ev] at hq
            subst hq
            exact .inl ⟨rfl, stp' M2 a1 a2 a3 hM2 a3' w3 h3⟩
      show wpL Try.prog lpA Q a w
      rw [cutL]
      refine seg_ok names_ok mixed_ok (orcFn_ok _) hd hin ?_ ?_
      · simp only [List.mem_cons, List.not_mem_nil, or_false, forall_eq_or_imp, forall_eq]
        simp [holds_idxP, holds_cellsP, Base.ev, SX.ev, evs, Value.oneCell', lenPV_row, binPV]
        exact hlt
      intro qs a1' w1 hq h1
      refine ⟨fun _ => ?_, fun h => absurd rfl h⟩
      simp [evs, SX.ev] at hq
      subst hq
      refine block_in ?_
      show wpL Try.prog bdA QB a1' w1
      rw [cutB]
      clear stp'
      match x0, hx0 with
      | 0, _ =>
        have e2 := G2 (c := 1) (m := ((x1 : Int), 0, 0, (i : Int) + 1)) hM.len (by omega) (by omega)
        have hM2 := lst_put1 hM (x1 : Int) (0, 0, (i : Int) + 1)
        have rm := r_max a1 (x1 : Int)
        simp only at e2
        have hx0 : (f 0 : Int).tmod 3 = 0 := t0
        generalize putMk M 1 ((x1 : Int), 0, 0, (i : Int) + 1) = M2 at *
        refine seg_ok names_ok mixed_ok (orcFn_ok _) markLast.bd1 h1 ?_ (fun qs a2 w2 hq h2 => ⟨fun _ => rest M2 _ _ _ hM2 a2 w2 (by simp [evs, SX.ev, hF, binPV, convPV, c0, c1, hx0, t1, wx1, v3, e2, rm, wk] at hq; subst hq; exact h2), fun h => absurd rfl h⟩)
        simp only [List.mem_cons, List.not_mem_nil, or_false, forall_eq_or_imp, forall_eq]
        simp [holds_idxP, holds_cellsP, Base.ev, SX.ev, evs, Value.oneCell', hF, binPV, convPV, c0, c1, i1, i2, hx0, t1, wx1, v3, e2, rm, wk, u2]
      | 1, _ =>
        have e2 := G2 (c := 2) (m := ((x1 : Int), 0, 0, (i : Int) + 1)) hM.len (by omega) (by omega)
        have hM2 := lst_put2 hM (x1 : Int) (0, 0, (i : Int) + 1)
        have rm := r_max a2 (x1 : Int)
        simp only at e2
        have hx0 : (f 0 : Int).tmod 3 = 1 := t0
        generalize putMk M 2 ((x1 : Int), 0, 0, (i : Int) + 1) = M2 at *
        refine seg_ok names_ok mixed_ok (orcFn_ok _) markLast.bd2 h1 ?_ (fun qs a2 w2 hq h2 => ⟨fun _ => rest M2 _ _ _ hM2 a2 w2 (by simp [evs, SX.ev, hF, binPV, convPV, c0, c1, hx0, t1, wx1, v3, e2, rm, wk] at hq; subst hq; exact h2), fun h => absurd rfl h⟩)
        simp only [List.mem_cons, List.not_mem_nil, or_false, forall_eq_or_imp, forall_eq]
        simp [holds_idxP, holds_cellsP, Base.ev, SX.ev, evs, Value.oneCell', hF, binPV, convPV, c0, c1, i1, i2, hx0, t1, wx1, v3, e2, rm, wk, u2]
      | 2, _ =>
        have e2 := G2 (c := 3) (m := ((x1 : Int), 0, 0, (i : Int) + 1)) hM.len (by omega) (by omega)
        have hM2 := lst_put3 hM (x1 : Int) (0, 0, (i : Int) + 1)
        have rm := r_max a3 (x1 : Int)
        simp only at e2
        have hx0 : (f 0 : Int).tmod 3 = 2 := t0
        generalize putMk M 3 ((x1 : Int), 0, 0, (i : Int) + 1) = M2 at *
        refine seg_ok names_ok mixed_ok (orcFn_ok _) markLast.bd3 h1 ?_ (fun qs a2 w2 hq h2 => ⟨fun _ => rest M2 _ _ _ hM2 a2 w2 (by simp [evs, SX.ev, hF, binPV, convPV, c0, c1, hx0, t1, wx1, v3, e2, rm, wk] at hq; subst hq; exact h2), fun h => absurd rfl h⟩)
        simp only [List.mem_cons, List.not_mem_nil, or_false, forall_eq_or_imp, forall_eq]
        simp [holds_idxP, holds_cellsP, Base.ev, SX.ev, evs, Value.oneCell', hF, binPV, convPV, c0, c1, i1, i2, hx0, t1, wx1, v3, e2, rm, wk, u2]
      | x + 3, h => omega
    · have hie : i = l.length := by omega
      subst hie
      rw [← List.append_nil lpA]
      refine seg_ok names_ok mixed_ok (orcFn_ok _) ex hin ?_ ?_
      · simp only [List.mem_cons, List.not_mem_nil, or_false, forall_eq_or_imp, forall_eq]
        simp [holds_idxP, holds_cellsP, Base.ev, SX.ev, evs, Value.oneCell', lenPV_row, binPV]
      · intro qs a1' w1 hq h1
        refine ⟨fun h => (by cases h), fun _ => .inr (.inl ⟨by rw [show blockId (nth flA 8) = 0 by kernel_rfl]; rfl, ?_⟩)⟩
        simp [evs, SX.ev] at hq
        subst hq
        rw [← List.append_nil (flA.drop 9)]
        have hl3 := hM.len
        refine seg_ok names_ok mixed_ok (orcFn_ok _) post h1 ?_ (fun qs a1 w1 hq h1 => fin qs a1 w1 (by simp [evs, SX.ev] at hq; exact hq.symm) h1)
        simp only [List.mem_cons, List.not_mem_nil, or_false, forall_eq_or_imp, forall_eq]
        simp [holds_idxP, holds_cellsP, Base.ev, SX.ev, evs, Value.oneCell', lenPV_row, binPV, hl3]
theorem walk (w : World) (v : Value) (len : Nat) (Z : Nat → Nat → Int) (h : IsGrid 2 w v len Z) :
    Calls Try.prog 8 #[v] w fun e w' => e = .returned (.bool true) ∧ Ex w w' := by
  obtain ⟨l, hb, hr⟩ := gridK (by decide) h
  refine told_true (told 0) rfl (us := [v]) (ps := [pRow E2 l]) (spec_of fL ⟨l, hb, reads_len hr, rfl, rfl⟩) rfl rfl (fun i p u hp hu => ?_)
  match i, hp, hu with
  | 0, hp, hu => simp at hp hu; subst hp; subst hu; exact hr
  | i + 1, hp, hu => simp at hp
end Go.Proofs.Ytegfdigljpnhcaa.markLast
