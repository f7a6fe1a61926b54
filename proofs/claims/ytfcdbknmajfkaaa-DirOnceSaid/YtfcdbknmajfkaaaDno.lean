/- DirOnce by the symbolic engine. -/
import Derived.Test.YtfcdbknmajfkaaaDir2
import Derived.Test.YtfcdbknmajfkaaaFrameB
namespace Go.Proofs.Ytfcdbknmajfkaaa.dirOnce
open Go Go.RowKit eng SX Fact fil fileFronts dirs pck
open fileFronts hiding F F1 F2 F3 F22 t1 t2 t3 t22
open dirs hiding shR shRl shRR flR lpR cutR f0 f1 f2 f3 m0 m1 m2
open pck hiding F F20 F21
set_option linter.unusedVariables false
set_option linter.unusedSimpArgs false
set_option maxRecDepth 1000000

def tabD (f : FuncId) : Option FnE := cond (Nat.beq f 43) (some (EFind 1)) (cond (Nat.beq f 47) (some (ERoom 2)) (cond (Nat.beq f 40) (some (ETrue 3)) none))
noncomputable def flD := flat (bodyOf Try.prog 11)
noncomputable def lpD := flat (loopBody (nth flD 8))
noncomputable def bdD := flat (blockBody (nth lpD 2))
def fbox (k : Nat) : BoxT := ⟨71, 3, true, [], some k, false⟩
def xbox : BoxT := ⟨71, 0, false, [.leaf, .leaf, .leaf], none, false⟩
def shD : Shape := ⟨[(0, .leaf), (1, .leaf)], [], [some false, none], 103, 11⟩
def shR : Shape := ⟨[(4, .leaf)], [], [none], 103, 11⟩
def shDn : Shape := ⟨[(0, .leaf), (1, .leaf), (5, .nil), (6, .leaf), (7, .leaf), (8, .leaf)], [], [some false, none, none, none, none], 103, 11⟩
def shDo : Shape := ⟨[(0, .leaf), (1, .leaf), (5, .own 0 5 3), (6, .leaf), (7, .leaf), (8, .leaf)], [fbox 5], [some false, none, none, none, none], 103, 11⟩
def shD1 : Shape := ⟨[(0, .leaf), (1, .leaf), (5, .own 0 8 3), (6, .leaf), (7, .leaf), (8, .leaf), (9, .ptr 1 0 0 0)], [fbox 8, xbox], [some false, none, none, none, none, none, none, none], 103, 11⟩
theorem q1 : segTo Try.prog (orcFn tabD) 10000 flD shD [1, 1] shR [] = some (.ret, [.fn 40 (ETrue 3) [], .is (.fn 3 [] 0) (.bool true), .ok (.len (.var 0)), .ok (.bin .gtr (.len (.var 0)) (.con (.int .i64 12))), .is (.bin .gtr (.len (.var 0)) (.con (.int .i64 12))) (.bool true), .ok (.con (.bool true))], [.con (.bool true)]) := by kernel_rfl
theorem pre : segTo Try.prog (orcFn tabD) 10000 (flD.take 8) shD [1, 0] shDn [] = some (.normal, [.fn 40 (ETrue 3) [], .is (.fn 3 [] 0) (.bool true), .ok (.len (.var 0)), .ok (.bin .gtr (.len (.var 0)) (.con (.int .i64 12))), .is (.bin .gtr (.len (.var 0)) (.con (.int .i64 12))) (.bool false), .ok (.var 1), .ok (.con (.int .i64 0)), .ok (.con (.int .i64 0)), .ok (.con (.int .i64 0))], [.var 0, .var 1, .con (.int .i64 0), .con (.int .i64 0), .con (.int .i64 0)]) := by kernel_rfl
theorem exn : segTo Try.prog (orcFn tabD) 10000 lpD shDn [0] shDn [] = some (.exit 0, [.ok (.len (.var 0)), .ok (.bin .lss (.var 4) (.len (.var 0))), .is (.bin .lss (.var 4) (.len (.var 0))) (.bool false), .ok (.var 1), .ok (.var 2), .ok (.var 3), .ok (.var 4)], [.var 0, .var 1, .var 2, .var 3, .var 4]) := by kernel_rfl
theorem exo : segTo Try.prog (orcFn tabD) 10000 lpD shDo [0] shDo [(0, 0)] = some (.exit 0, [.ok (.len (.var 0)), .ok (.bin .lss (.var 4) (.len (.var 0))), .is (.bin .lss (.var 4) (.len (.var 0))) (.bool false), .ok (.var 1), .ok (.var 2), .ok (.var 3), .ok (.var 4), same (.len (.var 5)) (.len (.var 5))], [.var 0, .var 1, .var 2, .var 3, .var 4, .var 5]) := by kernel_rfl
theorem hdn : segTo Try.prog (orcFn tabD) 10000 (lpD.take 2) shDn [1] shDn [] = some (.normal, [.ok (.len (.var 0)), .ok (.bin .lss (.var 4) (.len (.var 0))), .is (.bin .lss (.var 4) (.len (.var 0))) (.bool true), .ok (.var 1), .ok (.var 2), .ok (.var 3), .ok (.var 4)], [.var 0, .var 1, .var 2, .var 3, .var 4]) := by kernel_rfl
theorem hdo : segTo Try.prog (orcFn tabD) 10000 (lpD.take 2) shDo [1] shDo [(0, 0)] = some (.normal, [.ok (.len (.var 0)), .ok (.bin .lss (.var 4) (.len (.var 0))), .is (.bin .lss (.var 4) (.len (.var 0))) (.bool true), .ok (.var 1), .ok (.var 2), .ok (.var 3), .ok (.var 4), same (.len (.var 5)) (.len (.var 5))], [.var 0, .var 1, .var 2, .var 3, .var 4, .var 5]) := by kernel_rfl
theorem an0 : segTo Try.prog (orcFn tabD) 10000 (bdD.take 4) shDn [0] shD1 [(3, 0), (1, 0)] hApp = some (.normal, [.idx (.var 0) (.var 4) 1 1, .idx (.var 0) (.var 4) 1 1, .ok (.cell (.var 0) (.var 4) 1 0), .ok (.bin .rem (.cell (.var 0) (.var 4) 1 0) (.con (.int .u8 5))), .ok (.bin .gtr (.bin .rem (.cell (.var 0) (.var 4) 1 0) (.con (.int .u8 5))) (.con (.int .u8 0))), .is (.bin .gtr (.bin .rem (.cell (.var 0) (.var 4) 1 0) (.con (.int .u8 5))) (.con (.int .u8 0))) (.bool false), rng (.con (.int .i64 0)) (.len (.lit 1 [.con (.string { data := { toList := [] } }), .con (.int .i64 0), .con (.string { data := { toList := [] } })])), upto (.len (.lit 1 [.con (.string { data := { toList := [] } }), .con (.int .i64 0), .con (.string { data := { toList := [] } })])) 4294967296, .ok (.var 1), .ok (.var 2), .ok (.var 3), .ok (.var 4), .ok (.con (.string { data := { toList := [] } })), .ok (.con (.int .i64 0)), .ok (.con (.string { data := { toList := [] } })), same (.len (.lit 1 [.con (.string { data := { toList := [] } }), .con (.int .i64 0), .con (.string { data := { toList := [] } })])) (.len (.lit 1 [.con (.string { data := { toList := [] } }), .con (.int .i64 0), .con (.string { data := { toList := [] } })]))], [.var 0, .var 1, .var 2, .var 3, .var 4, .con (.string { data := { toList := [] } }), .con (.int .i64 0), .con (.string { data := { toList := [] } }), .lit 1 [.con (.string { data := { toList := [] } }), .con (.int .i64 0), .con (.string { data := { toList := [] } })]]) := by kernel_rfl
theorem an1 : segTo Try.prog (orcFn tabD) 10000 (bdD.take 4) shDn [1] shD1 [(4, 0), (1, 0)] hApp = some (.normal, [.idx (.var 0) (.var 4) 1 1, .idx (.var 0) (.var 4) 1 1, .ok (.cell (.var 0) (.var 4) 1 0), .ok (.bin .rem (.cell (.var 0) (.var 4) 1 0) (.con (.int .u8 5))), .ok (.bin .gtr (.bin .rem (.cell (.var 0) (.var 4) 1 0) (.con (.int .u8 5))) (.con (.int .u8 0))), .is (.bin .gtr (.bin .rem (.cell (.var 0) (.var 4) 1 0) (.con (.int .u8 5))) (.con (.int .u8 0))) (.bool true), .idx (.var 0) (.var 4) 1 1, .idx (.var 0) (.var 4) 1 1, .ok (.cell (.var 0) (.var 4) 1 0), .ok (.bin .rem (.cell (.var 0) (.var 4) 1 0) (.con (.int .u8 5))), .ok (.bin .add (.con (.int .u8 97)) (.bin .rem (.cell (.var 0) (.var 4) 1 0) (.con (.int .u8 5)))), same (.len (.lit 1 [.bin .add (.con (.int .u8 97)) (.bin .rem (.cell (.var 0) (.var 4) 1 0) (.con (.int .u8 5)))])) (.len (.lit 1 [.bin .add (.con (.int .u8 97)) (.bin .rem (.cell (.var 0) (.var 4) 1 0) (.con (.int .u8 5)))])), .ok (rop ROp.toStr [.lit 1 [.bin .add (.con (.int .u8 97)) (.bin .rem (.cell (.var 0) (.var 4) 1 0) (.con (.int .u8 5)))]]), rng (.con (.int .i64 0)) (.len (.lit 1 [rop ROp.toStr [.lit 1 [.bin .add (.con (.int .u8 97)) (.bin .rem (.cell (.var 0) (.var 4) 1 0) (.con (.int .u8 5)))]], .con (.int .i64 0), .con (.string { data := { toList := [] } })])), upto (.len (.lit 1 [rop ROp.toStr [.lit 1 [.bin .add (.con (.int .u8 97)) (.bin .rem (.cell (.var 0) (.var 4) 1 0) (.con (.int .u8 5)))]], .con (.int .i64 0), .con (.string { data := { toList := [] } })])) 4294967296, .ok (.var 1), .ok (.var 2), .ok (.var 3), .ok (.var 4), .ok (rop ROp.toStr [.lit 1 [.bin .add (.con (.int .u8 97)) (.bin .rem (.cell (.var 0) (.var 4) 1 0) (.con (.int .u8 5)))]]), .ok (.con (.int .i64 0)), .ok (.con (.string { data := { toList := [] } })), same (.len (.lit 1 [rop ROp.toStr [.lit 1 [.bin .add (.con (.int .u8 97)) (.bin .rem (.cell (.var 0) (.var 4) 1 0) (.con (.int .u8 5)))]], .con (.int .i64 0), .con (.string { data := { toList := [] } })])) (.len (.lit 1 [rop ROp.toStr [.lit 1 [.bin .add (.con (.int .u8 97)) (.bin .rem (.cell (.var 0) (.var 4) 1 0) (.con (.int .u8 5)))]], .con (.int .i64 0), .con (.string { data := { toList := [] } })]))], [.var 0, .var 1, .var 2, .var 3, .var 4, rop ROp.toStr [.lit 1 [.bin .add (.con (.int .u8 97)) (.bin .rem (.cell (.var 0) (.var 4) 1 0) (.con (.int .u8 5)))]], .con (.int .i64 0), .con (.string { data := { toList := [] } }), .lit 1 [rop ROp.toStr [.lit 1 [.bin .add (.con (.int .u8 97)) (.bin .rem (.cell (.var 0) (.var 4) 1 0) (.con (.int .u8 5)))]], .con (.int .i64 0), .con (.string { data := { toList := [] } })]]) := by kernel_rfl
theorem ao0 : segTo Try.prog (orcFn tabD) 10000 (bdD.take 4) shDo [0] shD1 [(0, 1), (2, 0)] hApp = some (.normal, [.idx (.var 0) (.var 4) 1 1, .idx (.var 0) (.var 4) 1 1, .ok (.cell (.var 0) (.var 4) 1 0), .ok (.bin .rem (.cell (.var 0) (.var 4) 1 0) (.con (.int .u8 5))), .ok (.bin .gtr (.bin .rem (.cell (.var 0) (.var 4) 1 0) (.con (.int .u8 5))) (.con (.int .u8 0))), .is (.bin .gtr (.bin .rem (.cell (.var 0) (.var 4) 1 0) (.con (.int .u8 5))) (.con (.int .u8 0))) (.bool false), same (.len (.var 5)) (.len (.var 5)), upto (.len (rop ROp.cat [.var 5, .lit 1 [.con (.string { data := { toList := [] } }), .con (.int .i64 0), .con (.string { data := { toList := [] } })]])) 4294967296, .ok (.var 1), .ok (.var 2), .ok (.var 3), .ok (.var 4), .ok (.con (.string { data := { toList := [] } })), .ok (.con (.int .i64 0)), .ok (.con (.string { data := { toList := [] } })), same (.len (rop ROp.cat [.var 5, .lit 1 [.con (.string { data := { toList := [] } }), .con (.int .i64 0), .con (.string { data := { toList := [] } })]])) (.len (rop ROp.cat [.var 5, .lit 1 [.con (.string { data := { toList := [] } }), .con (.int .i64 0), .con (.string { data := { toList := [] } })]]))], [.var 0, .var 1, .var 2, .var 3, .var 4, .con (.string { data := { toList := [] } }), .con (.int .i64 0), .con (.string { data := { toList := [] } }), rop ROp.cat [.var 5, .lit 1 [.con (.string { data := { toList := [] } }), .con (.int .i64 0), .con (.string { data := { toList := [] } })]]]) := by kernel_rfl
theorem ao1 : segTo Try.prog (orcFn tabD) 10000 (bdD.take 4) shDo [1] shD1 [(0, 1), (2, 0)] hApp = some (.normal, [.idx (.var 0) (.var 4) 1 1, .idx (.var 0) (.var 4) 1 1, .ok (.cell (.var 0) (.var 4) 1 0), .ok (.bin .rem (.cell (.var 0) (.var 4) 1 0) (.con (.int .u8 5))), .ok (.bin .gtr (.bin .rem (.cell (.var 0) (.var 4) 1 0) (.con (.int .u8 5))) (.con (.int .u8 0))), .is (.bin .gtr (.bin .rem (.cell (.var 0) (.var 4) 1 0) (.con (.int .u8 5))) (.con (.int .u8 0))) (.bool true), .idx (.var 0) (.var 4) 1 1, .idx (.var 0) (.var 4) 1 1, .ok (.cell (.var 0) (.var 4) 1 0), .ok (.bin .rem (.cell (.var 0) (.var 4) 1 0) (.con (.int .u8 5))), .ok (.bin .add (.con (.int .u8 97)) (.bin .rem (.cell (.var 0) (.var 4) 1 0) (.con (.int .u8 5)))), same (.len (.lit 1 [.bin .add (.con (.int .u8 97)) (.bin .rem (.cell (.var 0) (.var 4) 1 0) (.con (.int .u8 5)))])) (.len (.lit 1 [.bin .add (.con (.int .u8 97)) (.bin .rem (.cell (.var 0) (.var 4) 1 0) (.con (.int .u8 5)))])), .ok (rop ROp.toStr [.lit 1 [.bin .add (.con (.int .u8 97)) (.bin .rem (.cell (.var 0) (.var 4) 1 0) (.con (.int .u8 5)))]]), same (.len (.var 5)) (.len (.var 5)), upto (.len (rop ROp.cat [.var 5, .lit 1 [rop ROp.toStr [.lit 1 [.bin .add (.con (.int .u8 97)) (.bin .rem (.cell (.var 0) (.var 4) 1 0) (.con (.int .u8 5)))]], .con (.int .i64 0), .con (.string { data := { toList := [] } })]])) 4294967296, .ok (.var 1), .ok (.var 2), .ok (.var 3), .ok (.var 4), .ok (rop ROp.toStr [.lit 1 [.bin .add (.con (.int .u8 97)) (.bin .rem (.cell (.var 0) (.var 4) 1 0) (.con (.int .u8 5)))]]), .ok (.con (.int .i64 0)), .ok (.con (.string { data := { toList := [] } })), same (.len (rop ROp.cat [.var 5, .lit 1 [rop ROp.toStr [.lit 1 [.bin .add (.con (.int .u8 97)) (.bin .rem (.cell (.var 0) (.var 4) 1 0) (.con (.int .u8 5)))]], .con (.int .i64 0), .con (.string { data := { toList := [] } })]])) (.len (rop ROp.cat [.var 5, .lit 1 [rop ROp.toStr [.lit 1 [.bin .add (.con (.int .u8 97)) (.bin .rem (.cell (.var 0) (.var 4) 1 0) (.con (.int .u8 5)))]], .con (.int .i64 0), .con (.string { data := { toList := [] } })]]))], [.var 0, .var 1, .var 2, .var 3, .var 4, rop ROp.toStr [.lit 1 [.bin .add (.con (.int .u8 97)) (.bin .rem (.cell (.var 0) (.var 4) 1 0) (.con (.int .u8 5)))]], .con (.int .i64 0), .con (.string { data := { toList := [] } }), rop ROp.cat [.var 5, .lit 1 [rop ROp.toStr [.lit 1 [.bin .add (.con (.int .u8 97)) (.bin .rem (.cell (.var 0) (.var 4) 1 0) (.con (.int .u8 5)))]], .con (.int .i64 0), .con (.string { data := { toList := [] } })]]]) := by kernel_rfl
theorem b0 : segTo Try.prog (orcFn tabD) 10000 ((bdD.drop 4).take 2) shD1 [0] shD1 [(0, 0), (1, 0)] = some (.normal, [.ok (.bin .eql (.var 2) (.con (.int .i64 0))), .is (.bin .eql (.var 2) (.con (.int .i64 0))) (.bool false), .ok (.var 1), .ok (.var 2), .ok (.var 3), .ok (.var 4), .ok (.var 5), .ok (.var 6), .ok (.var 7), same (.len (.var 8)) (.len (.var 8))], [.var 0, .var 1, .var 2, .var 3, .var 4, .var 5, .var 6, .var 7, .var 8]) := by kernel_rfl
theorem b10 : segTo Try.prog (orcFn tabD) 10000 ((bdD.drop 4).take 2) shD1 [1, 0] shD1 [(0, 0), (1, 0)] = some (.normal, [.ok (.bin .eql (.var 2) (.con (.int .i64 0))), .is (.bin .eql (.var 2) (.con (.int .i64 0))) (.bool true), .ok (.bin .rem (.var 1) (.con (.int .u8 4))), .ok (.bin .add (.con (.int .u8 98)) (.bin .rem (.var 1) (.con (.int .u8 4)))), same (.len (.lit 1 [.bin .add (.con (.int .u8 98)) (.bin .rem (.var 1) (.con (.int .u8 4)))])) (.len (.lit 1 [.bin .add (.con (.int .u8 98)) (.bin .rem (.var 1) (.con (.int .u8 4)))])), .ok (rop ROp.toStr [.lit 1 [.bin .add (.con (.int .u8 98)) (.bin .rem (.var 1) (.con (.int .u8 4)))]]), .ok (.bin .eql (.var 5) (rop ROp.toStr [.lit 1 [.bin .add (.con (.int .u8 98)) (.bin .rem (.var 1) (.con (.int .u8 4)))]])), .is (.bin .eql (.var 5) (rop ROp.toStr [.lit 1 [.bin .add (.con (.int .u8 98)) (.bin .rem (.var 1) (.con (.int .u8 4)))]])) (.bool false), .ok (.var 1), .ok (.var 2), .ok (.var 3), .ok (.var 4), .ok (.var 5), .ok (.var 6), .ok (.var 7), same (.len (.var 8)) (.len (.var 8))], [.var 0, .var 1, .var 2, .var 3, .var 4, .var 5, .var 6, .var 7, .var 8]) := by kernel_rfl
theorem b11 : segTo Try.prog (orcFn tabD) 10000 ((bdD.drop 4).take 2) shD1 [1, 1] shD1 [(0, 0), (1, 0)] = some (.normal, [.ok (.bin .eql (.var 2) (.con (.int .i64 0))), .is (.bin .eql (.var 2) (.con (.int .i64 0))) (.bool true), .ok (.bin .rem (.var 1) (.con (.int .u8 4))), .ok (.bin .add (.con (.int .u8 98)) (.bin .rem (.var 1) (.con (.int .u8 4)))), same (.len (.lit 1 [.bin .add (.con (.int .u8 98)) (.bin .rem (.var 1) (.con (.int .u8 4)))])) (.len (.lit 1 [.bin .add (.con (.int .u8 98)) (.bin .rem (.var 1) (.con (.int .u8 4)))])), .ok (rop ROp.toStr [.lit 1 [.bin .add (.con (.int .u8 98)) (.bin .rem (.var 1) (.con (.int .u8 4)))]]), .ok (.bin .eql (.var 5) (rop ROp.toStr [.lit 1 [.bin .add (.con (.int .u8 98)) (.bin .rem (.var 1) (.con (.int .u8 4)))]])), .is (.bin .eql (.var 5) (rop ROp.toStr [.lit 1 [.bin .add (.con (.int .u8 98)) (.bin .rem (.var 1) (.con (.int .u8 4)))]])) (.bool true), .ok (.bin .add (.var 4) (.con (.int .i64 1))), .ok (.var 1), .ok (.bin .add (.var 4) (.con (.int .i64 1))), .ok (.var 3), .ok (.var 4), .ok (.var 5), .ok (.var 6), .ok (.var 7), same (.len (.var 8)) (.len (.var 8))], [.var 0, .var 1, .bin .add (.var 4) (.con (.int .i64 1)), .var 3, .var 4, .var 5, .var 6, .var 7, .var 8]) := by kernel_rfl
theorem c0 : segTo Try.prog (orcFn tabD) 10000 (bdD.drop 6) shD1 [0] shDo [(0, 0)] = some (.normal, [.ok (.bin .eql (.var 3) (.con (.int .i64 0))), .is (.bin .eql (.var 3) (.con (.int .i64 0))) (.bool false), .ok (.var 1), .ok (.var 2), .ok (.var 3), .ok (.var 4), same (.len (.var 8)) (.len (.var 8))], [.var 0, .var 1, .var 2, .var 3, .var 4, .var 8]) := by kernel_rfl
theorem c10 : segTo Try.prog (orcFn tabD) 10000 (bdD.drop 6) shD1 [1, 0] shDo [(0, 0)] = some (.normal, [.ok (.bin .eql (.var 3) (.con (.int .i64 0))), .is (.bin .eql (.var 3) (.con (.int .i64 0))) (.bool true), .ok (.bin .eql (.var 5) (.con (.string { data := { toList := [] } }))), .is (.bin .eql (.var 5) (.con (.string { data := { toList := [] } }))) (.bool false), .ok (.var 1), .ok (.var 2), .ok (.var 3), .ok (.var 4), same (.len (.var 8)) (.len (.var 8))], [.var 0, .var 1, .var 2, .var 3, .var 4, .var 8]) := by kernel_rfl
theorem c11 : segTo Try.prog (orcFn tabD) 10000 (bdD.drop 6) shD1 [1, 1] shDo [(0, 0)] = some (.normal, [.ok (.bin .eql (.var 3) (.con (.int .i64 0))), .is (.bin .eql (.var 3) (.con (.int .i64 0))) (.bool true), .ok (.bin .eql (.var 5) (.con (.string { data := { toList := [] } }))), .is (.bin .eql (.var 5) (.con (.string { data := { toList := [] } }))) (.bool true), .ok (.bin .add (.var 4) (.con (.int .i64 1))), .ok (.var 1), .ok (.var 2), .ok (.bin .add (.var 4) (.con (.int .i64 1))), .ok (.var 4), same (.len (.var 8)) (.len (.var 8))], [.var 0, .var 1, .var 2, .bin .add (.var 4) (.con (.int .i64 1)), .var 4, .var 8]) := by kernel_rfl
theorem stp : segTo Try.prog (orcFn tabD) 10000 (lpD.drop 3) shDo [] shDo [(0, 0)] = some (.normal, [.ok (.bin .add (.var 4) (.con (.int .i64 1))), .ok (.var 1), .ok (.var 2), .ok (.var 3), .ok (.bin .add (.var 4) (.con (.int .i64 1))), same (.len (.var 5)) (.len (.var 5))], [.var 0, .var 1, .var 2, .var 3, .bin .add (.var 4) (.con (.int .i64 1)), .var 5]) := by kernel_rfl
theorem pn : segTo Try.prog (orcFn tabD) 10000 (flD.drop 9) shDn [0, 0, 1, 0, 1, 0] shR [] = some (.ret, [.ok (.bin .rem (.var 1) (.con (.int .u8 4))), .ok (.bin .add (.con (.int .u8 98)) (.bin .rem (.var 1) (.con (.int .u8 4)))), same (.len (.lit 1 [.bin .add (.con (.int .u8 98)) (.bin .rem (.var 1) (.con (.int .u8 4)))])) (.len (.lit 1 [.bin .add (.con (.int .u8 98)) (.bin .rem (.var 1) (.con (.int .u8 4)))])), .ok (rop ROp.toStr [.lit 1 [.bin .add (.con (.int .u8 98)) (.bin .rem (.var 1) (.con (.int .u8 4)))]]), .fn 43 (EFind 1) [.lit 0 [], rop ROp.toStr [.lit 1 [.bin .add (.con (.int .u8 98)) (.bin .rem (.var 1) (.con (.int .u8 4)))]]], .ok (.fn 1 [.lit 0 [], rop ROp.toStr [.lit 1 [.bin .add (.con (.int .u8 98)) (.bin .rem (.var 1) (.con (.int .u8 4)))]]] 0), .is (.fn 1 [.lit 0 [], rop ROp.toStr [.lit 1 [.bin .add (.con (.int .u8 98)) (.bin .rem (.var 1) (.con (.int .u8 4)))]]] 1) (.bool false), .fn 47 (ERoom 2) [.lit 0 []], .ok (.fn 2 [.lit 0 []] 0), .is (.fn 2 [.lit 0 []] 1) (.bool false), .ok (.bin .eql (.fn 1 [.lit 0 [], rop ROp.toStr [.lit 1 [.bin .add (.con (.int .u8 98)) (.bin .rem (.var 1) (.con (.int .u8 4)))]]] 0) (.var 2)), .is (.bin .eql (.fn 1 [.lit 0 [], rop ROp.toStr [.lit 1 [.bin .add (.con (.int .u8 98)) (.bin .rem (.var 1) (.con (.int .u8 4)))]]] 0) (.var 2)) (.bool true), .ok (.bin .gtr (.var 2) (.con (.int .i64 0))), .is (.bin .gtr (.var 2) (.con (.int .i64 0))) (.bool false), .ok (.bin .eql (.fn 2 [.lit 0 []] 0) (.var 3)), .is (.bin .eql (.fn 2 [.lit 0 []] 0) (.var 3)) (.bool true), .ok (.bin .gtr (.var 3) (.con (.int .i64 0))), .is (.bin .gtr (.var 3) (.con (.int .i64 0))) (.bool false), .ok (.con (.bool true))], [.con (.bool true)]) := by kernel_rfl
theorem p00 : segTo Try.prog (orcFn tabD) 10000 (flD.drop 9) shDo [0, 0, 1, 0, 1, 0] shR [] = some (.ret, [.ok (.bin .rem (.var 1) (.con (.int .u8 4))), .ok (.bin .add (.con (.int .u8 98)) (.bin .rem (.var 1) (.con (.int .u8 4)))), same (.len (.lit 1 [.bin .add (.con (.int .u8 98)) (.bin .rem (.var 1) (.con (.int .u8 4)))])) (.len (.lit 1 [.bin .add (.con (.int .u8 98)) (.bin .rem (.var 1) (.con (.int .u8 4)))])), .ok (rop ROp.toStr [.lit 1 [.bin .add (.con (.int .u8 98)) (.bin .rem (.var 1) (.con (.int .u8 4)))]]), .fn 43 (EFind 1) [.var 5, rop ROp.toStr [.lit 1 [.bin .add (.con (.int .u8 98)) (.bin .rem (.var 1) (.con (.int .u8 4)))]]], .ok (.fn 1 [.var 5, rop ROp.toStr [.lit 1 [.bin .add (.con (.int .u8 98)) (.bin .rem (.var 1) (.con (.int .u8 4)))]]] 0), .is (.fn 1 [.var 5, rop ROp.toStr [.lit 1 [.bin .add (.con (.int .u8 98)) (.bin .rem (.var 1) (.con (.int .u8 4)))]]] 1) (.bool false), .fn 47 (ERoom 2) [.var 5], .ok (.fn 2 [.var 5] 0), .is (.fn 2 [.var 5] 1) (.bool false), .ok (.bin .eql (.fn 1 [.var 5, rop ROp.toStr [.lit 1 [.bin .add (.con (.int .u8 98)) (.bin .rem (.var 1) (.con (.int .u8 4)))]]] 0) (.var 2)), .is (.bin .eql (.fn 1 [.var 5, rop ROp.toStr [.lit 1 [.bin .add (.con (.int .u8 98)) (.bin .rem (.var 1) (.con (.int .u8 4)))]]] 0) (.var 2)) (.bool true), .ok (.bin .gtr (.var 2) (.con (.int .i64 0))), .is (.bin .gtr (.var 2) (.con (.int .i64 0))) (.bool false), .ok (.bin .eql (.fn 2 [.var 5] 0) (.var 3)), .is (.bin .eql (.fn 2 [.var 5] 0) (.var 3)) (.bool true), .ok (.bin .gtr (.var 3) (.con (.int .i64 0))), .is (.bin .gtr (.var 3) (.con (.int .i64 0))) (.bool false), .ok (.con (.bool true))], [.con (.bool true)]) := by kernel_rfl
theorem p01 : segTo Try.prog (orcFn tabD) 10000 (flD.drop 9) shDo [0, 1, 1, 0, 1, 1] shR [] = some (.ret, [.ok (.bin .rem (.var 1) (.con (.int .u8 4))), .ok (.bin .add (.con (.int .u8 98)) (.bin .rem (.var 1) (.con (.int .u8 4)))), same (.len (.lit 1 [.bin .add (.con (.int .u8 98)) (.bin .rem (.var 1) (.con (.int .u8 4)))])) (.len (.lit 1 [.bin .add (.con (.int .u8 98)) (.bin .rem (.var 1) (.con (.int .u8 4)))])), .ok (rop ROp.toStr [.lit 1 [.bin .add (.con (.int .u8 98)) (.bin .rem (.var 1) (.con (.int .u8 4)))]]), .fn 43 (EFind 1) [.var 5, rop ROp.toStr [.lit 1 [.bin .add (.con (.int .u8 98)) (.bin .rem (.var 1) (.con (.int .u8 4)))]]], .ok (.fn 1 [.var 5, rop ROp.toStr [.lit 1 [.bin .add (.con (.int .u8 98)) (.bin .rem (.var 1) (.con (.int .u8 4)))]]] 0), .is (.fn 1 [.var 5, rop ROp.toStr [.lit 1 [.bin .add (.con (.int .u8 98)) (.bin .rem (.var 1) (.con (.int .u8 4)))]]] 1) (.bool false), .fn 47 (ERoom 2) [.var 5], .ok (.fn 2 [.var 5] 0), .is (.fn 2 [.var 5] 1) (.bool true), .ok (.bin .eql (.fn 1 [.var 5, rop ROp.toStr [.lit 1 [.bin .add (.con (.int .u8 98)) (.bin .rem (.var 1) (.con (.int .u8 4)))]]] 0) (.var 2)), .is (.bin .eql (.fn 1 [.var 5, rop ROp.toStr [.lit 1 [.bin .add (.con (.int .u8 98)) (.bin .rem (.var 1) (.con (.int .u8 4)))]]] 0) (.var 2)) (.bool true), .ok (.bin .gtr (.var 2) (.con (.int .i64 0))), .is (.bin .gtr (.var 2) (.con (.int .i64 0))) (.bool false), .ok (.bin .eql (.fn 2 [.var 5] 0) (.var 3)), .is (.bin .eql (.fn 2 [.var 5] 0) (.var 3)) (.bool true), .ok (.bin .gtr (.var 3) (.con (.int .i64 0))), .is (.bin .gtr (.var 3) (.con (.int .i64 0))) (.bool true), .ok (.con (.bool true))], [.con (.bool true)]) := by kernel_rfl
theorem p10 : segTo Try.prog (orcFn tabD) 10000 (flD.drop 9) shDo [1, 0, 1, 1, 1, 0] shR [] = some (.ret, [.ok (.bin .rem (.var 1) (.con (.int .u8 4))), .ok (.bin .add (.con (.int .u8 98)) (.bin .rem (.var 1) (.con (.int .u8 4)))), same (.len (.lit 1 [.bin .add (.con (.int .u8 98)) (.bin .rem (.var 1) (.con (.int .u8 4)))])) (.len (.lit 1 [.bin .add (.con (.int .u8 98)) (.bin .rem (.var 1) (.con (.int .u8 4)))])), .ok (rop ROp.toStr [.lit 1 [.bin .add (.con (.int .u8 98)) (.bin .rem (.var 1) (.con (.int .u8 4)))]]), .fn 43 (EFind 1) [.var 5, rop ROp.toStr [.lit 1 [.bin .add (.con (.int .u8 98)) (.bin .rem (.var 1) (.con (.int .u8 4)))]]], .ok (.fn 1 [.var 5, rop ROp.toStr [.lit 1 [.bin .add (.con (.int .u8 98)) (.bin .rem (.var 1) (.con (.int .u8 4)))]]] 0), .is (.fn 1 [.var 5, rop ROp.toStr [.lit 1 [.bin .add (.con (.int .u8 98)) (.bin .rem (.var 1) (.con (.int .u8 4)))]]] 1) (.bool true), .fn 47 (ERoom 2) [.var 5], .ok (.fn 2 [.var 5] 0), .is (.fn 2 [.var 5] 1) (.bool false), .ok (.bin .eql (.fn 1 [.var 5, rop ROp.toStr [.lit 1 [.bin .add (.con (.int .u8 98)) (.bin .rem (.var 1) (.con (.int .u8 4)))]]] 0) (.var 2)), .is (.bin .eql (.fn 1 [.var 5, rop ROp.toStr [.lit 1 [.bin .add (.con (.int .u8 98)) (.bin .rem (.var 1) (.con (.int .u8 4)))]]] 0) (.var 2)) (.bool true), .ok (.bin .gtr (.var 2) (.con (.int .i64 0))), .is (.bin .gtr (.var 2) (.con (.int .i64 0))) (.bool true), .ok (.bin .eql (.fn 2 [.var 5] 0) (.var 3)), .is (.bin .eql (.fn 2 [.var 5] 0) (.var 3)) (.bool true), .ok (.bin .gtr (.var 3) (.con (.int .i64 0))), .is (.bin .gtr (.var 3) (.con (.int .i64 0))) (.bool false), .ok (.con (.bool true))], [.con (.bool true)]) := by kernel_rfl
theorem p11 : segTo Try.prog (orcFn tabD) 10000 (flD.drop 9) shDo [1, 1, 1, 1, 1, 1] shR [] = some (.ret, [.ok (.bin .rem (.var 1) (.con (.int .u8 4))), .ok (.bin .add (.con (.int .u8 98)) (.bin .rem (.var 1) (.con (.int .u8 4)))), same (.len (.lit 1 [.bin .add (.con (.int .u8 98)) (.bin .rem (.var 1) (.con (.int .u8 4)))])) (.len (.lit 1 [.bin .add (.con (.int .u8 98)) (.bin .rem (.var 1) (.con (.int .u8 4)))])), .ok (rop ROp.toStr [.lit 1 [.bin .add (.con (.int .u8 98)) (.bin .rem (.var 1) (.con (.int .u8 4)))]]), .fn 43 (EFind 1) [.var 5, rop ROp.toStr [.lit 1 [.bin .add (.con (.int .u8 98)) (.bin .rem (.var 1) (.con (.int .u8 4)))]]], .ok (.fn 1 [.var 5, rop ROp.toStr [.lit 1 [.bin .add (.con (.int .u8 98)) (.bin .rem (.var 1) (.con (.int .u8 4)))]]] 0), .is (.fn 1 [.var 5, rop ROp.toStr [.lit 1 [.bin .add (.con (.int .u8 98)) (.bin .rem (.var 1) (.con (.int .u8 4)))]]] 1) (.bool true), .fn 47 (ERoom 2) [.var 5], .ok (.fn 2 [.var 5] 0), .is (.fn 2 [.var 5] 1) (.bool true), .ok (.bin .eql (.fn 1 [.var 5, rop ROp.toStr [.lit 1 [.bin .add (.con (.int .u8 98)) (.bin .rem (.var 1) (.con (.int .u8 4)))]]] 0) (.var 2)), .is (.bin .eql (.fn 1 [.var 5, rop ROp.toStr [.lit 1 [.bin .add (.con (.int .u8 98)) (.bin .rem (.var 1) (.con (.int .u8 4)))]]] 0) (.var 2)) (.bool true), .ok (.bin .gtr (.var 2) (.con (.int .i64 0))), .is (.bin .gtr (.var 2) (.con (.int .i64 0))) (.bool true), .ok (.bin .eql (.fn 2 [.var 5] 0) (.var 3)), .is (.bin .eql (.fn 2 [.var 5] 0) (.var 3)) (.bool true), .ok (.bin .gtr (.var 3) (.con (.int .i64 0))), .is (.bin .gtr (.var 3) (.con (.int .i64 0))) (.bool true), .ok (.con (.bool true))], [.con (.bool true)]) := by kernel_rfl

/-! The model. -/
def ch (k : Nat) : ByteArray := ⟨⟨[UInt8.ofNat k]⟩⟩
def nm (z : Nat) : ByteArray := if z % 5 = 0 then e0 else ch (97 + z % 5)
def fileOf (z : Nat) : FileM := (nm z, 0, e0)
def qn (n : Nat) : ByteArray := ch (98 + n % 4)
def encIx : Option Nat → Nat | some j => j + 1 | none => 0
theorem r_ch (k : Nat) (h : k < 256) : ropPV .toStr [.row 1 [pU (k : Int)]] = some (pS (ch k)) := by
  have h1 : (0 : Int) ≤ (k : Int) := by omega
  have h2 : (k : Int) < 256 := by omega
  simp [ropPV, bytesPV, bytePV, h1, h2, ch]
theorem okQ (n : Nat) : okN (qn n) = true := by
  have h : n % 4 < 4 := Nat.mod_lt _ (by omega)
  unfold qn
  generalize n % 4 = r at h
  match r, h with
  | 0, _ => decide
  | 1, _ => decide
  | 2, _ => decide
  | 3, _ => decide
theorem ch_size (k : Nat) : (ch k).size = 1 := rfl
theorem nm_size (z : Nat) : (nm z).size ≤ 1 := by
  unfold nm
  split
  · exact Nat.zero_le _
  · exact Nat.le_refl _
theorem find_snoc {α : Type} (p : α → Bool) (xs : List α) (x : α) : encIx ((xs ++ [x]).findIdx? p) = if encIx (xs.findIdx? p) = 0 then (if p x then xs.length + 1 else 0) else encIx (xs.findIdx? p) := by
  rw [List.findIdx?_append]
  cases h : xs.findIdx? p with
  | some j => simp [encIx]
  | none => cases hx : p x <;> simp [encIx, hx]
theorem ans_enc (o : Option Nat) : ansQ o = [pI (encIx o : Int), pB o.isSome] := by cases o <;> rfl
theorem enc_pos (o : Option Nat) : (0 < encIx o) ↔ o.isSome = true := by cases o <;> simp [encIx]
theorem r_catF (a : List FileM) (x : FileM) : ropPV .cat [pRow encF a, .row 1 [pS x.1, pI x.2.1, pS x.2.2]] = some (pRow encF (a ++ [x])) := by simp [ropPV, pRow, Enc.all, encF]
theorem rowF1 (x : FileM) : (PV.row 1 [pS x.1, pI x.2.1, pS x.2.2]) = pRow encF [x] := by simp [pRow, Enc.all, encF]

theorem cutD : flD = flD.take 8 ++ .block (blockId (nth flD 8)) (.loop (loopBody (nth flD 8))) :: flD.drop 9 := by kernel_rfl
theorem cutL : lpD = lpD.take 2 ++ .block (blockId (nth lpD 2)) (blockBody (nth lpD 2)) :: lpD.drop 3 := by kernel_rfl
theorem cutB : bdD = bdD.take 4 ++ ((bdD.drop 4).take 2 ++ bdD.drop 6) := by kernel_rfl
def ELaw (k : Nat) : FnE := { k := k, ins := [none, none], leaks := [false, false], outs := [none], kinds := [.truth] }
def RL (ps qs : List PV) : Prop := ∃ (l : List Nat) (n : Nat), l.length ≤ 9223372036854775807 ∧ (∀ z ∈ l, z < 256) ∧ n < 256 ∧ ps = [pRow encU l, pU (n : Int)] ∧ qs = [pB true]
theorem fL : ∀ ps q1 q2, RL ps q1 → RL ps q2 → q1 = q2 := by
  rintro ps q1 q2 ⟨_, _, _, _, _, _, rfl⟩ ⟨_, _, _, _, _, _, rfl⟩; rfl
noncomputable def G : Fns := fun k => match k with | 1 => spec RFind | 2 => spec RRoom | 3 => spec RTrue | _ => fun _ => none
theorem ranB : isTrue ((theEng Try.prog fil.noOrc 100000).call 40 [] ⟨.nil, 0, []⟩) = true := by kernel_rfl
theorem u1 : ToldF 43 (EFind 1) (G 1) := toldFind 1
theorem u2 : ToldF 47 (ERoom 2) (G 2) := toldRoom 2
theorem u3 : ToldF 40 (ETrue 3) (G 3) := told_closed 3 fun w => calls_true names_ok mixed_ok fil.noOrc_ok (args := []) ranB w
theorem G3 : G 3 [] = some [pB true] := spec_of fTrue ⟨rfl, rfl⟩
theorem G1 {l : List FileM} {s : ByteArray} (h : l.length ≤ 1000000) (hs : s.size ≤ 9223372036854775807) : G 1 [pRow encF l, pS s] = some (ansQ (findN l s)) := spec_of fFind ⟨l, s, h, hs, rfl, rfl⟩
theorem G2 {l : List FileM} (h : l.length ≤ 1000000) : G 2 [pRow encF l] = some (ansQ (l.findIdx? (isN e0))) := spec_of fRoom ⟨l, h, rfl, rfl⟩
def fs (l : List Nat) (i : Nat) : List FileM := (l.take i).map fileOf
abbrev stN (l : List Nat) (n f r i : Nat) : List PV := [pRow encU l, pU (n : Int), pI (f : Int), pI (r : Int), pI (i : Int)]
def fi (l : List Nat) (n i : Nat) : Nat := encIx ((fs l i).findIdx? (isN (qn n)))
def ri (l : List Nat) (i : Nat) : Nat := encIx ((fs l i).findIdx? (isN e0))
set_option maxHeartbeats 4000000 in
theorem told (k0 : Nat) : ToldF 11 (ELaw k0) (spec RL) := by
  refine told_by G _ (bodyOf Try.prog 11) Try.func11 (by kernel_rfl) shD (by kernel_rfl) ?_ ?_
  · intro ps qs h i hi
    obtain ⟨l, n, _, _, _, rfl, rfl⟩ := of_spec h
    simp [shD] at hi
    match i, hi with
    | 0, hi => simp at hi
    | 1, hi => exact ⟨_, rfl, rfl⟩
    | i + 2, hi => simp at hi
  · intro C ps qs hF h a w hsh
    obtain ⟨l, n, hl, hz, hn, rfl, rfl⟩ := of_spec h
    show wpL Try.prog flD _ a w
    have fin : ∀ qs a1 w1, qs = [pB true] → InShape C shR qs a1 w1 → (AX.ret = .normal → wpL Try.prog [] (fun e a' w' => (e = .normal ∨ e = .ret) ∧ ∃ sh' ps' es, InShape C sh' ps' a' w' ∧ resTo Try.prog Try.f11 sh' (ELaw k0) = some es ∧ evs (fun i => ps'[i]?) G es = some [pB true]) a1 w1) ∧ (AX.ret ≠ .normal → (AX.ret.to = .normal ∨ AX.ret.to = .ret) ∧ ∃ sh' ps' es, InShape C sh' ps' a1 w1 ∧ resTo Try.prog Try.f11 sh' (ELaw k0) = some es ∧ evs (fun i => ps'[i]?) G es = some [pB true]) := by
      rintro qs a1 w1 rfl h1
      exact ⟨fun h => (by cases h), fun _ => ⟨.inr rfl, shR, _, [SX.var 0], h1, by kernel_rfl, rfl⟩⟩
    by_cases hl1 : 12 < l.length
    · rw [← List.append_nil flD]
      refine seg_ok names_ok mixed_ok (orcFn_ok _) q1 hsh ?_ (fun qs a1 w1 hq h1 => fin qs a1 w1 (by simp [evs, SX.ev] at hq; exact hq.symm) h1)
      simp only [List.mem_cons, List.not_mem_nil, or_false, forall_eq_or_imp, forall_eq]
      simp [Base.ev, SX.ev, evs, Value.oneCell', hF, lenPV_row, binPV, G3, u3]
      omega
    rw [cutD]
    -- the search
    have hr4 : n % 4 < 4 := Nat.mod_lt _ (by omega)
    have wq : IntKind.u8.wrap (98 + ((n : Int).tmod 4)) = ((98 + n % 4 : Nat) : Int) := by
      have : ((n : Int).tmod 4) = ((n % 4 : Nat) : Int) := rfl
      rw [this]
      generalize n % 4 = r at hr4
      match r, hr4 with
      | 0, _ => rfl
      | 1, _ => rfl
      | 2, _ => rfl
      | 3, _ => rfl
    have rq : ropPV .toStr [.row 1 [pU ((98 + n % 4 : Nat) : Int)]] = some (pS (qn n)) := r_ch _ (by omega)
    have oq := okQ n
    have sq : (qn n).size = 1 := rfl
    generalize ((98 + n % 4 : Nat) : Int) = qv at wq rq
    refine seg_ok names_ok mixed_ok (orcFn_ok _) pre hsh ?_ ?_
    · simp only [List.mem_cons, List.not_mem_nil, or_false, forall_eq_or_imp, forall_eq]
      simp [Base.ev, SX.ev, evs, Value.oneCell', hF, lenPV_row, binPV, G3, u3]
      omega
    intro qs a1 w1 hq h1
    refine ⟨fun _ => ?_, fun h => absurd rfl h⟩
    simp [evs, SX.ev] at hq
    subst hq
    refine block_loop (fun q a w => ∃ i, i ≤ l.length ∧ q = l.length - i ∧ ((i = 0 ∧ InShape C shDn (stN l n 0 0 0) a w) ∨ (0 < i ∧ InShape C shDo (stN l n (fi l n i) (ri l i) i ++ [pRow encF (fs l i)]) a w))) ?_ (n := l.length) ⟨0, by omega, by omega, .inl ⟨rfl, h1⟩⟩
    rintro q a w ⟨i, hi, rfl, hin⟩
    show wpL Try.prog lpD _ a w
    by_cases hlt : i < l.length
    · -- a round
      have hzi : l[i] < 256 := hz _ (List.getElem_mem hlt)
      have hcell := cellU l i hlt
      have hgd : l.getD i 0 = l[i] := by simp [List.getD, hlt]
      rw [hgd] at hcell
      have hfs : fs l (i + 1) = fs l i ++ [fileOf l[i]] := by simp only [fs, List.take_add_one, List.getElem?_eq_getElem hlt, Option.toList_some, List.map_append, List.map_cons, List.map_nil]
      have hlen : (fs l i).length = i := by simp [fs]; omega
      have hfi : fi l n (i + 1) = if fi l n i = 0 then (if isN (qn n) (fileOf l[i]) then i + 1 else 0) else fi l n i := by show encIx ((fs l (i + 1)).findIdx? _) = _; rw [hfs, find_snoc, hlen]; rfl
      have hri : ri l (i + 1) = if ri l i = 0 then (if isN e0 (fileOf l[i]) then i + 1 else 0) else ri l i := by show encIx ((fs l (i + 1)).findIdx? _) = _; rw [hfs, find_snoc, hlen]; rfl
      have v3 : IntKind.i64.wrap ((i : Int) + 1) = (i : Int) + 1 := wrapI _ (by omega) (by omega)
      have wz : IntKind.u8.wrap (97 + ((l[i] : Int).tmod 5)) = ((97 + l[i] % 5 : Nat) : Int) := by
        have : ((l[i] : Int).tmod 5) = ((l[i] % 5 : Nat) : Int) := rfl
        rw [this]
        have hr : l[i] % 5 < 5 := Nat.mod_lt _ (by omega)
        generalize l[i] % 5 = r at hr
        match r, hr with
        | 0, _ => rfl
        | 1, _ => rfl
        | 2, _ => rfl
        | 3, _ => rfl
        | 4, _ => rfl
      have wz' : IntKind.u8.wrap (97 + ((l[i] : Int) % 5)) = ((97 + l[i] % 5 : Nat) : Int) := wz
      have rz : ropPV .toStr [.row 1 [pU ((97 + l[i] % 5 : Nat) : Int)]] = some (pS (ch (97 + l[i] % 5))) := r_ch _ (by have : l[i] % 5 < 5 := Nat.mod_lt _ (by omega); omega)
      have tz : ((l[i] : Int).tmod 5) = ((l[i] % 5 : Nat) : Int) := rfl
      -- what is in the loop behind the new file
      let Q : Exit → Act → World → Prop := fun e a' w' => (e = .normal ∧ ∃ n', n' < l.length - i ∧ ∃ j, j ≤ l.length ∧ n' = l.length - j ∧ ((j = 0 ∧ InShape C shDn (stN l n 0 0 0) a' w') ∨ (0 < j ∧ InShape C shDo (stN l n (fi l n j) (ri l j) j ++ [pRow encF (fs l j)]) a' w'))) ∨ (e = .exit (blockId (nth flD 8)) ∧ wpL Try.prog (flD.drop 9) (fun e a' w' => (e = .normal ∨ e = .ret) ∧ ∃ sh' ps' es, InShape C sh' ps' a' w' ∧ resTo Try.prog Try.f11 sh' (ELaw k0) = some es ∧ evs (fun i => ps'[i]?) G es = some [pB true]) a' w') ∨ (e = .ret ∧ ((Exit.ret = .normal ∨ Exit.ret = .ret) ∧ ∃ sh' ps' es, InShape C sh' ps' a' w' ∧ resTo Try.prog Try.f11 sh' (ELaw k0) = some es ∧ evs (fun i => ps'[i]?) G es = some [pB true]))
      let QB : Exit → Act → World → Prop := fun e a' w' => (e = .normal ∧ wpL Try.prog (lpD.drop 3) Q a' w') ∨ (e = .exit (blockId (nth lpD 2)) ∧ wpL Try.prog (lpD.drop 3) Q a' w') ∨ (e = .ret ∧ Q .ret a' w') ∨ (∃ j, j ≠ (blockId (nth lpD 2)) ∧ e = .exit j ∧ Q (.exit j) a' w') ∨ (∃ ch, e = .panic ch ∧ Q (.panic ch) a' w')
      have stC : ∀ a w, InShape C shDo (stN l n (fi l n (i + 1)) (ri l (i + 1)) i ++ [pRow encF (fs l (i + 1))]) a w → wpL Try.prog (lpD.drop 3) Q a w := by
        intro a w hin
        rw [← List.append_nil (lpD.drop 3)]
        refine seg_ok names_ok mixed_ok (orcFn_ok _) stp hin ?_ ?_
        · simp only [List.mem_cons, List.not_mem_nil, or_false, forall_eq_or_imp, forall_eq]
          simp [Base.ev, SX.ev, evs, Value.oneCell', lenPV_row, binPV, v3]
        · intro qs a1 w1 hq h1
          refine ⟨fun _ => .inl ⟨rfl, l.length - (i + 1), by omega, i + 1, by omega, rfl, .inr ⟨by omega, ?_⟩⟩, fun h => absurd rfl h⟩
          simp [evs, SX.ev, binPV, v3] at hq
          subst hq
          exact h1
      have stB2 : ∀ a w, InShape C shD1 (stN l n (fi l n (i + 1)) (ri l i) i ++ [pS (nm l[i]), pI 0, pS e0, pRow encF (fs l (i + 1))]) a w → wpL Try.prog (bdD.drop 6) QB a w := by
        intro a w hin
        rw [← List.append_nil (bdD.drop 6)]
        have go : ∀ (r : Nat), r = ri l (i + 1) → ∀ qs a1 w1, qs = stN l n (fi l n (i + 1)) r i ++ [pRow encF (fs l (i + 1))] → InShape C shDo qs a1 w1 → (AX.normal = .normal → wpL Try.prog [] QB a1 w1) ∧ (AX.normal ≠ .normal → QB AX.normal.to a1 w1) := by
          rintro r hr qs a1 w1 rfl h1
          rw [hr] at h1
          exact ⟨fun _ => .inl ⟨rfl, stC a1 w1 h1⟩, fun h => absurd rfl h⟩
        by_cases h0 : ri l i = 0
        · rw [h0] at hin
          rw [h0, if_pos rfl] at hri
          have hsize := nm_size l[i]
          by_cases hp : isN e0 (fileOf l[i]) = true
          · rw [if_pos hp] at hri
            have hp' : (nm l[i]).toList = [] := by simpa [isN, e0, fileOf] using hp
            generalize nm l[i] = x at *
            refine seg_ok names_ok mixed_ok (orcFn_ok _) c11 hin ?_ (fun qs a1 w1 hq h1 => go (i + 1) (by rw [hri]) qs a1 w1 (by simp [evs, SX.ev, binPV, v3] at hq; exact hq.symm) h1)
            simp only [List.mem_cons, List.not_mem_nil, or_false, forall_eq_or_imp, forall_eq]
            simp [Base.ev, SX.ev, evs, Value.oneCell', lenPV_row, binPV, v3, hp']
          · rw [if_neg hp] at hri
            have hp' : ¬ (nm l[i]).toList = [] := by simpa [isN, e0, fileOf] using hp
            generalize nm l[i] = x at *
            refine seg_ok names_ok mixed_ok (orcFn_ok _) c10 hin ?_ (fun qs a1 w1 hq h1 => go 0 (by rw [hri]) qs a1 w1 (by simp [evs, SX.ev, binPV, v3] at hq; exact hq.symm) h1)
            simp only [List.mem_cons, List.not_mem_nil, or_false, forall_eq_or_imp, forall_eq]
            simp [Base.ev, SX.ev, evs, Value.oneCell', lenPV_row, binPV, v3, hp']
        · rw [if_neg h0] at hri
          refine seg_ok names_ok mixed_ok (orcFn_ok _) c0 hin ?_ (fun qs a1 w1 hq h1 => go (ri l i) (by rw [hri]) qs a1 w1 (by simp [evs, SX.ev, binPV, v3] at hq; exact hq.symm) h1)
          simp only [List.mem_cons, List.not_mem_nil, or_false, forall_eq_or_imp, forall_eq]
          simp [Base.ev, SX.ev, evs, Value.oneCell', lenPV_row, binPV, v3]
          omega
      have stB1 : ∀ a w, InShape C shD1 (stN l n (fi l n i) (ri l i) i ++ [pS (nm l[i]), pI 0, pS e0, pRow encF (fs l (i + 1))]) a w → wpL Try.prog ((bdD.drop 4).take 2 ++ bdD.drop 6) QB a w := by
        intro a w hin
        have go : ∀ (r : Nat), r = fi l n (i + 1) → ∀ qs a1 w1, qs = stN l n r (ri l i) i ++ [pS (nm l[i]), pI 0, pS e0, pRow encF (fs l (i + 1))] → InShape C shD1 qs a1 w1 → (AX.normal = .normal → wpL Try.prog (bdD.drop 6) QB a1 w1) ∧ (AX.normal ≠ .normal → QB AX.normal.to a1 w1) := by
          rintro r hr qs a1 w1 rfl h1
          rw [hr] at h1
          exact ⟨fun _ => stB2 a1 w1 h1, fun h => absurd rfl h⟩
        clear stB2 stC
        by_cases h0 : fi l n i = 0
        · rw [h0] at hin
          rw [h0, if_pos rfl] at hfi
          by_cases hp : isN (qn n) (fileOf l[i]) = true
          · rw [if_pos hp] at hfi
            have hp' : ((nm l[i]).toList == (qn n).toList) = true := hp
            generalize nm l[i] = x at *
            generalize qn n = y at *
            refine seg_ok names_ok mixed_ok (orcFn_ok _) b11 hin ?_ (fun qs a1 w1 hq h1 => go (i + 1) (by rw [hfi]) qs a1 w1 (by simp [evs, SX.ev, binPV, v3] at hq; exact hq.symm) h1)
            simp only [List.mem_cons, List.not_mem_nil, or_false, forall_eq_or_imp, forall_eq]
            simp [Base.ev, SX.ev, evs, Value.oneCell', lenPV_row, lenPV_r, binPV, v3, wq, rq, hp']
          · rw [if_neg hp] at hfi
            have hp' : ((nm l[i]).toList == (qn n).toList) = false := by simpa using (show ¬ ((nm l[i]).toList == (qn n).toList) = true from hp)
            generalize nm l[i] = x at *
            generalize qn n = y at *
            refine seg_ok names_ok mixed_ok (orcFn_ok _) b10 hin ?_ (fun qs a1 w1 hq h1 => go 0 (by rw [hfi]) qs a1 w1 (by simp [evs, SX.ev, binPV, v3] at hq; exact hq.symm) h1)
            simp only [List.mem_cons, List.not_mem_nil, or_false, forall_eq_or_imp, forall_eq]
            simp [Base.ev, SX.ev, evs, Value.oneCell', lenPV_row, lenPV_r, binPV, v3, wq, rq, hp']
        · rw [if_neg h0] at hfi
          refine seg_ok names_ok mixed_ok (orcFn_ok _) b0 hin ?_ (fun qs a1 w1 hq h1 => go (fi l n i) (by rw [hfi]) qs a1 w1 (by simp [evs, SX.ev, binPV, v3] at hq; exact hq.symm) h1)
          simp only [List.mem_cons, List.not_mem_nil, or_false, forall_eq_or_imp, forall_eq]
          simp [Base.ev, SX.ev, evs, Value.oneCell', lenPV_row, binPV, v3]
          omega
      clear stC stB2
      have ixn : (Fact.idx (var 0) (var 4) 1 1).holds (C.with [pRow encU l, pU (n : Int), pI 0, pI 0, pI (i : Int)]) := idx_row encU l i 1 1 rfl hlt (by decide)
      rw [cutL]
      rcases hin with ⟨h0, hin⟩ | ⟨h0, hin⟩
      · subst h0
        refine seg_ok names_ok mixed_ok (orcFn_ok _) hdn hin ?_ ?_
        · simp only [List.mem_cons, List.not_mem_nil, or_false, forall_eq_or_imp, forall_eq]
          simp [Base.ev, SX.ev, evs, Value.oneCell', lenPV_row, binPV]
          exact hlt
        intro qs a1 w1 hq h1
        refine ⟨fun _ => ?_, fun h => absurd rfl h⟩
        simp [evs, SX.ev] at hq
        subst hq
        refine block_in ?_
        show wpL Try.prog bdD QB a1 w1
        rw [cutB]
        have e1 : fi l n 0 = 0 := rfl
        have e2 : ri l 0 = 0 := rfl
        rw [e1, e2] at stB1
        have hfs0 : fs l 1 = [fileOf l[0]] := hfs
        have hcell : cellPV (pRow encU l) (pI 0) 1 0 = some (pU (l[0] : Int)) := hcell
        have ixn : (Fact.idx (var 0) (var 4) 1 1).holds (C.with [pRow encU l, pU (n : Int), pI 0, pI 0, pI 0]) := ixn
        by_cases hm : l[0] % 5 = 0
        · have hnm : nm l[0] = e0 := by rw [nm, if_pos hm]
          refine seg_ok names_ok mixed_ok (orcFn_ok _) an0 h1 ?_ ?_
          · simp only [List.mem_cons, List.not_mem_nil, or_false, forall_eq_or_imp, forall_eq]
            simp [-holds_idx, Base.ev, SX.ev, evs, Value.oneCell', lenPV_row, lenPV_r, binPV, hcell, ixn, tz, hm]
          · intro qs a2 w2 hq h2
            refine ⟨fun _ => stB1 a2 w2 ?_, fun h => absurd rfl h⟩
            simp [evs, SX.ev] at hq
            subst hq
            rw [hfs0, fileOf, hnm, ← rowF1]
            exact h2
        · have hnm : nm l[0] = ch (97 + l[0] % 5) := by rw [nm, if_neg hm]
          have hm' : 0 < l[0] % 5 := by omega
          rw [← hnm] at rz
          generalize ((97 + l[0] % 5 : Nat) : Int) = zv at wz wz' rz
          refine seg_ok names_ok mixed_ok (orcFn_ok _) an1 h1 ?_ ?_
          · simp only [List.mem_cons, List.not_mem_nil, or_false, forall_eq_or_imp, forall_eq]
            simp [-holds_idx, Base.ev, SX.ev, evs, Value.oneCell', lenPV_row, lenPV_r, binPV, hcell, ixn, tz, wz, wz', rz]
            omega
          · intro qs a2 w2 hq h2
            refine ⟨fun _ => stB1 a2 w2 ?_, fun h => absurd rfl h⟩
            simp [evs, SX.ev, binPV, hcell, wz, wz', rz] at hq
            subst hq
            rw [hfs0, fileOf, ← rowF1]
            exact h2
      · refine seg_ok names_ok mixed_ok (orcFn_ok _) hdo hin ?_ ?_
        · simp only [List.mem_cons, List.not_mem_nil, or_false, forall_eq_or_imp, forall_eq]
          simp [Base.ev, SX.ev, evs, Value.oneCell', lenPV_row, binPV]
          exact hlt
        intro qs a1 w1 hq h1
        refine ⟨fun _ => ?_, fun h => absurd rfl h⟩
        simp [evs, SX.ev] at hq
        subst hq
        refine block_in ?_
        show wpL Try.prog bdD QB a1 w1
        rw [cutB]
        have ixo : (Fact.idx (var 0) (var 4) 1 1).holds (C.with [pRow encU l, pU (n : Int), pI (fi l n i : Int), pI (ri l i : Int), pI (i : Int), pRow encF (fs l i)]) := idx_row encU l i 1 1 rfl hlt (by decide)
        rw [hfs] at stB1
        generalize fi l n i = f at *
        generalize ri l i = r at *
        generalize fs l i = F0 at *
        have hcat := r_catF F0 (fileOf l[i])
        have hlc : (F0 ++ [fileOf l[i]]).length = i + 1 := by simp [hlen]
        simp only [fileOf] at hcat stB1 hlc
        by_cases hm : l[i] % 5 = 0
        · have hnm : nm l[i] = e0 := by rw [nm, if_pos hm]
          rw [hnm] at hcat stB1 hlc
          have hcat' : ropPV .cat [pRow encF F0, .row 1 [pS ⟨⟨[]⟩⟩, pI 0, pS ⟨⟨[]⟩⟩]] = some (pRow encF (F0 ++ [(e0, 0, e0)])) := hcat
          generalize F0 ++ [(e0, 0, e0)] = F1 at *
          refine seg_ok names_ok mixed_ok (orcFn_ok _) ao0 h1 ?_ ?_
          · simp only [List.mem_cons, List.not_mem_nil, or_false, forall_eq_or_imp, forall_eq]
            simp [-holds_idx, Base.ev, SX.ev, evs, Value.oneCell', lenPV_row, binPV, hcell, ixo, tz, hm, hcat']
            omega
          · intro qs a2 w2 hq h2
            refine ⟨fun _ => stB1 a2 w2 ?_, fun h => absurd rfl h⟩
            simp [evs, SX.ev, hcat'] at hq
            subst hq
            exact h2
        · have hnm : nm l[i] = ch (97 + l[i] % 5) := by rw [nm, if_neg hm]
          have hm' : 0 < l[i] % 5 := by omega
          rw [← hnm] at rz
          generalize ((97 + l[i] % 5 : Nat) : Int) = zv at wz wz' rz
          generalize nm l[i] = x at *
          have hcat' : ropPV .cat [pRow encF F0, .row 1 [pS x, pI 0, pS ⟨⟨[]⟩⟩]] = some (pRow encF (F0 ++ [(x, 0, e0)])) := hcat
          generalize F0 ++ [(x, 0, e0)] = F1 at *
          refine seg_ok names_ok mixed_ok (orcFn_ok _) ao1 h1 ?_ ?_
          · simp only [List.mem_cons, List.not_mem_nil, or_false, forall_eq_or_imp, forall_eq]
            simp [-holds_idx, Base.ev, SX.ev, evs, Value.oneCell', lenPV_row, lenPV_r, binPV, hcell, ixo, tz, wz, wz', rz, hcat']
            omega
          · intro qs a2 w2 hq h2
            refine ⟨fun _ => stB1 a2 w2 ?_, fun h => absurd rfl h⟩
            simp [evs, SX.ev, binPV, hcell, wz, wz', rz, hcat'] at hq
            subst hq
            exact h2
    · -- behind the loop
      have hie : i = l.length := by omega
      subst hie
      rw [← List.append_nil lpD]
      rcases hin with ⟨h0, hin⟩ | ⟨h0, hin⟩
      · rw [h0] at hlt
        have hl0 : l.length = 0 := h0
        refine seg_ok names_ok mixed_ok (orcFn_ok _) exn hin ?_ ?_
        · simp only [List.mem_cons, List.not_mem_nil, or_false, forall_eq_or_imp, forall_eq]
          simp [Base.ev, SX.ev, evs, Value.oneCell', lenPV_row, binPV]
          exact List.length_eq_zero_iff.1 hl0
        · intro qs a1 w1 hq h1
          refine ⟨fun h => (by cases h), fun _ => .inr (.inl ⟨by rw [show blockId (nth flD 8) = 0 by kernel_rfl]; rfl, ?_⟩)⟩
          simp [evs, SX.ev] at hq
          subst hq
          rw [← List.append_nil (flD.drop 9)]
          have g1 : G 1 [.row 0 [], pS (qn n)] = some [pI 0, pB false] := by
            have := G1 (l := []) (s := qn n) (by simp) (by rw [sq]; omega)
            simpa [findN, oq, ansQ, pRow, Enc.all] using this
          have g2 : G 2 [.row 0 []] = some [pI 0, pB false] := by
            have := G2 (l := []) (by simp)
            simpa [ansQ, pRow, Enc.all] using this
          refine seg_ok names_ok mixed_ok (orcFn_ok _) pn h1 ?_ (fun qs a1 w1 hq h1 => fin qs a1 w1 (by simp [evs, SX.ev] at hq; exact hq.symm) h1)
          simp only [List.mem_cons, List.not_mem_nil, or_false, forall_eq_or_imp, forall_eq]
          simp [Base.ev, SX.ev, evs, Value.oneCell', hF, lenPV_r, binPV, wq, rq, g1, g2, u1, u2]
      · refine seg_ok names_ok mixed_ok (orcFn_ok _) exo hin ?_ ?_
        · simp only [List.mem_cons, List.not_mem_nil, or_false, forall_eq_or_imp, forall_eq]
          simp [Base.ev, SX.ev, evs, Value.oneCell', lenPV_row, binPV]
        · intro qs a1 w1 hq h1
          refine ⟨fun h => (by cases h), fun _ => .inr (.inl ⟨by rw [show blockId (nth flD 8) = 0 by kernel_rfl]; rfl, ?_⟩)⟩
          simp [evs, SX.ev] at hq
          subst hq
          rw [← List.append_nil (flD.drop 9)]
          have hlf : (fs l l.length).length ≤ 1000000 := by simp [fs]; omega
          have g1 := G1 (s := qn n) hlf (by rw [sq]; omega)
          have g2 := G2 hlf
          have hfn : findN (fs l l.length) (qn n) = (fs l l.length).findIdx? (isN (qn n)) := by rw [findN, if_pos oq]
          rw [hfn, ans_enc] at g1
          rw [ans_enc] at g2
          have hp1 := enc_pos ((fs l l.length).findIdx? (isN (qn n)))
          have hp2 := enc_pos ((fs l l.length).findIdx? (isN e0))
          have ef : fi l n l.length = encIx ((fs l l.length).findIdx? (isN (qn n))) := rfl
          have er : ri l l.length = encIx ((fs l l.length).findIdx? (isN e0)) := rfl
          rw [← ef] at g1 hp1
          rw [← er] at g2 hp2
          generalize (fs l l.length).findIdx? (isN (qn n)) = o1 at *
          generalize (fs l l.length).findIdx? (isN e0) = o2 at *
          generalize fi l n l.length = f at *
          generalize ri l l.length = r at *
          generalize fs l l.length = F0 at *
          cases hb1 : o1.isSome <;> cases hb2 : o2.isSome <;> simp only [hb1, hb2] at g1 g2 hp1 hp2
          · have k1 : f = 0 := by simpa using hp1
            have k2 : r = 0 := by simpa using hp2
            subst k1; subst k2
            refine seg_ok names_ok mixed_ok (orcFn_ok _) p00 h1 ?_ (fun qs a1 w1 hq h1 => fin qs a1 w1 (by simp [evs, SX.ev] at hq; exact hq.symm) h1)
            simp only [List.mem_cons, List.not_mem_nil, or_false, forall_eq_or_imp, forall_eq]
            simp [Base.ev, SX.ev, evs, Value.oneCell', hF, lenPV_r, binPV, wq, rq, g1, g2, u1, u2]
          · have k1 : f = 0 := by simpa using hp1
            have k2 : 0 < r := by simpa using hp2
            subst k1
            refine seg_ok names_ok mixed_ok (orcFn_ok _) p01 h1 ?_ (fun qs a1 w1 hq h1 => fin qs a1 w1 (by simp [evs, SX.ev] at hq; exact hq.symm) h1)
            simp only [List.mem_cons, List.not_mem_nil, or_false, forall_eq_or_imp, forall_eq]
            simp [Base.ev, SX.ev, evs, Value.oneCell', hF, lenPV_r, binPV, wq, rq, g1, g2, u1, u2, k2]
          · have k1 : 0 < f := by simpa using hp1
            have k2 : r = 0 := by simpa using hp2
            subst k2
            refine seg_ok names_ok mixed_ok (orcFn_ok _) p10 h1 ?_ (fun qs a1 w1 hq h1 => fin qs a1 w1 (by simp [evs, SX.ev] at hq; exact hq.symm) h1)
            simp only [List.mem_cons, List.not_mem_nil, or_false, forall_eq_or_imp, forall_eq]
            simp [Base.ev, SX.ev, evs, Value.oneCell', hF, lenPV_r, binPV, wq, rq, g1, g2, u1, u2, k1]
          · have k1 : 0 < f := by simpa using hp1
            have k2 : 0 < r := by simpa using hp2
            refine seg_ok names_ok mixed_ok (orcFn_ok _) p11 h1 ?_ (fun qs a1 w1 hq h1 => fin qs a1 w1 (by simp [evs, SX.ev] at hq; exact hq.symm) h1)
            simp only [List.mem_cons, List.not_mem_nil, or_false, forall_eq_or_imp, forall_eq]
            simp [Base.ev, SX.ev, evs, Value.oneCell', hF, lenPV_r, binPV, wq, rq, g1, g2, u1, u2, k1, k2]
theorem walk (w : World) (v : Value) (len : Nat) (Z : Nat → Int) (hg : IsRow .u8 w v len Z) (a : Int) (wa : (Lit.int .u8 a).wf = true) :
    Calls Try.prog 11 #[v, .int .u8 a] w fun e w' => e = .returned (.bool true) ∧ Ex w w' := by
  obtain ⟨l, hbl, hlen, hr⟩ := rowU hg
  obtain ⟨h0, h1⟩ := bounds_u8 wa
  obtain ⟨n, rfl⟩ : ∃ n : Nat, a = (n : Int) := ⟨a.toNat, by omega⟩
  refine told_true (told 0) rfl (us := [v, .int .u8 (n : Int)]) (ps := [pRow encU l, pU (n : Int)]) (spec_of fL ⟨l, n, hlen, hbl, by omega, rfl, rfl⟩) rfl rfl (fun i p u hp hu => ?_)
  match i, hp, hu with
  | 0, hp, hu => simp at hp hu; subst hp; subst hu; exact hr
  | 1, hp, hu => simp at hp hu; subst hp; subst hu; exact plainReads rfl
  | i + 2, hp, hu => simp at hp
end Go.Proofs.Ytfcdbknmajfkaaa.dirOnce
