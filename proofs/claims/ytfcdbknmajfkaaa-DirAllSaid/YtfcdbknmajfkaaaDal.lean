/- DirAll by the symbolic engine. -/
import Derived.Test.YtfcdbknmajfkaaaStd
import Derived.Test.YtfcdbknmajfkaaaFrameB
namespace Go.Proofs.Ytfcdbknmajfkaaa.dirAll
open Go Go.RowKit eng SX Fact fil fileFronts dirs pck may sta
open fileFronts hiding F F1 F2 F3 F22 t1 t2 t3 t22
open pck hiding F F20 F21
open dirs hiding shR shRl shRR flR lpR cutR f0 f1 f2 f3 m0 m1 m2
open may hiding m1 m2 m3 m4 r1 r2 r3 r4 r5
set_option linter.unusedVariables false
set_option linter.unusedSimpArgs false
set_option maxRecDepth 1000000

def encS : Enc ByteArray := { sz := 1, enc := fun s => [.string s], len := fun _ => rfl, one := fun _ u hu => by simp at hu; subst hu; rfl, pos := by decide }
def EFindL (k : Nat) : FnE := { k := k, ins := [none, none], leaks := [false, false], outs := [none, none], kinds := [.num, .num] }
def ERoomL (k : Nat) : FnE := { k := k, ins := [none], leaks := [false], outs := [none, none], kinds := [.num, .num] }
def ENameL (k : Nat) : FnE := { k := k, ins := [none], leaks := [false], outs := [none], kinds := [.num] }
def tabD (f : FuncId) : Option FnE := cond (Nat.beq f 43) (some (EFindL 1)) (cond (Nat.beq f 44) (some (EFindL 2)) (cond (Nat.beq f 47) (some (ERoomL 3)) (cond (Nat.beq f 48) (some (ERoomL 4)) (cond (Nat.beq f 45) (some (ENameL 5)) (cond (Nat.beq f 46) (some (ENameL 6)) (cond (Nat.beq f 40) (some (ETrue 7)) none))))))
def tabDP (f : FuncId) : Option PtrE := cond (Nat.beq f 41) (some (ESt 24)) none
def orcD : Orc := orcOr (orcFn tabD) (orcP tabDP)
def isIdx : Op → Bool | .indexAddr .. => true | _ => false
def hD (f : FuncId) (o : Oper) : Option Hint := cond (isApp o.op) (some .own) (cond (Nat.beq f 42 && isIdx o.op) (some .own) (match o.op with | .binOp .. => none | _ => some .lazy))
noncomputable def flD := flat (bodyOf Try.prog 9)
noncomputable def lpD := flat (loopBody (nth flD 8))
def fbox (k : Nat) : BoxT := ⟨71, 3, true, [], some k, false⟩
def shD : Shape := ⟨[(0, .leaf), (1, .leaf), (2, .leaf), (3, .leaf)], [], [some true, none, none, some false], 155, 9⟩
def shR : Shape := ⟨[(8, .leaf)], [], [none], 155, 9⟩
def shDn : Shape := ⟨[(1, .leaf), (2, .leaf), (3, .leaf), (9, .ptr 0 0 0 0), (10, .nil), (11, .leaf)], [sbox true], [none, none, some false, none, some true, some true, none], 155, 9⟩
def shDo : Shape := ⟨[(1, .leaf), (2, .leaf), (3, .leaf), (9, .ptr 0 0 0 0), (10, .own 1 7 3), (11, .leaf)], [sbox true, fbox 7], [none, none, some false, none, some true, some true, none], 155, 9⟩
def tblS : SX := .lit 10 [.con (.string ⟨⟨[UInt8.ofNat 97]⟩⟩), .con (.string ⟨⟨[UInt8.ofNat 98]⟩⟩), .con (.string ⟨⟨[UInt8.ofNat 99]⟩⟩), .con (.string ⟨⟨[UInt8.ofNat 110, UInt8.ofNat 111, UInt8.ofNat 116, UInt8.ofNat 101, UInt8.ofNat 115]⟩⟩), .con (.string ⟨⟨[UInt8.ofNat 108, UInt8.ofNat 111, UInt8.ofNat 103]⟩⟩), .con (.string ⟨⟨[UInt8.ofNat 120, UInt8.ofNat 47, UInt8.ofNat 121]⟩⟩), .con (.string ⟨⟨[UInt8.ofNat 115, UInt8.ofNat 101, UInt8.ofNat 118, UInt8.ofNat 101, UInt8.ofNat 110, UInt8.ofNat 55, UInt8.ofNat 55]⟩⟩), .con (.string ⟨⟨[]⟩⟩), .con (.string ⟨⟨[UInt8.ofNat 97, UInt8.ofNat 32, UInt8.ofNat 98]⟩⟩), .con (.string ⟨⟨[UInt8.ofNat 110, UInt8.ofNat 105, UInt8.ofNat 110, UInt8.ofNat 101, UInt8.ofNat 99, UInt8.ofNat 104, UInt8.ofNat 97, UInt8.ofNat 114, UInt8.ofNat 115]⟩⟩)]
def nameS : SX := .cell tblS (.bin .rem (.conv .i64 (.var 1)) (.con (.int .i64 10))) 1 0
theorem q1 : segTo Try.prog orcD 10000 flD shD [1, 1] shR [] hD = some (.ret, [.fn 40 (ETrue 7) [], .is (.fn 7 [] 0) (.bool true), .ok (.len (.var 0)), .ok (.bin .gtr (.len (.var 0)) (.con (.int .i64 40))), .is (.bin .gtr (.len (.var 0)) (.con (.int .i64 40))) (.bool true), .ok (.con (.bool true))], [.con (.bool true)]) := by kernel_rfl
theorem q2 : segTo Try.prog orcD 10000 flD shD [1, 0, 1] shR [] hD = some (.ret, [.fn 40 (ETrue 7) [], .is (.fn 7 [] 0) (.bool true), .ok (.len (.var 0)), .ok (.bin .gtr (.len (.var 0)) (.con (.int .i64 40))), .is (.bin .gtr (.len (.var 0)) (.con (.int .i64 40))) (.bool false), .ok (.slen (.var 1)), .ok (.bin .gtr (.slen (.var 1)) (.con (.int .i64 30))), .is (.bin .gtr (.slen (.var 1)) (.con (.int .i64 30))) (.bool true), .ok (.con (.bool true))], [.con (.bool true)]) := by kernel_rfl
theorem q3 : segTo Try.prog orcD 10000 flD shD [1, 0, 0, 1] shR [] hD = some (.ret, [.fn 40 (ETrue 7) [], .is (.fn 7 [] 0) (.bool true), .ok (.len (.var 0)), .ok (.bin .gtr (.len (.var 0)) (.con (.int .i64 40))), .is (.bin .gtr (.len (.var 0)) (.con (.int .i64 40))) (.bool false), .ok (.slen (.var 1)), .ok (.bin .gtr (.slen (.var 1)) (.con (.int .i64 30))), .is (.bin .gtr (.slen (.var 1)) (.con (.int .i64 30))) (.bool false), .ok (.len (.var 3)), .ok (.bin .gtr (.len (.var 3)) (.con (.int .i64 8))), .is (.bin .gtr (.len (.var 3)) (.con (.int .i64 8))) (.bool true), .ok (.con (.bool true))], [.con (.bool true)]) := by kernel_rfl
theorem pre : segTo Try.prog orcD 10000 (flD.take 8) shD [1, 0, 0, 0] shDn [(6, 0)] hD = some (.normal, [.fn 40 (ETrue 7) [], .is (.fn 7 [] 0) (.bool true), .ok (.len (.var 0)), .ok (.bin .gtr (.len (.var 0)) (.con (.int .i64 40))), .is (.bin .gtr (.len (.var 0)) (.con (.int .i64 40))) (.bool false), .ok (.slen (.var 1)), .ok (.bin .gtr (.slen (.var 1)) (.con (.int .i64 30))), .is (.bin .gtr (.slen (.var 1)) (.con (.int .i64 30))) (.bool false), .ok (.len (.var 3)), .ok (.bin .gtr (.len (.var 3)) (.con (.int .i64 8))), .is (.bin .gtr (.len (.var 3)) (.con (.int .i64 8))) (.bool false), .fp 41 (ESt 24) [.con (.int .i64 20), .var 0, .con (.int .i64 0)], .ok (.fn 24 [.con (.int .i64 20), .var 0, .con (.int .i64 0)] 2), .ok (.fn 24 [.con (.int .i64 20), .var 0, .con (.int .i64 0)] 4), .ok (.var 1), .ok (.var 2), .ok (.con (.int .i64 0)), .ok (.fn 24 [.con (.int .i64 20), .var 0, .con (.int .i64 0)] 2)], [.var 1, .var 2, .var 3, .con (.int .i64 0), .fn 24 [.con (.int .i64 20), .var 0, .con (.int .i64 0)] 0, .fn 24 [.con (.int .i64 20), .var 0, .con (.int .i64 0)] 1, .fn 24 [.con (.int .i64 20), .var 0, .con (.int .i64 0)] 2]) := by kernel_rfl
theorem exn : segTo Try.prog orcD 10000 lpD shDn [0] shDn [(0, 0)] hD = some (.exit 0, [.ok (.len (.var 2)), .ok (.bin .lss (.var 3) (.len (.var 2))), .is (.bin .lss (.var 3) (.len (.var 2))) (.bool false), .ok (.var 0), .ok (.var 1), .ok (.var 3), .ok (.var 6)], [.var 0, .var 1, .var 2, .var 3, .var 4, .var 5, .var 6]) := by kernel_rfl
theorem exo : segTo Try.prog orcD 10000 lpD shDo [0] shDo [(0, 0), (1, 0)] hD = some (.exit 0, [.ok (.len (.var 2)), .ok (.bin .lss (.var 3) (.len (.var 2))), .is (.bin .lss (.var 3) (.len (.var 2))) (.bool false), .ok (.var 0), .ok (.var 1), .ok (.var 3), .ok (.var 6), same (.len (.var 7)) (.len (.var 7))], [.var 0, .var 1, .var 2, .var 3, .var 4, .var 5, .var 6, .var 7]) := by kernel_rfl
theorem lgn : segTo Try.prog orcD 10000 lpD shDn [1, 1] shR [] hD = some (.ret, [.ok (.len (.var 2)), .ok (.bin .lss (.var 3) (.len (.var 2))), .is (.bin .lss (.var 3) (.len (.var 2))) (.bool true), .idx (.var 2) (.var 3) 1 1, .idx (.var 2) (.var 3) 1 1, .ok (.cell (.var 2) (.var 3) 1 0), .ok (.slen (.cell (.var 2) (.var 3) 1 0)), .ok (.bin .gtr (.slen (.cell (.var 2) (.var 3) 1 0)) (.con (.int .i64 30))), .is (.bin .gtr (.slen (.cell (.var 2) (.var 3) 1 0)) (.con (.int .i64 30))) (.bool true), .ok (.con (.bool true))], [.con (.bool true)]) := by kernel_rfl
theorem lgo : segTo Try.prog orcD 10000 lpD shDo [1, 1] shR [] hD = some (.ret, [.ok (.len (.var 2)), .ok (.bin .lss (.var 3) (.len (.var 2))), .is (.bin .lss (.var 3) (.len (.var 2))) (.bool true), .idx (.var 2) (.var 3) 1 1, .idx (.var 2) (.var 3) 1 1, .ok (.cell (.var 2) (.var 3) 1 0), .ok (.slen (.cell (.var 2) (.var 3) 1 0)), .ok (.bin .gtr (.slen (.cell (.var 2) (.var 3) 1 0)) (.con (.int .i64 30))), .is (.bin .gtr (.slen (.cell (.var 2) (.var 3) 1 0)) (.con (.int .i64 30))) (.bool true), .ok (.con (.bool true))], [.con (.bool true)]) := by kernel_rfl
theorem onn : segTo Try.prog orcD 10000 lpD shDn [1, 0] shDo [(0, 0), (5, 0)] hD = some (.normal, [.ok (.len (.var 2)), .ok (.bin .lss (.var 3) (.len (.var 2))), .is (.bin .lss (.var 3) (.len (.var 2))) (.bool true), .idx (.var 2) (.var 3) 1 1, .idx (.var 2) (.var 3) 1 1, .ok (.cell (.var 2) (.var 3) 1 0), .ok (.slen (.cell (.var 2) (.var 3) 1 0)), .ok (.bin .gtr (.slen (.cell (.var 2) (.var 3) 1 0)) (.con (.int .i64 30))), .is (.bin .gtr (.slen (.cell (.var 2) (.var 3) 1 0)) (.con (.int .i64 30))) (.bool false), .idx (.var 2) (.var 3) 1 1, .idx (.var 2) (.var 3) 1 1, .ok (.cell (.var 2) (.var 3) 1 0), rng (.con (.int .i64 0)) (.len (.lit 1 [.cell (.var 2) (.var 3) 1 0, .con (.int .i64 0), .con (.string { data := { toList := [] } })])), upto (.len (.lit 1 [.cell (.var 2) (.var 3) 1 0, .con (.int .i64 0), .con (.string { data := { toList := [] } })])) 4294967296, .ok (.bin .add (.var 3) (.con (.int .i64 1))), .ok (.var 0), .ok (.var 1), .ok (.bin .add (.var 3) (.con (.int .i64 1))), .ok (.var 6), same (.len (.lit 1 [.cell (.var 2) (.var 3) 1 0, .con (.int .i64 0), .con (.string { data := { toList := [] } })])) (.len (.lit 1 [.cell (.var 2) (.var 3) 1 0, .con (.int .i64 0), .con (.string { data := { toList := [] } })]))], [.var 0, .var 1, .var 2, .bin .add (.var 3) (.con (.int .i64 1)), .var 4, .var 5, .var 6, .lit 1 [.cell (.var 2) (.var 3) 1 0, .con (.int .i64 0), .con (.string { data := { toList := [] } })]]) := by kernel_rfl
theorem ono : segTo Try.prog orcD 10000 lpD shDo [1, 0] shDo [(0, 0), (1, 1)] hD = some (.normal, [.ok (.len (.var 2)), .ok (.bin .lss (.var 3) (.len (.var 2))), .is (.bin .lss (.var 3) (.len (.var 2))) (.bool true), .idx (.var 2) (.var 3) 1 1, .idx (.var 2) (.var 3) 1 1, .ok (.cell (.var 2) (.var 3) 1 0), .ok (.slen (.cell (.var 2) (.var 3) 1 0)), .ok (.bin .gtr (.slen (.cell (.var 2) (.var 3) 1 0)) (.con (.int .i64 30))), .is (.bin .gtr (.slen (.cell (.var 2) (.var 3) 1 0)) (.con (.int .i64 30))) (.bool false), .idx (.var 2) (.var 3) 1 1, .idx (.var 2) (.var 3) 1 1, .ok (.cell (.var 2) (.var 3) 1 0), same (.len (.var 7)) (.len (.var 7)), upto (.len (rop ROp.cat [.var 7, .lit 1 [.cell (.var 2) (.var 3) 1 0, .con (.int .i64 0), .con (.string { data := { toList := [] } })]])) 4294967296, .ok (.bin .add (.var 3) (.con (.int .i64 1))), .ok (.var 0), .ok (.var 1), .ok (.bin .add (.var 3) (.con (.int .i64 1))), .ok (.var 6), same (.len (rop ROp.cat [.var 7, .lit 1 [.cell (.var 2) (.var 3) 1 0, .con (.int .i64 0), .con (.string { data := { toList := [] } })]])) (.len (rop ROp.cat [.var 7, .lit 1 [.cell (.var 2) (.var 3) 1 0, .con (.int .i64 0), .con (.string { data := { toList := [] } })]]))], [.var 0, .var 1, .var 2, .bin .add (.var 3) (.con (.int .i64 1)), .var 4, .var 5, .var 6, rop ROp.cat [.var 7, .lit 1 [.cell (.var 2) (.var 3) 1 0, .con (.int .i64 0), .con (.string { data := { toList := [] } })]]]) := by kernel_rfl
theorem pn : segTo Try.prog orcD 100000 (flD.drop 9) shDn [0, 0, 0, 0, 0, 0, 0, 0, 0, 0, 0, 0, 0, 0, 0, 0] shR [] hD = some (.ret, [.ok (.conv .i64 (.var 1)), .ok (.bin .rem (.conv .i64 (.var 1)) (.con (.int .i64 10))), rng (.bin .rem (.conv .i64 (.var 1)) (.con (.int .i64 10))) (.len ((tblS))), .idx ((tblS)) (.bin .rem (.conv .i64 (.var 1)) (.con (.int .i64 10))) 1 1, .fn 43 (EFindL 1) [.var 4, .var 0], .ok (.fn 1 [.var 4, .var 0] 0), .ok (.fn 1 [.var 4, .var 0] 1), .fn 44 (EFindL 2) [.var 4, .var 0], .ok (.fn 2 [.var 4, .var 0] 0), .ok (.fn 2 [.var 4, .var 0] 1), .ok (.bin .neq (.fn 1 [.var 4, .var 0] 0) (.fn 2 [.var 4, .var 0] 0)), .is (.bin .neq (.fn 1 [.var 4, .var 0] 0) (.fn 2 [.var 4, .var 0] 0)) (.bool false), .ok (rop ROp.neB [.fn 1 [.var 4, .var 0] 1, .fn 2 [.var 4, .var 0] 1]), .is (rop ROp.neB [.fn 1 [.var 4, .var 0] 1, .fn 2 [.var 4, .var 0] 1]) (.bool false), .fn 45 (ENameL 5) [.var 0], .ok (.fn 5 [.var 0] 0), .fn 46 (ENameL 6) [.var 0], .ok (.fn 6 [.var 0] 0), .ok (rop ROp.neB [.fn 5 [.var 0] 0, .fn 6 [.var 0] 0]), .is (rop ROp.neB [.fn 5 [.var 0] 0, .fn 6 [.var 0] 0]) (.bool false), .fn 43 (EFindL 1) [.var 4, (nameS)], .ok (.fn 1 [.var 4, (nameS)] 0), .ok (.fn 1 [.var 4, (nameS)] 1), .fn 44 (EFindL 2) [.var 4, (nameS)], .ok (.fn 2 [.var 4, (nameS)] 0), .ok (.fn 2 [.var 4, (nameS)] 1), .ok (.bin .neq (.fn 1 [.var 4, (nameS)] 0) (.fn 2 [.var 4, (nameS)] 0)), .is (.bin .neq (.fn 1 [.var 4, (nameS)] 0) (.fn 2 [.var 4, (nameS)] 0)) (.bool false), .ok (rop ROp.neB [.fn 1 [.var 4, (nameS)] 1, .fn 2 [.var 4, (nameS)] 1]), .is (rop ROp.neB [.fn 1 [.var 4, (nameS)] 1, .fn 2 [.var 4, (nameS)] 1]) (.bool false), .fn 45 (ENameL 5) [(nameS)], .ok (.fn 5 [(nameS)] 0), .fn 46 (ENameL 6) [(nameS)], .ok (.fn 6 [(nameS)] 0), .ok (rop ROp.neB [.fn 5 [(nameS)] 0, .fn 6 [(nameS)] 0]), .is (rop ROp.neB [.fn 5 [(nameS)] 0, .fn 6 [(nameS)] 0]) (.bool false), .fn 43 (EFindL 1) [.lit 0 [], .var 0], .ok (.fn 1 [.lit 0 [], .var 0] 0), .ok (.fn 1 [.lit 0 [], .var 0] 1), .fn 44 (EFindL 2) [.lit 0 [], .var 0], .ok (.fn 2 [.lit 0 [], .var 0] 0), .ok (.fn 2 [.lit 0 [], .var 0] 1), .ok (.bin .neq (.fn 1 [.lit 0 [], .var 0] 0) (.fn 2 [.lit 0 [], .var 0] 0)), .is (.bin .neq (.fn 1 [.lit 0 [], .var 0] 0) (.fn 2 [.lit 0 [], .var 0] 0)) (.bool false), .ok (rop ROp.neB [.fn 1 [.lit 0 [], .var 0] 1, .fn 2 [.lit 0 [], .var 0] 1]), .is (rop ROp.neB [.fn 1 [.lit 0 [], .var 0] 1, .fn 2 [.lit 0 [], .var 0] 1]) (.bool false), .fn 45 (ENameL 5) [.var 0], .ok (.fn 5 [.var 0] 0), .fn 46 (ENameL 6) [.var 0], .ok (.fn 6 [.var 0] 0), .ok (rop ROp.neB [.fn 5 [.var 0] 0, .fn 6 [.var 0] 0]), .is (rop ROp.neB [.fn 5 [.var 0] 0, .fn 6 [.var 0] 0]) (.bool false), .fn 43 (EFindL 1) [.lit 0 [], (nameS)], .ok (.fn 1 [.lit 0 [], (nameS)] 0), .ok (.fn 1 [.lit 0 [], (nameS)] 1), .fn 44 (EFindL 2) [.lit 0 [], (nameS)], .ok (.fn 2 [.lit 0 [], (nameS)] 0), .ok (.fn 2 [.lit 0 [], (nameS)] 1), .ok (.bin .neq (.fn 1 [.lit 0 [], (nameS)] 0) (.fn 2 [.lit 0 [], (nameS)] 0)), .is (.bin .neq (.fn 1 [.lit 0 [], (nameS)] 0) (.fn 2 [.lit 0 [], (nameS)] 0)) (.bool false), .ok (rop ROp.neB [.fn 1 [.lit 0 [], (nameS)] 1, .fn 2 [.lit 0 [], (nameS)] 1]), .is (rop ROp.neB [.fn 1 [.lit 0 [], (nameS)] 1, .fn 2 [.lit 0 [], (nameS)] 1]) (.bool false), .fn 45 (ENameL 5) [(nameS)], .ok (.fn 5 [(nameS)] 0), .fn 46 (ENameL 6) [(nameS)], .ok (.fn 6 [(nameS)] 0), .ok (rop ROp.neB [.fn 5 [(nameS)] 0, .fn 6 [(nameS)] 0]), .is (rop ROp.neB [.fn 5 [(nameS)] 0, .fn 6 [(nameS)] 0]) (.bool false), .fn 47 (ERoomL 3) [.var 4], .ok (.fn 3 [.var 4] 0), .ok (.fn 3 [.var 4] 1), .fn 48 (ERoomL 4) [.var 4], .ok (.fn 4 [.var 4] 0), .ok (.fn 4 [.var 4] 1), .ok (.bin .neq (.fn 3 [.var 4] 0) (.fn 4 [.var 4] 0)), .is (.bin .neq (.fn 3 [.var 4] 0) (.fn 4 [.var 4] 0)) (.bool false), .ok (rop ROp.neB [.fn 3 [.var 4] 1, .fn 4 [.var 4] 1]), .is (rop ROp.neB [.fn 3 [.var 4] 1, .fn 4 [.var 4] 1]) (.bool false), .fn 47 (ERoomL 3) [.lit 0 []], .ok (.fn 3 [.lit 0 []] 0), .ok (.fn 3 [.lit 0 []] 1), .fn 48 (ERoomL 4) [.lit 0 []], .ok (.fn 4 [.lit 0 []] 0), .ok (.fn 4 [.lit 0 []] 1), .ok (.bin .neq (.fn 3 [.lit 0 []] 0) (.fn 4 [.lit 0 []] 0)), .is (.bin .neq (.fn 3 [.lit 0 []] 0) (.fn 4 [.lit 0 []] 0)) (.bool false), .ok (rop ROp.neB [.fn 3 [.lit 0 []] 1, .fn 4 [.lit 0 []] 1]), .is (rop ROp.neB [.fn 3 [.lit 0 []] 1, .fn 4 [.lit 0 []] 1]) (.bool false), .ok (.con (.bool true))], [.con (.bool true)]) := by kernel_rfl
theorem po : segTo Try.prog orcD 100000 (flD.drop 9) shDo [0, 0, 0, 0, 0, 0, 0, 0, 0, 0, 0, 0, 0, 0, 0, 0] shR [] hD = some (.ret, [.ok (.conv .i64 (.var 1)), .ok (.bin .rem (.conv .i64 (.var 1)) (.con (.int .i64 10))), rng (.bin .rem (.conv .i64 (.var 1)) (.con (.int .i64 10))) (.len ((tblS))), .idx ((tblS)) (.bin .rem (.conv .i64 (.var 1)) (.con (.int .i64 10))) 1 1, .fn 43 (EFindL 1) [.var 4, .var 0], .ok (.fn 1 [.var 4, .var 0] 0), .ok (.fn 1 [.var 4, .var 0] 1), .fn 44 (EFindL 2) [.var 4, .var 0], .ok (.fn 2 [.var 4, .var 0] 0), .ok (.fn 2 [.var 4, .var 0] 1), .ok (.bin .neq (.fn 1 [.var 4, .var 0] 0) (.fn 2 [.var 4, .var 0] 0)), .is (.bin .neq (.fn 1 [.var 4, .var 0] 0) (.fn 2 [.var 4, .var 0] 0)) (.bool false), .ok (rop ROp.neB [.fn 1 [.var 4, .var 0] 1, .fn 2 [.var 4, .var 0] 1]), .is (rop ROp.neB [.fn 1 [.var 4, .var 0] 1, .fn 2 [.var 4, .var 0] 1]) (.bool false), .fn 45 (ENameL 5) [.var 0], .ok (.fn 5 [.var 0] 0), .fn 46 (ENameL 6) [.var 0], .ok (.fn 6 [.var 0] 0), .ok (rop ROp.neB [.fn 5 [.var 0] 0, .fn 6 [.var 0] 0]), .is (rop ROp.neB [.fn 5 [.var 0] 0, .fn 6 [.var 0] 0]) (.bool false), .fn 43 (EFindL 1) [.var 4, (nameS)], .ok (.fn 1 [.var 4, (nameS)] 0), .ok (.fn 1 [.var 4, (nameS)] 1), .fn 44 (EFindL 2) [.var 4, (nameS)], .ok (.fn 2 [.var 4, (nameS)] 0), .ok (.fn 2 [.var 4, (nameS)] 1), .ok (.bin .neq (.fn 1 [.var 4, (nameS)] 0) (.fn 2 [.var 4, (nameS)] 0)), .is (.bin .neq (.fn 1 [.var 4, (nameS)] 0) (.fn 2 [.var 4, (nameS)] 0)) (.bool false), .ok (rop ROp.neB [.fn 1 [.var 4, (nameS)] 1, .fn 2 [.var 4, (nameS)] 1]), .is (rop ROp.neB [.fn 1 [.var 4, (nameS)] 1, .fn 2 [.var 4, (nameS)] 1]) (.bool false), .fn 45 (ENameL 5) [(nameS)], .ok (.fn 5 [(nameS)] 0), .fn 46 (ENameL 6) [(nameS)], .ok (.fn 6 [(nameS)] 0), .ok (rop ROp.neB [.fn 5 [(nameS)] 0, .fn 6 [(nameS)] 0]), .is (rop ROp.neB [.fn 5 [(nameS)] 0, .fn 6 [(nameS)] 0]) (.bool false), .fn 43 (EFindL 1) [.var 7, .var 0], .ok (.fn 1 [.var 7, .var 0] 0), .ok (.fn 1 [.var 7, .var 0] 1), .fn 44 (EFindL 2) [.var 7, .var 0], .ok (.fn 2 [.var 7, .var 0] 0), .ok (.fn 2 [.var 7, .var 0] 1), .ok (.bin .neq (.fn 1 [.var 7, .var 0] 0) (.fn 2 [.var 7, .var 0] 0)), .is (.bin .neq (.fn 1 [.var 7, .var 0] 0) (.fn 2 [.var 7, .var 0] 0)) (.bool false), .ok (rop ROp.neB [.fn 1 [.var 7, .var 0] 1, .fn 2 [.var 7, .var 0] 1]), .is (rop ROp.neB [.fn 1 [.var 7, .var 0] 1, .fn 2 [.var 7, .var 0] 1]) (.bool false), .fn 45 (ENameL 5) [.var 0], .ok (.fn 5 [.var 0] 0), .fn 46 (ENameL 6) [.var 0], .ok (.fn 6 [.var 0] 0), .ok (rop ROp.neB [.fn 5 [.var 0] 0, .fn 6 [.var 0] 0]), .is (rop ROp.neB [.fn 5 [.var 0] 0, .fn 6 [.var 0] 0]) (.bool false), .fn 43 (EFindL 1) [.var 7, (nameS)], .ok (.fn 1 [.var 7, (nameS)] 0), .ok (.fn 1 [.var 7, (nameS)] 1), .fn 44 (EFindL 2) [.var 7, (nameS)], .ok (.fn 2 [.var 7, (nameS)] 0), .ok (.fn 2 [.var 7, (nameS)] 1), .ok (.bin .neq (.fn 1 [.var 7, (nameS)] 0) (.fn 2 [.var 7, (nameS)] 0)), .is (.bin .neq (.fn 1 [.var 7, (nameS)] 0) (.fn 2 [.var 7, (nameS)] 0)) (.bool false), .ok (rop ROp.neB [.fn 1 [.var 7, (nameS)] 1, .fn 2 [.var 7, (nameS)] 1]), .is (rop ROp.neB [.fn 1 [.var 7, (nameS)] 1, .fn 2 [.var 7, (nameS)] 1]) (.bool false), .fn 45 (ENameL 5) [(nameS)], .ok (.fn 5 [(nameS)] 0), .fn 46 (ENameL 6) [(nameS)], .ok (.fn 6 [(nameS)] 0), .ok (rop ROp.neB [.fn 5 [(nameS)] 0, .fn 6 [(nameS)] 0]), .is (rop ROp.neB [.fn 5 [(nameS)] 0, .fn 6 [(nameS)] 0]) (.bool false), .fn 47 (ERoomL 3) [.var 4], .ok (.fn 3 [.var 4] 0), .ok (.fn 3 [.var 4] 1), .fn 48 (ERoomL 4) [.var 4], .ok (.fn 4 [.var 4] 0), .ok (.fn 4 [.var 4] 1), .ok (.bin .neq (.fn 3 [.var 4] 0) (.fn 4 [.var 4] 0)), .is (.bin .neq (.fn 3 [.var 4] 0) (.fn 4 [.var 4] 0)) (.bool false), .ok (rop ROp.neB [.fn 3 [.var 4] 1, .fn 4 [.var 4] 1]), .is (rop ROp.neB [.fn 3 [.var 4] 1, .fn 4 [.var 4] 1]) (.bool false), .fn 47 (ERoomL 3) [.var 7], .ok (.fn 3 [.var 7] 0), .ok (.fn 3 [.var 7] 1), .fn 48 (ERoomL 4) [.var 7], .ok (.fn 4 [.var 7] 0), .ok (.fn 4 [.var 7] 1), .ok (.bin .neq (.fn 3 [.var 7] 0) (.fn 4 [.var 7] 0)), .is (.bin .neq (.fn 3 [.var 7] 0) (.fn 4 [.var 7] 0)) (.bool false), .ok (rop ROp.neB [.fn 3 [.var 7] 1, .fn 4 [.var 7] 1]), .is (rop ROp.neB [.fn 3 [.var 7] 1, .fn 4 [.var 7] 1]) (.bool false), .ok (.con (.bool true))], [.con (.bool true)]) := by kernel_rfl

@[simp] theorem kFindL (k : Nat) : (EFindL k).k = k := rfl
@[simp] theorem kRoomL (k : Nat) : (ERoomL k).k = k := rfl
@[simp] theorem kNameL (k : Nat) : (ENameL k).k = k := rfl
theorem encS_inj : ∀ xs ys : List ByteArray, encS.all xs = encS.all ys → xs = ys
  | [], [], _ => rfl
  | [], _ :: _, h => by simp [Enc.all, encS] at h
  | _ :: _, [], h => by simp [Enc.all, encS] at h
  | x :: xs, y :: ys, h => by
    rw [Enc.all_cons, Enc.all_cons] at h
    obtain ⟨h1, h2⟩ := List.append_inj h (by rw [encS.len, encS.len])
    simp only [encS, List.cons.injEq, Value.string.injEq, and_true] at h1
    rw [h1, encS_inj xs ys h2]
theorem cellS (l : List ByteArray) (i : Nat) (h : i < l.length) : cellPV (pRow encS l) (pI (i : Int)) 1 0 = some (pS l[i]) := by
  rw [cellPV_row encS l i .i64 1 0 rfl h, all_cell encS l i 0 _ (List.getElem?_eq_getElem h) (by decide)]; rfl
def tblP : List PV := [pS (nmt 0), pS (nmt 1), pS (nmt 2), pS (nmt 3), pS (nmt 4), pS (nmt 5), pS (nmt 6), pS (nmt 7), pS (nmt 8), pS (nmt 9)]
theorem cellT : ∀ j : Nat, j < 10 → cellPV (.row 10 tblP) (pI (j : Int)) 1 0 = some (pS (nmt j))
  | 0, _ => rfl
  | 1, _ => rfl
  | 2, _ => rfl
  | 3, _ => rfl
  | 4, _ => rfl
  | 5, _ => rfl
  | 6, _ => rfl
  | 7, _ => rfl
  | 8, _ => rfl
  | 9, _ => rfl
  | j + 10, h => by omega
def fileOf (s : ByteArray) : FileM := (s, 0, e0)
def fs (l : List ByteArray) (i : Nat) : List FileM := (l.take i).map fileOf
def ELaw (k : Nat) : FnE := { k := k, ins := [none, none, none, none], leaks := [true, false, false, false], outs := [none], kinds := [.truth] }
def RL (ps qs : List PV) : Prop := ∃ (p : List Nat) (name : ByteArray) (which : Nat) (l : List ByteArray), p.length ≤ 9223372036854775807 ∧ (∀ z ∈ p, z < 256) ∧ name.size ≤ 9223372036854775807 ∧ which < 256 ∧ l.length ≤ 9223372036854775807 ∧ (∀ s ∈ l, s.size ≤ 9223372036854775807) ∧ ps = [pRow encU p, pS name, pU (which : Int), pRow encS l] ∧ qs = [pB true]
theorem fL : ∀ ps q1 q2, RL ps q1 → RL ps q2 → q1 = q2 := by
  rintro ps q1 q2 ⟨_, _, _, _, _, _, _, _, _, _, _, rfl⟩ ⟨_, _, _, _, _, _, _, _, _, _, _, rfl⟩; rfl
noncomputable def G : Fns := fun k => match k with | 1 => spec RFind | 2 => spec RFind | 3 => spec RRoom | 4 => spec RRoom | 5 => spec RName | 6 => spec RName | 7 => spec RTrue | 24 => spec RSt | _ => fun _ => none
theorem ranB : isTrue ((theEng Try.prog fil.noOrc 100000).call 40 [] ⟨.nil, 0, []⟩) = true := by kernel_rfl
theorem u1 : ToldF 43 (EFindL 1) (G 1) := told_kinds (toldFind 1) rfl rfl rfl rfl rfl
theorem u2 : ToldF 44 (EFindL 2) (G 2) := told_kinds (toldRefFind 2) rfl rfl rfl rfl rfl
theorem u3 : ToldF 47 (ERoomL 3) (G 3) := told_kinds (toldRoom 3) rfl rfl rfl rfl rfl
theorem u4 : ToldF 48 (ERoomL 4) (G 4) := told_kinds (toldRefRoom 4) rfl rfl rfl rfl rfl
theorem u5 : ToldF 45 (ENameL 5) (G 5) := told_kinds (toldMayN 5) rfl rfl rfl rfl rfl
theorem u6 : ToldF 46 (ENameL 6) (G 6) := told_kinds (toldName 6) rfl rfl rfl rfl rfl
theorem u7 : ToldF 40 (ETrue 7) (G 7) := told_closed 7 fun w => calls_true names_ok mixed_ok fil.noOrc_ok (args := []) ranB w
theorem u24 : ToldP 41 (ESt 24) (G 24) := toldSt 24
theorem G7 : G 7 [] = some [pB true] := spec_of fTrue ⟨rfl, rfl⟩
theorem ans_two (o : Option Nat) : ∃ (x : Int) (b : Bool), ansQ o = [pI x, pB b] := by cases o <;> exact ⟨_, _, rfl⟩
theorem GF {l : List FileM} {s : ByteArray} (h : l.length ≤ 1000000) (hs : s.size ≤ 1000000) : ∃ (x : Int) (b : Bool), G 1 [pRow encF l, pS s] = some [pI x, pB b] ∧ G 2 [pRow encF l, pS s] = some [pI x, pB b] := by
  obtain ⟨x, b, hx⟩ := ans_two (findN l s)
  have : spec RFind [pRow encF l, pS s] = some [pI x, pB b] := by rw [← hx]; exact spec_of fFind ⟨l, s, h, by omega, rfl, rfl⟩
  exact ⟨x, b, this, this⟩
theorem GR {l : List FileM} (h : l.length ≤ 1000000) : ∃ (x : Int) (b : Bool), G 3 [pRow encF l] = some [pI x, pB b] ∧ G 4 [pRow encF l] = some [pI x, pB b] := by
  obtain ⟨x, b, hx⟩ := ans_two (l.findIdx? (isN e0))
  have : spec RRoom [pRow encF l] = some [pI x, pB b] := by rw [← hx]; exact spec_of fRoom ⟨l, h, rfl, rfl⟩
  exact ⟨x, b, this, this⟩
theorem GN {s : ByteArray} (hs : s.size ≤ 1000000) : ∃ b : Bool, G 5 [pS s] = some [pB b] ∧ G 6 [pS s] = some [pB b] := by
  have : spec RName [pS s] = some [pB (dirs.okN s)] := spec_of fName ⟨s, by omega, rfl, rfl⟩
  exact ⟨_, this, this⟩
theorem cutD : flD = flD.take 8 ++ .block (blockId (nth flD 8)) (.loop (loopBody (nth flD 8))) :: flD.drop 9 := by kernel_rfl
theorem orcD_ok : OrcOk Try.prog orcD := orcOr_ok (orcFn_ok tabD) (orcP_ok tabDP)
theorem r_neB (b : Bool) : ropPV .neB [pB b, pB b] = some (pB false) := by cases b <;> rfl
abbrev stD (name : ByteArray) (which : Nat) (l : List ByteArray) (i : Nat) (s : StM) : List PV := [pS name, pU (which : Int), pRow encS l, pI (i : Int), pRow encF s.files, pRow encM s.marks, pI s.epoch]
set_option maxHeartbeats 4000000 in
theorem told (k0 : Nat) : ToldF 9 (ELaw k0) (spec RL) := by
  refine told_by G _ (bodyOf Try.prog 9) Try.func9 (by kernel_rfl) shD (by kernel_rfl) ?_ ?_
  · intro ps qs h i hi
    obtain ⟨p, name, which, l, _, _, _, _, _, _, rfl, rfl⟩ := of_spec h
    simp [shD] at hi
    match i, hi with
    | 0, hi => simp at hi
    | 1, hi => exact ⟨_, rfl, rfl⟩
    | 2, hi => exact ⟨_, rfl, rfl⟩
    | 3, hi => simp at hi
    | i + 4, hi => simp at hi
  · intro C ps qs hF h a w hsh
    obtain ⟨p, name, which, l, hp, hz, hn, hw, hl, hs, rfl, rfl⟩ := of_spec h
    show wpL Try.prog flD _ a w
    have fin : ∀ qs a1 w1, qs = [pB true] → InShape C shR qs a1 w1 → (AX.ret = .normal → wpL Try.prog [] (fun e a' w' => (e = .normal ∨ e = .ret) ∧ ∃ sh' ps' es, InShape C sh' ps' a' w' ∧ resTo Try.prog Try.f9 sh' (ELaw k0) = some es ∧ evs (fun i => ps'[i]?) G es = some [pB true]) a1 w1) ∧ (AX.ret ≠ .normal → (AX.ret.to = .normal ∨ AX.ret.to = .ret) ∧ ∃ sh' ps' es, InShape C sh' ps' a1 w1 ∧ resTo Try.prog Try.f9 sh' (ELaw k0) = some es ∧ evs (fun i => ps'[i]?) G es = some [pB true]) := by
      rintro qs a1 w1 rfl h1
      exact ⟨fun h => (by cases h), fun _ => ⟨.inr rfl, shR, _, [SX.var 0], h1, by kernel_rfl, rfl⟩⟩
    by_cases hp1 : 40 < p.length
    · rw [← List.append_nil flD]
      refine seg_ok names_ok mixed_ok orcD_ok q1 hsh ?_ (fun qs a1 w1 hq h1 => fin qs a1 w1 (by simp [evs, SX.ev] at hq; exact hq.symm) h1)
      simp only [List.mem_cons, List.not_mem_nil, or_false, forall_eq_or_imp, forall_eq]
      simp [-holds_idx, holds_idxP, holds_cellsP, Base.ev, SX.ev, evs, Value.oneCell', hF, lenPV_row, binPV, G7, u7]
      omega
    by_cases hn1 : 30 < name.size
    · rw [← List.append_nil flD]
      refine seg_ok names_ok mixed_ok orcD_ok q2 hsh ?_ (fun qs a1 w1 hq h1 => fin qs a1 w1 (by simp [evs, SX.ev] at hq; exact hq.symm) h1)
      simp only [List.mem_cons, List.not_mem_nil, or_false, forall_eq_or_imp, forall_eq]
      simp [-holds_idx, holds_idxP, holds_cellsP, Base.ev, SX.ev, evs, Value.oneCell', hF, lenPV_row, slenPV, binPV, G7, u7]
      omega
    by_cases hl1 : 8 < l.length
    · rw [← List.append_nil flD]
      refine seg_ok names_ok mixed_ok orcD_ok q3 hsh ?_ (fun qs a1 w1 hq h1 => fin qs a1 w1 (by simp [evs, SX.ev] at hq; exact hq.symm) h1)
      simp only [List.mem_cons, List.not_mem_nil, or_false, forall_eq_or_imp, forall_eq]
      simp [-holds_idx, holds_idxP, holds_cellsP, Base.ev, SX.ev, evs, Value.oneCell', hF, lenPV_row, slenPV, binPV, G7, u7]
      omega
    rw [cutD]
    have okp : OkP p 0 := ⟨by omega, by omega, hz⟩
    have e24 : G 24 [pI 20, pRow encU p, pI 0] = some (pSt (stRun p 20 newS 0).1 ++ [pRow encU p, pI ((stRun p 20 newS 0).2 : Int)]) := spec_of fSt ⟨20, 0, p, by omega, okp, rfl, rfl⟩
    have hfl := (ts_run (l := p) 20 ts_new (by omega) okp).1.fl
    generalize stRun p 20 newS 0 = r at e24 hfl
    obtain ⟨s, n2⟩ := r
    simp only at e24 hfl
    refine seg_ok names_ok mixed_ok orcD_ok pre hsh ?_ ?_
    · simp only [List.mem_cons, List.not_mem_nil, or_false, forall_eq_or_imp, forall_eq]
      simp [-holds_idx, holds_idxP, holds_cellsP, Base.ev, SX.ev, evs, Value.oneCell', hF, lenPV_row, slenPV, binPV, G7, u7, e24, u24]
      omega
    intro qs a1 w1 hq h1
    refine ⟨fun _ => ?_, fun h => absurd rfl h⟩
    simp [evs, SX.ev, hF, e24] at hq
    subst hq
    refine block_loop (fun q a w => ∃ i, i ≤ l.length ∧ q = l.length - i ∧ ((i = 0 ∧ InShape C shDn (stD name which l 0 s) a w) ∨ (0 < i ∧ InShape C shDo (stD name which l i s ++ [pRow encF (fs l i)]) a w))) ?_ (n := l.length) ⟨0, by omega, by omega, .inl ⟨rfl, h1⟩⟩
    rintro q a w ⟨i, hi, rfl, hin⟩
    show wpL Try.prog lpD _ a w
    rw [← List.append_nil lpD]
    by_cases hlt : i < l.length
    · have cs := cellS l i hlt
      have hsz := hs _ (List.getElem_mem hlt)
      have ix := idxP_row encS l i 1 1 .i64 rfl hlt (by decide)
      have v3 : IntKind.i64.wrap ((i : Int) + 1) = (i : Int) + 1 := wrapI _ (by omega) (by omega)
      have hfs : fs l (i + 1) = fs l i ++ [(l[i], 0, e0)] := by simp only [fs, List.take_add_one, List.getElem?_eq_getElem hlt, Option.toList_some, List.map_append, List.map_cons, List.map_nil, fileOf]
      have hlen : (fs l i).length = i := by simp [fs]; omega
      have hlc : (fs l i ++ [(l[i], 0, e0)]).length = i + 1 := by simp [hlen]
      have done : ∀ qs, qs = stD name which l (i + 1) s ++ [pRow encF (fs l i ++ [(l[i], 0, e0)])] → ∀ a1 w1, InShape C shDo qs a1 w1 → ∃ n', n' < l.length - i ∧ ∃ j, j ≤ l.length ∧ n' = l.length - j ∧ ((j = 0 ∧ InShape C shDn (stD name which l 0 s) a1 w1) ∨ (0 < j ∧ InShape C shDo (stD name which l j s ++ [pRow encF (fs l j)]) a1 w1)) := fun qs hq a1 w1 h => ⟨l.length - (i + 1), by omega, i + 1, by omega, rfl, .inr ⟨by omega, by rw [hfs, ← hq]; exact h⟩⟩
      have big : 30 < l[i].size → ∀ qs a1 w1, qs = [pB true] → InShape C shR qs a1 w1 → _ := fun _ qs a1 w1 hq h1 => (fin qs a1 w1 hq h1).2 (by simp)
      rcases hin with ⟨h0, hin⟩ | ⟨h0, hin⟩
      · subst h0
        have hf0 : fs l 0 = [] := rfl
        rw [hf0] at done hlc
        simp only [List.nil_append] at done hlc
        have cs0 : cellPV (pRow encS l) (pI 0) 1 0 = some (pS l[0]) := cs
        have ix0 : IdxP (some (pRow encS l)) (some (pI 0)) 1 1 := ix
        have rf : (PV.row 1 [pS l[0], pI 0, pS ⟨⟨[]⟩⟩]) = pRow encF [(l[0], 0, e0)] := by simp [pRow, Enc.all, encF, e0]
        by_cases hb : 30 < l[0].size
        · refine seg_ok names_ok mixed_ok orcD_ok lgn hin ?_ (fun qs a1 w1 hq h1 => ⟨fun h => (by cases h), fun _ => .inr (.inr ⟨rfl, big hb qs a1 w1 (by simp [evs, SX.ev] at hq; exact hq.symm) h1⟩)⟩)
          generalize l[0] = x at *
          simp only [List.mem_cons, List.not_mem_nil, or_false, forall_eq_or_imp, forall_eq]
          simp [-holds_idx, holds_idxP, holds_cellsP, Base.ev, SX.ev, evs, Value.oneCell', hF, lenPV_row, slenPV, binPV, cs0, ix0, hlt]
          omega
        · clear big
          generalize l[0] = x at *
          refine seg_ok names_ok mixed_ok orcD_ok onn hin ?_ (fun qs a1 w1 hq h1 => ⟨fun _ => .inl ⟨rfl, done qs (by simp [evs, SX.ev, binPV, cs0, rf] at hq; exact hq.symm) a1 w1 h1⟩, fun h => absurd rfl h⟩)
          simp only [List.mem_cons, List.not_mem_nil, or_false, forall_eq_or_imp, forall_eq]
          simp [-holds_idx, holds_idxP, holds_cellsP, Base.ev, SX.ev, evs, Value.oneCell', hF, lenPV_row, lenPV_r, slenPV, binPV, cs0, ix0, rf, hlt]
          omega
      · by_cases hb : 30 < l[i].size
        · refine seg_ok names_ok mixed_ok orcD_ok lgo hin ?_ (fun qs a1 w1 hq h1 => ⟨fun h => (by cases h), fun _ => .inr (.inr ⟨rfl, big hb qs a1 w1 (by simp [evs, SX.ev] at hq; exact hq.symm) h1⟩)⟩)
          generalize l[i] = x at *
          simp only [List.mem_cons, List.not_mem_nil, or_false, forall_eq_or_imp, forall_eq]
          simp [-holds_idx, holds_idxP, holds_cellsP, Base.ev, SX.ev, evs, Value.oneCell', hF, lenPV_row, slenPV, binPV, cs, ix, hlt]
          omega
        · clear big
          have rc : ropPV .cat [pRow encF (fs l i), .row 1 [pS l[i], pI 0, pS ⟨⟨[]⟩⟩]] = some (pRow encF (fs l i ++ [(l[i], 0, e0)])) := by simp [ropPV, pRow, Enc.all, encF, e0]
          generalize l[i] = x at *
          generalize fs l i = F0 at *
          generalize F0 ++ [(x, 0, e0)] = F1 at *
          refine seg_ok names_ok mixed_ok orcD_ok ono hin ?_ (fun qs a1 w1 hq h1 => ⟨fun _ => .inl ⟨rfl, done qs (by simp [evs, SX.ev, binPV, cs, rc, v3] at hq; exact hq.symm) a1 w1 h1⟩, fun h => absurd rfl h⟩)
          simp only [List.mem_cons, List.not_mem_nil, or_false, forall_eq_or_imp, forall_eq]
          simp [-holds_idx, holds_idxP, holds_cellsP, Base.ev, SX.ev, evs, Value.oneCell', hF, lenPV_row, lenPV_r, slenPV, binPV, cs, ix, rc, v3, hlt]
          omega
    · have hie : i = l.length := by omega
      subst hie
      -- behind the loop
      have hj : which % 10 < 10 := Nat.mod_lt _ (by omega)
      have wc : IntKind.i64.wrap (which : Int) = (which : Int) := wrapI _ (by omega) (by omega)
      have wt : ((which : Int).tmod 10) = ((which % 10 : Nat) : Int) := rfl
      have ct := cellT (which % 10) hj
      have it : IdxP (some (.row 10 tblP)) (some (pI ((which % 10 : Nat) : Int))) 1 1 := ⟨_, _, _, _, rfl, rfl, by omega, by omega, by simp [tblP]; omega⟩
      have hnz := nmt_size (which % 10)
      have hwj : 0 ≤ ((which % 10 : Nat) : Int) ∧ ((which % 10 : Nat) : Int) < 10 := by omega
      obtain ⟨x1, b1, g11, g12⟩ := GF (l := s.files) (s := name) (by rw [hfl]; omega) (by omega)
      obtain ⟨x2, b2, g21, g22⟩ := GF (l := s.files) (s := nmt (which % 10)) (by rw [hfl]; omega) (by omega)
      obtain ⟨x5, b5, g51, g52⟩ := GR (l := s.files) (by rw [hfl]; omega)
      obtain ⟨b7, g71, g72⟩ := GN (s := name) (by omega)
      obtain ⟨b8, g81, g82⟩ := GN (s := nmt (which % 10)) (by omega)
      rcases hin with ⟨h0, hin⟩ | ⟨h0, hin⟩
      · have hl0 : l.length = 0 := h0
        refine seg_ok names_ok mixed_ok orcD_ok exn hin ?_ ?_
        · simp only [List.mem_cons, List.not_mem_nil, or_false, forall_eq_or_imp, forall_eq]
          simp [-holds_idx, holds_idxP, holds_cellsP, Base.ev, SX.ev, evs, Value.oneCell', lenPV_row, binPV]
          exact List.length_eq_zero_iff.1 hl0
        · intro qs a1 w1 hq h1
          refine ⟨fun h => (by cases h), fun _ => .inr (.inl ⟨by rw [show blockId (nth flD 8) = 0 by kernel_rfl]; rfl, ?_⟩)⟩
          simp [evs, SX.ev] at hq
          subst hq
          rw [← List.append_nil (flD.drop 9)]
          obtain ⟨x3, b3, g31, g32⟩ := GF (l := []) (s := name) (by simp) (by omega)
          obtain ⟨x4, b4, g41, g42⟩ := GF (l := []) (s := nmt (which % 10)) (by simp) (by omega)
          obtain ⟨x6, b6, g61, g62⟩ := GR (l := []) (by simp)
          have rf : pRow encF [] = .row 0 [] := rfl
          rw [rf] at g31 g32 g41 g42 g61 g62
          generalize nmt (which % 10) = nme at *
          generalize ((which % 10 : Nat) : Int) = wj at *
          have hT : ∀ sv, tblS.ev sv G = some (.row 10 tblP) := fun sv => rfl
          have hN : nameS.ev (fun i => [pS name, pU (which : Int), pRow encS l, pI 0, pRow encF s.files, pRow encM s.marks, pI s.epoch][i]?) G = some (pS nme) := by
            simp only [nameS, SX.ev, hT]
            simp [SX.ev, convPV, binPV, wc, wt, ct]
          refine seg_ok names_ok mixed_ok orcD_ok pn h1 ?_ (fun qs a1 w1 hq h1 => fin qs a1 w1 (by simp [evs, SX.ev] at hq; exact hq.symm) h1)
          simp only [List.mem_cons, List.not_mem_nil, or_false, forall_eq_or_imp, forall_eq]
          simp [-holds_idx, holds_idxP, holds_cellsP, Base.ev, SX.ev, evs, Value.oneCell', hF, hT, hN, lenPV_r, binPV, convPV, wc, wt, it, g11, g12, g21, g22, g31, g32, g41, g42, g51, g52, g61, g62, g71, g72, g81, g82, r_neB, u1, u2, u3, u4, u5, u6]
          exact hwj
      · refine seg_ok names_ok mixed_ok orcD_ok exo hin ?_ ?_
        · simp only [List.mem_cons, List.not_mem_nil, or_false, forall_eq_or_imp, forall_eq]
          simp [-holds_idx, holds_idxP, holds_cellsP, Base.ev, SX.ev, evs, Value.oneCell', lenPV_row, binPV]
        · intro qs a1 w1 hq h1
          refine ⟨fun h => (by cases h), fun _ => .inr (.inl ⟨by rw [show blockId (nth flD 8) = 0 by kernel_rfl]; rfl, ?_⟩)⟩
          simp [evs, SX.ev] at hq
          subst hq
          rw [← List.append_nil (flD.drop 9)]
          have hlf : (fs l l.length).length ≤ 1000000 := by simp [fs]; omega
          obtain ⟨x3, b3, g31, g32⟩ := GF (s := name) hlf (by omega)
          obtain ⟨x4, b4, g41, g42⟩ := GF (s := nmt (which % 10)) hlf (by omega)
          obtain ⟨x6, b6, g61, g62⟩ := GR hlf
          have hr : pRow encF (fs l l.length) = pRow encF (fs l l.length) := rfl
          generalize nmt (which % 10) = nme at *
          generalize ((which % 10 : Nat) : Int) = wj at *
          generalize fs l l.length = F0 at *
          have hT : ∀ sv, tblS.ev sv G = some (.row 10 tblP) := fun sv => rfl
          have hN : nameS.ev (fun i => [pS name, pU (which : Int), pRow encS l, pI (l.length : Int), pRow encF s.files, pRow encM s.marks, pI s.epoch, pRow encF F0][i]?) G = some (pS nme) := by
            simp only [nameS, SX.ev, hT]
            simp [SX.ev, convPV, binPV, wc, wt, ct]
          refine seg_ok names_ok mixed_ok orcD_ok po h1 ?_ (fun qs a1 w1 hq h1 => fin qs a1 w1 (by simp [evs, SX.ev] at hq; exact hq.symm) h1)
          simp only [List.mem_cons, List.not_mem_nil, or_false, forall_eq_or_imp, forall_eq]
          simp [-holds_idx, holds_idxP, holds_cellsP, Base.ev, SX.ev, evs, Value.oneCell', hF, hT, hN, lenPV_r, lenPV_row, binPV, convPV, wc, wt, it, g11, g12, g21, g22, g31, g32, g41, g42, g51, g52, g61, g62, g71, g72, g81, g82, r_neB, u1, u2, u3, u4, u5, u6]
          exact hwj
/-- Rows of texts that came in. -/
theorem strs_of {w : World} {v : Value} {xs : List (List Value)} (h : IsThings [.str] w v xs) : ∃ l : List ByteArray, l.length = xs.length ∧ (∀ s ∈ l, s.size ≤ 9223372036854775807) ∧ Reads w (pRow encS l) v := by
  obtain ⟨hx, a, cap, rfl, h1, h2, h3⟩ := h
  have hs : ∀ x ∈ xs, ∃ s : ByteArray, x = [.string s] ∧ s.size ≤ maxLen := fun x hm => by
    obtain ⟨hl, hk⟩ := hx x hm
    match x, hl with
    | [u], _ =>
      obtain ⟨s, rfl, hs⟩ := hk 0 _ u rfl rfl
      exact ⟨s, rfl, hs⟩
  let f : List Value → ByteArray := fun x => match x with | [.string s] => s | _ => ⟨⟨[]⟩⟩
  refine ⟨xs.map f, by simp, fun s hm => ?_, ?_⟩
  · obtain ⟨x, hx', rfl⟩ := List.mem_map.1 hm
    obtain ⟨s, rfl, hs⟩ := hs x hx'
    exact maxLen_le hs
  · rw [reads_row]
    refine ⟨a, cap, by simp, by simpa using h1, h2, fun hp => ?_⟩
    simp only [List.length_map] at hp
    obtain ⟨b, off, rfl, hc⟩ := h3 hp
    refine ⟨b, off, rfl, ?_, fun i u hu => ?_⟩
    · obtain ⟨s, hs0, _⟩ := hs xs[0] (List.getElem_mem hp)
      have := hc 0 xs[0] 0 (.string s) (List.getElem?_eq_getElem hp) (by rw [hs0]; rfl)
      exact World.block_lt_of_cell? w _ this
    · have hal : encS.all (xs.map f) = xs.map fun x => Value.string (f x) := by
        simp only [Enc.all, encS, List.flatMap_map]
        clear hs h3 h1 hu hc hx hp
        induction xs with
        | nil => rfl
        | cons y ys ih => simp only [List.flatMap_cons, List.map_cons, List.singleton_append, ih]
      rw [hal, List.getElem?_map, Option.map_eq_some_iff] at hu
      obtain ⟨x, hxi, rfl⟩ := hu
      obtain ⟨s, rfl, _⟩ := hs x (List.mem_of_getElem? hxi)
      have := hc i _ 0 (.string s) hxi rfl
      simpa using this
theorem walk (w : World) (v : Value) (len : Nat) (Z : Nat → Int) (hg : IsRow .u8 w v len Z) (name : ByteArray) (hn : name.size ≤ maxLen) (a : Int) (wa : (Lit.int .u8 a).wf = true) (v3 : Value) (xs : List (List Value)) (hx : IsThings [.str] w v3 xs) :
    Calls Try.prog 9 #[v, .string name, .int .u8 a, v3] w fun e w' => e = .returned (.bool true) ∧ Ex w w' := by
  obtain ⟨p, hbp, hlen, hr⟩ := rowU hg
  obtain ⟨h0, h1⟩ := bounds_u8 wa
  obtain ⟨n, rfl⟩ : ∃ n : Nat, a = (n : Int) := ⟨a.toNat, by omega⟩
  have hxl : xs.length ≤ 9223372036854775807 := by
    obtain ⟨_, _, cap, _, h2, h3, _⟩ := hx
    exact Nat.le_trans h2 (maxLen_le h3)
  obtain ⟨l, hll, hls, hrl⟩ := strs_of hx
  refine told_true (told 0) rfl (us := [v, .string name, .int .u8 (n : Int), v3]) (ps := [pRow encU p, pS name, pU (n : Int), pRow encS l]) (spec_of fL ⟨p, name, n, l, hlen, hbp, maxLen_le hn, by omega, by omega, hls, rfl, rfl⟩) rfl rfl (fun i p u hp hu => ?_)
  match i, hp, hu with
  | 0, hp, hu => simp at hp hu; subst hp; subst hu; exact hr
  | 1, hp, hu => simp at hp hu; subst hp; subst hu; exact plainReads rfl
  | 2, hp, hu => simp at hp hu; subst hp; subst hu; exact plainReads rfl
  | 3, hp, hu => simp at hp hu; subst hp; subst hu; exact hrl
  | i + 4, hp, hu => simp at hp
end Go.Proofs.Ytfcdbknmajfkaaa.dirAll
