/- The document's disk, told: New, Read, Crash, and texts compared. -/
import Derived.Test.YtegfdigljpnhcaaDskP
namespace Go.Proofs.Ytegfdigljpnhcaa.rdk
open Go Go.RowKit eng SX Fact fil dsk
open symD hiding pRow_inj
set_option linter.unusedVariables false
set_option linter.unusedSimpArgs false
set_option maxRecDepth 1000000

def ESame2 (k : Nat) : FnE := { k := k, ins := [none, none], leaks := [], outs := [none], kinds := [.truth] }
def ELasts (k : Nat) : FnE := { k := k, ins := [none, some 2, none], leaks := [], outs := [none], kinds := [.row] }
def tabR (f : FuncId) : Option FnE := cond (Nat.beq f 38) (some (ELasts 1)) none
def dbox (b : Bool) : BoxT := ⟨28, 0, false, [.leaf, .leaf, .leaf, .leaf], none, false⟩
def zbox : BoxT := ⟨28, 0, false, [.nil, .nil, .leaf, .leaf], none, false⟩
def lbox : BoxT := ⟨28, 0, false, [.own 2 6 1, .nil, .leaf, .leaf], none, false⟩
def obox (k : Nat) : BoxT := ⟨9, 1, true, [], some k, false⟩
def isApp : Op → Bool | .call { callee := .builtin .append, .. } => true | _ => false
def hApp (_ : FuncId) (o : Oper) : Option Hint := cond (isApp o.op) (some .own) none
noncomputable def flN := flat (bodyOf Try.prog 12)
noncomputable def lpN := flat (loopBody (nth flN 3))
def shN : Shape := ⟨[(0, .leaf)], [], [none], 22, 12⟩
def shNn : Shape := ⟨[(0, .leaf), (2, .ptr 0 0 0 0), (3, .ptr 1 0 0 0), (4, .leaf)], [zbox, zbox], [none, none, none, none, none, none], 22, 12⟩
def shNo : Shape := ⟨[(0, .leaf), (2, .ptr 0 0 0 0), (3, .ptr 1 0 0 0), (4, .leaf)], [zbox, lbox, obox 6], [none, none, none, none, none, none], 22, 12⟩
def shNR : Shape := ⟨[(2, .ptr 0 0 0 0)], [⟨28, 0, false, [.own 1 2 1, .nil, .leaf, .leaf], none, false⟩, obox 2], [none, none], 22, 12⟩
def shNRn : Shape := ⟨[(2, .ptr 0 0 0 0)], [zbox], [none, none], 22, 12⟩
noncomputable def flR := flat (bodyOf Try.prog 14)
noncomputable def lpR := flat (loopBody (nth flR 5))
def shD : Shape := ⟨[(0, .agg 4), (1, .leaf)], [], [some false, some false, none, none, none], 39, 14⟩
def shDl : Shape := ⟨[(1, .leaf), (2, .ptr 0 0 0 0), (6, .leaf), (7, .leaf)], [dbox true], [none, none, none, some false, some false, none, none], 39, 14⟩
def shDR : Shape := ⟨[(4, .leaf), (5, .leaf)], [], [none, none], 39, 14⟩
def ECrashR (k : Nat) : FnE := { k := k, ins := [some 4, none], leaks := [true, false], outs := [some 4], kinds := [.row, .row, .num, .num] }
def nbox : BoxT := ⟨28, 0, false, [.leaf, .nil, .leaf, .leaf], none, false⟩
noncomputable def flC := flat (bodyOf Try.prog 15)
noncomputable def lpC := flat (loopBody (nth flC 2))
def shC : Shape := ⟨[(0, .agg 4), (1, .leaf)], [], [some true, some false, none, none, some false], 37, 15⟩
def shCl : Shape := ⟨[(1, .leaf), (2, .ptr 0 0 0 0), (4, .ptr 1 0 0 0), (5, .leaf)], [dbox true, zbox], [some false, none, some true, some false, none, none, none, none], 37, 15⟩
def shCn : Shape := ⟨[(4, .ptr 0 0 0 0)], [nbox], [some true, none, none], 37, 15⟩
noncomputable def flT := flat (bodyOf Try.prog 17)
noncomputable def lpT := flat (loopBody (nth flT 4))
def shP (n f : Nat) : Shape := ⟨[(0, .leaf), (1, .leaf)], [], [some false, some false], n, f⟩
def shPl (n f : Nat) : Shape := ⟨[(0, .leaf), (1, .leaf), (5, .leaf)], [], [some false, some false, none], n, f⟩
def shPR (n f : Nat) : Shape := ⟨[(4, .leaf)], [], [none], n, f⟩
theorem npre : segTo Try.prog (orcFn tabR) 10000 (flN.take 3) shN [] shNn [(0, 0), (1, 0)] = some (.normal, [.ok (.var 0), .ok (.con (.int .i64 0)), .ok (.con (.int .i64 0)), .ok (.con (.bool false)), .ok (.con (.int .i64 0)), .ok (.con (.bool false))], [.var 0, .con (.int .i64 0), .con (.int .i64 0), .con (.bool false), .con (.int .i64 0), .con (.bool false)]) := by kernel_rfl
theorem nx0 : segTo Try.prog (orcFn tabR) 10000 lpN shNn [0] shNn [(0, 0), (1, 0)] = some (.exit 0, [.ok (.bin .lss (.var 1) (.var 0)), .is (.bin .lss (.var 1) (.var 0)) (.bool false), .ok (.var 0), .ok (.var 1), .ok (.var 2), .ok (.var 3), .ok (.var 4), .ok (.var 5)], [.var 0, .var 1, .var 2, .var 3, .var 4, .var 5]) := by kernel_rfl
theorem nx1 : segTo Try.prog (orcFn tabR) 10000 lpN shNn [1, 0] shNn [(0, 0), (1, 0)] = some (.exit 0, [.ok (.bin .lss (.var 1) (.var 0)), .is (.bin .lss (.var 1) (.var 0)) (.bool true), .ok (.bin .leq (.var 0) (.con (.int .i64 64))), .is (.bin .leq (.var 0) (.con (.int .i64 64))) (.bool false), .ok (.var 0), .ok (.var 1), .ok (.var 2), .ok (.var 3), .ok (.var 4), .ok (.var 5)], [.var 0, .var 1, .var 2, .var 3, .var 4, .var 5]) := by kernel_rfl
theorem nn : segTo Try.prog (orcFn tabR) 10000 lpN shNn [1, 1] shNo [(0, 0), (1, 0), (4, 0)] hApp = some (.normal, [.ok (.bin .lss (.var 1) (.var 0)), .is (.bin .lss (.var 1) (.var 0)) (.bool true), .ok (.bin .leq (.var 0) (.con (.int .i64 64))), .is (.bin .leq (.var 0) (.con (.int .i64 64))) (.bool true), rng (.con (.int .i64 0)) (.len (.lit 1 [(SX.con (.string noughts))])), upto (.len (.lit 1 [(SX.con (.string noughts))])) 4294967296, .ok (.bin .add (.var 1) (.con (.int .i64 1))), .ok (.var 0), .ok (.bin .add (.var 1) (.con (.int .i64 1))), .ok (.var 2), .ok (.var 3), .ok (.var 4), .ok (.var 5), same (.len (.lit 1 [(SX.con (.string noughts))])) (.len (.lit 1 [(SX.con (.string noughts))]))], [.var 0, .bin .add (.var 1) (.con (.int .i64 1)), .var 2, .var 3, .var 4, .var 5, .lit 1 [(SX.con (.string noughts))]]) := by kernel_rfl
theorem no : segTo Try.prog (orcFn tabR) 10000 lpN shNo [1, 1] shNo [(0, 0), (1, 0), (2, 1)] hApp = some (.normal, [.ok (.bin .lss (.var 1) (.var 0)), .is (.bin .lss (.var 1) (.var 0)) (.bool true), .ok (.bin .leq (.var 0) (.con (.int .i64 64))), .is (.bin .leq (.var 0) (.con (.int .i64 64))) (.bool true), same (.len (.var 6)) (.len (.var 6)), upto (.len (rop ROp.cat [.var 6, .lit 1 [(SX.con (.string noughts))]])) 4294967296, .ok (.bin .add (.var 1) (.con (.int .i64 1))), .ok (.var 0), .ok (.bin .add (.var 1) (.con (.int .i64 1))), .ok (.var 2), .ok (.var 3), .ok (.var 4), .ok (.var 5), same (.len (rop ROp.cat [.var 6, .lit 1 [(SX.con (.string noughts))]])) (.len (rop ROp.cat [.var 6, .lit 1 [(SX.con (.string noughts))]]))], [.var 0, .bin .add (.var 1) (.con (.int .i64 1)), .var 2, .var 3, .var 4, .var 5, rop ROp.cat [.var 6, .lit 1 [(SX.con (.string noughts))]]]) := by kernel_rfl
theorem no0 : segTo Try.prog (orcFn tabR) 10000 lpN shNo [0] shNo [(0, 0), (1, 0), (2, 0)] = some (.exit 0, [.ok (.bin .lss (.var 1) (.var 0)), .is (.bin .lss (.var 1) (.var 0)) (.bool false), .ok (.var 0), .ok (.var 1), .ok (.var 2), .ok (.var 3), .ok (.var 4), .ok (.var 5), same (.len (.var 6)) (.len (.var 6))], [.var 0, .var 1, .var 2, .var 3, .var 4, .var 5, .var 6]) := by kernel_rfl
theorem npn : segTo Try.prog (orcFn tabR) 10000 (flN.drop 4) shNn [] shNRn [(0, 0)] = some (.ret, [.ok (.var 4), .ok (.var 5)], [.var 4, .var 5]) := by kernel_rfl
theorem npo : segTo Try.prog (orcFn tabR) 10000 (flN.drop 4) shNo [] shNR [(0, 0), (2, 0)] = some (.ret, [.ok (.var 4), .ok (.var 5), same (.len (.var 6)) (.len (.var 6))], [.var 4, .var 5, .var 6]) := by kernel_rfl
theorem l0 : runTo Try.prog fil.noOrc 10000 38 (ELasts 9) [.row, .num, .num, .num] [1, 1] hApp = some ([.ok (.var 1), .ok (.var 2), .ok (.var 3), cells (.var 0) 1, same (.len (.lit 0 [])) (.len (.lit 0 [])), upto (.len (rop ROp.cat [.lit 0 [], .var 0])) 4294967296, .ok (.bin .geq (.var 1) (.con (.int .i64 0))), .is (.bin .geq (.var 1) (.con (.int .i64 0))) (.bool true), .ok (.len (.var 0)), .ok (.bin .lss (.var 1) (.len (.var 0))), .is (.bin .lss (.var 1) (.len (.var 0))) (.bool true), .ok (rop ROp.max2 [.var 3, .con (.int .i64 0)]), .ok (.slen (.var 2)), .idx (.var 0) (.var 1) 1 1, .idx (.var 0) (.var 1) 1 1, .ok (.cell (.var 0) (.var 1) 1 0), .ok (.slen (.cell (.var 0) (.var 1) 1 0)), .ok (rop ROp.min2 [.slen (.var 2), .slen (.cell (.var 0) (.var 1) 1 0)]), .ok (rop ROp.min2 [rop ROp.max2 [.var 3, .con (.int .i64 0)], rop ROp.min2 [.slen (.var 2), .slen (.cell (.var 0) (.var 1) 1 0)]]), .ok (.op (Op.slice 9 (Operand.tmp 38) none (some (Operand.tmp 39)) none) 9 [38, 39] [.var 2, rop ROp.min2 [rop ROp.max2 [.var 3, .con (.int .i64 0)], rop ROp.min2 [.slen (.var 2), .slen (.cell (.var 0) (.var 1) 1 0)]]]), .idx (.var 0) (.var 1) 1 1, .idx (.var 0) (.var 1) 1 1, .ok (.cell (.var 0) (.var 1) 1 0), .ok (.op (Op.slice 9 (Operand.tmp 45) (some (Operand.tmp 46)) none none) 9 [45, 46] [.cell (.var 0) (.var 1) 1 0, rop ROp.min2 [rop ROp.max2 [.var 3, .con (.int .i64 0)], rop ROp.min2 [.slen (.var 2), .slen (.cell (.var 0) (.var 1) 1 0)]]]), .ok (.bin .add (.op (Op.slice 9 (Operand.tmp 38) none (some (Operand.tmp 39)) none) 9 [38, 39] [.var 2, rop ROp.min2 [rop ROp.max2 [.var 3, .con (.int .i64 0)], rop ROp.min2 [.slen (.var 2), .slen (.cell (.var 0) (.var 1) 1 0)]]]) (.op (Op.slice 9 (Operand.tmp 45) (some (Operand.tmp 46)) none none) 9 [45, 46] [.cell (.var 0) (.var 1) 1 0, rop ROp.min2 [rop ROp.max2 [.var 3, .con (.int .i64 0)], rop ROp.min2 [.slen (.var 2), .slen (.cell (.var 0) (.var 1) 1 0)]]])), rng (.var 1) (.len (rop ROp.cat [.lit 0 [], .var 0])), .idx (rop ROp.cat [.lit 0 [], .var 0]) (.var 1) 1 1, same (.len (rop ROp.cat [.lit 0 [], .var 0])) (.len (rop (ROp.upd 1 0) [rop ROp.cat [.lit 0 [], .var 0], .var 1, .bin .add (.op (Op.slice 9 (Operand.tmp 38) none (some (Operand.tmp 39)) none) 9 [38, 39] [.var 2, rop ROp.min2 [rop ROp.max2 [.var 3, .con (.int .i64 0)], rop ROp.min2 [.slen (.var 2), .slen (.cell (.var 0) (.var 1) 1 0)]]]) (.op (Op.slice 9 (Operand.tmp 45) (some (Operand.tmp 46)) none none) 9 [45, 46] [.cell (.var 0) (.var 1) 1 0, rop ROp.min2 [rop ROp.max2 [.var 3, .con (.int .i64 0)], rop ROp.min2 [.slen (.var 2), .slen (.cell (.var 0) (.var 1) 1 0)]]])]))], [rop (ROp.upd 1 0) [rop ROp.cat [.lit 0 [], .var 0], .var 1, .bin .add (.op (Op.slice 9 (Operand.tmp 38) none (some (Operand.tmp 39)) none) 9 [38, 39] [.var 2, rop ROp.min2 [rop ROp.max2 [.var 3, .con (.int .i64 0)], rop ROp.min2 [.slen (.var 2), .slen (.cell (.var 0) (.var 1) 1 0)]]]) (.op (Op.slice 9 (Operand.tmp 45) (some (Operand.tmp 46)) none none) 9 [45, 46] [.cell (.var 0) (.var 1) 1 0, rop ROp.min2 [rop ROp.max2 [.var 3, .con (.int .i64 0)], rop ROp.min2 [.slen (.var 2), .slen (.cell (.var 0) (.var 1) 1 0)]]])]]) := by kernel_rfl
theorem r0 : segTo Try.prog (orcFn tabR) 10000 flR shD [1] shDR [] = some (.ret, [.is (.var 3) (.bool true), .ok (.con (.string { data := { toList := [] } })), .ok (.con (.bool false))], [.con (.string { data := { toList := [] } }), .con (.bool false)]) := by kernel_rfl
theorem r10 : segTo Try.prog (orcFn tabR) 10000 flR shD [0, 0] shDR [] = some (.ret, [.is (.var 3) (.bool false), .ok (.bin .geq (.var 4) (.con (.int .i64 0))), .is (.bin .geq (.var 4) (.con (.int .i64 0))) (.bool false), .ok (.con (.string { data := { toList := [] } })), .ok (.con (.bool false))], [.con (.string { data := { toList := [] } }), .con (.bool false)]) := by kernel_rfl
theorem r110 : segTo Try.prog (orcFn tabR) 10000 flR shD [0, 1, 0] shDR [] = some (.ret, [.is (.var 3) (.bool false), .ok (.bin .geq (.var 4) (.con (.int .i64 0))), .is (.bin .geq (.var 4) (.con (.int .i64 0))) (.bool true), .ok (.len (.var 0)), .ok (.bin .lss (.var 4) (.len (.var 0))), .is (.bin .lss (.var 4) (.len (.var 0))) (.bool false), .ok (.con (.string { data := { toList := [] } })), .ok (.con (.bool false))], [.con (.string { data := { toList := [] } }), .con (.bool false)]) := by kernel_rfl
theorem rp : segTo Try.prog (orcFn tabR) 10000 (flR.take 5) shD [0, 1, 1] shDl [(2, 0)] = some (.normal, [.is (.var 3) (.bool false), .ok (.bin .geq (.var 4) (.con (.int .i64 0))), .is (.bin .geq (.var 4) (.con (.int .i64 0))) (.bool true), .ok (.len (.var 0)), .ok (.bin .lss (.var 4) (.len (.var 0))), .is (.bin .lss (.var 4) (.len (.var 0))) (.bool true), .idx (.var 0) (.var 4) 1 1, .idx (.var 0) (.var 4) 1 1, .ok (.cell (.var 0) (.var 4) 1 0), .ok (.var 4), .ok (.cell (.var 0) (.var 4) 1 0), .ok (.con (.int .i64 0)), .ok (.var 2), .ok (.var 3)], [.var 4, .cell (.var 0) (.var 4) 1 0, .con (.int .i64 0), .var 0, .var 1, .var 2, .var 3]) := by kernel_rfl
theorem rx : segTo Try.prog (orcFn tabR) 10000 lpR shDl [0] shDl [(0, 0)] = some (.exit 0, [.ok (.len (.var 4)), .ok (.bin .lss (.var 2) (.len (.var 4))), .is (.bin .lss (.var 2) (.len (.var 4))) (.bool false), .ok (.var 0), .ok (.var 1), .ok (.var 2), .ok (.var 5), .ok (.var 6)], [.var 0, .var 1, .var 2, .var 3, .var 4, .var 5, .var 6]) := by kernel_rfl
theorem rs0 : segTo Try.prog (orcFn tabR) 10000 lpR shDl [1, 0] shDl [(0, 0)] = some (.normal, [.ok (.len (.var 4)), .ok (.bin .lss (.var 2) (.len (.var 4))), .is (.bin .lss (.var 2) (.len (.var 4))) (.bool true), .idx (.var 4) (.var 2) 2 2, .idx (.var 4) (.var 2) 2 1, .ok (.cell (.var 4) (.var 2) 2 0), .ok (.bin .eql (.cell (.var 4) (.var 2) 2 0) (.var 0)), .is (.bin .eql (.cell (.var 4) (.var 2) 2 0) (.var 0)) (.bool false), .ok (.bin .add (.var 2) (.con (.int .i64 1))), .ok (.var 0), .ok (.var 1), .ok (.bin .add (.var 2) (.con (.int .i64 1))), .ok (.var 5), .ok (.var 6)], [.var 0, .var 1, .bin .add (.var 2) (.con (.int .i64 1)), .var 3, .var 4, .var 5, .var 6]) := by kernel_rfl
theorem rs1 : segTo Try.prog (orcFn tabR) 10000 lpR shDl [1, 1] shDl [(0, 0)] = some (.normal, [.ok (.len (.var 4)), .ok (.bin .lss (.var 2) (.len (.var 4))), .is (.bin .lss (.var 2) (.len (.var 4))) (.bool true), .idx (.var 4) (.var 2) 2 2, .idx (.var 4) (.var 2) 2 1, .ok (.cell (.var 4) (.var 2) 2 0), .ok (.bin .eql (.cell (.var 4) (.var 2) 2 0) (.var 0)), .is (.bin .eql (.cell (.var 4) (.var 2) 2 0) (.var 0)) (.bool true), .idx (.var 4) (.var 2) 2 2, .idx (.var 4) (.var 2) 2 2, .ok (.cell (.var 4) (.var 2) 2 1), .ok (.bin .add (.var 2) (.con (.int .i64 1))), .ok (.var 0), .ok (.cell (.var 4) (.var 2) 2 1), .ok (.bin .add (.var 2) (.con (.int .i64 1))), .ok (.var 5), .ok (.var 6)], [.var 0, .cell (.var 4) (.var 2) 2 1, .bin .add (.var 2) (.con (.int .i64 1)), .var 3, .var 4, .var 5, .var 6]) := by kernel_rfl
theorem re : segTo Try.prog (orcFn tabR) 10000 (flR.drop 6) shDl [] shDR [] = some (.ret, [.ok (.var 1), .ok (.con (.bool true))], [.var 1, .con (.bool true)]) := by kernel_rfl
theorem cp : segTo Try.prog (orcFn tabR) 10000 (flC.take 2) shC [] shCl [(3, 0), (4, 0)] = some (.normal, [.ok (.con (.int .i64 0)), .ok (.var 2), .ok (.var 3), .ok (.con (.int .i64 0)), .ok (.con (.bool false))], [.var 4, .con (.int .i64 0), .var 0, .var 1, .var 2, .var 3, .con (.int .i64 0), .con (.bool false)]) := by kernel_rfl
theorem cx : segTo Try.prog (orcFn tabR) 10000 lpC shCl [0] shCl [(0, 0), (1, 0)] = some (.exit 0, [.ok (.len (.var 3)), .ok (.bin .lss (.var 1) (.len (.var 3))), .is (.bin .lss (.var 1) (.len (.var 3))) (.bool false), .ok (.var 1), .ok (.var 4), .ok (.var 5), .ok (.var 6), .ok (.var 7)], [.var 0, .var 1, .var 2, .var 3, .var 4, .var 5, .var 6, .var 7]) := by kernel_rfl
theorem c0 : segTo Try.prog (orcFn tabR) 10000 lpC shCl [1, 0] shCl [(0, 0), (1, 0)] = some (.normal, [.ok (.len (.var 3)), .ok (.bin .lss (.var 1) (.len (.var 3))), .is (.bin .lss (.var 1) (.len (.var 3))) (.bool true), .ok (.len (.var 0)), .ok (.bin .lss (.var 1) (.len (.var 0))), .is (.bin .lss (.var 1) (.len (.var 0))) (.bool false), .idx (.var 3) (.var 1) 2 2, .idx (.var 3) (.var 1) 2 2, .ok (.cell (.var 3) (.var 1) 2 0), .ok (.cell (.var 3) (.var 1) 2 1), .fn 38 (ELasts 1) [.var 2, .cell (.var 3) (.var 1) 2 0, .cell (.var 3) (.var 1) 2 1, .con (.int .i64 0)], .ok (.bin .add (.var 1) (.con (.int .i64 1))), .ok (.bin .add (.var 1) (.con (.int .i64 1))), .ok (.var 4), .ok (.var 5), .ok (.var 6), .ok (.var 7)], [.var 0, .bin .add (.var 1) (.con (.int .i64 1)), .fn 1 [.var 2, .cell (.var 3) (.var 1) 2 0, .cell (.var 3) (.var 1) 2 1, .con (.int .i64 0)] 0, .var 3, .var 4, .var 5, .var 6, .var 7]) := by kernel_rfl
theorem c1 : segTo Try.prog (orcFn tabR) 10000 lpC shCl [1, 1] shCl [(0, 0), (1, 0)] = some (.normal, [.ok (.len (.var 3)), .ok (.bin .lss (.var 1) (.len (.var 3))), .is (.bin .lss (.var 1) (.len (.var 3))) (.bool true), .ok (.len (.var 0)), .ok (.bin .lss (.var 1) (.len (.var 0))), .is (.bin .lss (.var 1) (.len (.var 0))) (.bool true), .idx (.var 0) (.var 1) 1 1, .idx (.var 0) (.var 1) 1 1, .ok (.cell (.var 0) (.var 1) 1 0), .idx (.var 3) (.var 1) 2 2, .idx (.var 3) (.var 1) 2 2, .ok (.cell (.var 3) (.var 1) 2 0), .ok (.cell (.var 3) (.var 1) 2 1), .ok (rop ROp.max2 [.cell (.var 0) (.var 1) 1 0, .con (.int .i64 0)]), .ok (rop ROp.min2 [rop ROp.max2 [.cell (.var 0) (.var 1) 1 0, .con (.int .i64 0)], .con (.int .i64 32)]), .fn 38 (ELasts 1) [.var 2, .cell (.var 3) (.var 1) 2 0, .cell (.var 3) (.var 1) 2 1, rop ROp.min2 [rop ROp.max2 [.cell (.var 0) (.var 1) 1 0, .con (.int .i64 0)], .con (.int .i64 32)]], .ok (.bin .add (.var 1) (.con (.int .i64 1))), .ok (.bin .add (.var 1) (.con (.int .i64 1))), .ok (.var 4), .ok (.var 5), .ok (.var 6), .ok (.var 7)], [.var 0, .bin .add (.var 1) (.con (.int .i64 1)), .fn 1 [.var 2, .cell (.var 3) (.var 1) 2 0, .cell (.var 3) (.var 1) 2 1, rop ROp.min2 [rop ROp.max2 [.cell (.var 0) (.var 1) 1 0, .con (.int .i64 0)], .con (.int .i64 32)]] 0, .var 3, .var 4, .var 5, .var 6, .var 7]) := by kernel_rfl
theorem ce : segTo Try.prog (orcFn tabR) 10000 (flC.drop 3) shCl [] shCn [(1, 0)] = some (.ret, [.ok (.con (.int .i64 0)), .ok (.con (.bool false))], [.var 2, .con (.int .i64 0), .con (.bool false)]) := by kernel_rfl
theorem ts : segTo Try.prog (orcFn tabR) 10000 lpT (shPl 26 17) [1, 0] (shPl 26 17) [] = some (.normal, [.ok (.len (.var 0)), .ok (.bin .lss (.var 2) (.len (.var 0))), .is (.bin .lss (.var 2) (.len (.var 0))) (.bool true), .idx (.var 0) (.var 2) 1 1, .idx (.var 0) (.var 2) 1 1, .ok (.cell (.var 0) (.var 2) 1 0), .idx (.var 1) (.var 2) 1 1, .idx (.var 1) (.var 2) 1 1, .ok (.cell (.var 1) (.var 2) 1 0), .ok (.bin .neq (.cell (.var 0) (.var 2) 1 0) (.cell (.var 1) (.var 2) 1 0)), .is (.bin .neq (.cell (.var 0) (.var 2) 1 0) (.cell (.var 1) (.var 2) 1 0)) (.bool false), .ok (.bin .add (.var 2) (.con (.int .i64 1))), .ok (.bin .add (.var 2) (.con (.int .i64 1)))], [.var 0, .var 1, .bin .add (.var 2) (.con (.int .i64 1))]) := by kernel_rfl
theorem tx : segTo Try.prog (orcFn tabR) 10000 lpT (shPl 26 17) [0] (shPl 26 17) [] = some (.exit 0, [.ok (.len (.var 0)), .ok (.bin .lss (.var 2) (.len (.var 0))), .is (.bin .lss (.var 2) (.len (.var 0))) (.bool false), .ok (.var 2)], [.var 0, .var 1, .var 2]) := by kernel_rfl

@[simp] theorem holds_fn (B : Base) (f : FuncId) (E : FnE) (es : List SX) : (Fact.fn f E es).holds B ↔ ToldF f E (B.F E.k) ∧ ∃ ps qs, evs B.s B.F es = some ps ∧ B.F E.k ps = some qs := Iff.rfl
@[simp] theorem kLasts (k : Nat) : (ELasts k).k = k := rfl
@[simp] theorem kSame2 (k : Nat) : (ESame2 k).k = k := rfl
theorem cellS (l : List ByteArray) (i : Nat) (h : i < l.length) : cellPV (pRow encS l) (pI (i : Int)) 1 0 = some (pS l[i]) := by
  rw [cellPV_row encS l i .i64 1 0 rfl h, all_cell encS l i 0 l[i] (List.getElem?_eq_getElem h) (by decide)]; rfl
theorem cellP (l : List (Nat × ByteArray)) (i : Nat) (h : i < l.length) : cellPV (pRow encP l) (pI (i : Int)) 2 0 = some (pI (l[i].1 : Int)) ∧ cellPV (pRow encP l) (pI (i : Int)) 2 1 = some (pS l[i].2) :=
  ⟨by rw [cellPV_row encP l i .i64 2 0 rfl h, all_cell encP l i 0 l[i] (List.getElem?_eq_getElem h) (by decide)]; rfl, by rw [cellPV_row encP l i .i64 2 1 rfl h, all_cell encP l i 1 l[i] (List.getElem?_eq_getElem h) (by decide)]; rfl⟩
theorem cellI (l : List Int) (i : Nat) (h : i < l.length) : cellPV (pRow encI l) (pI (i : Int)) 1 0 = some (pI l[i]) := by
  rw [cellPV_row encI l i .i64 1 0 rfl h, all_cell encI l i 0 l[i] (List.getElem?_eq_getElem h) (by decide)]; rfl

/-! So many bytes of the front of a write. -/
def RLasts (ps qs : List PV) : Prop := ∃ (l : List ByteArray) (at1 : Nat) (b : ByteArray) (n : Int), l.length ≤ 1000 ∧ at1 < l.length ∧ b.size = 32 ∧ (∀ s ∈ l, s.size = 32) ∧ ps = [pRow encS l, pI (at1 : Int), pS b, pI n] ∧ qs = [pRow encS (stepAt l (at1, b) (clip n))]
theorem fLasts : ∀ ps q1 q2, RLasts ps q1 → RLasts ps q2 → q1 = q2 := by
  rintro ps q1 q2 ⟨l, a, b, n, _, _, _, _, rfl, rfl⟩ ⟨l', a', b', n', _, _, _, _, h, rfl⟩
  simp only [List.cons.injEq, PV.v.injEq, Value.int.injEq, Value.string.injEq, true_and, and_true, Int.ofNat_inj] at h
  obtain ⟨h1, rfl, rfl, rfl⟩ := h
  rw [symD.pRow_inj encS_inj h1]
theorem toldLasts (k : Nat) : ToldF 38 (ELasts k) (spec RLasts) := by
  refine told_of mixed_ok names_ok (fun _ _ => none) [.row, .num, .num, .num] ?_
  intro ps qs h _
  obtain ⟨l, j, b, n, hl, hj, hb, hall, rfl, rfl⟩ := of_spec h
  have hsz : l[j].size = 32 := hall _ (List.getElem_mem hj)
  have cl := cellsP_row encS l 1 rfl (by omega)
  have rc := r_cat0 encS l
  have cj := cellS l j hj
  have i1 := idxP_row encS l j 1 1 .i64 rfl hj (by decide)
  have hn : min (max n 0) 32 = (clip n : Int) := by unfold clip; omega
  have hc := clip_le n
  have hu : Try.prog.underlying 9 = some .string := rfl
  have o1 := op_to Try.prog 9 9 b (clip n) 38 39 rfl hu (by omega) (by omega)
  have o2 := op_from Try.prog 9 9 l[j] (clip n) 45 46 rfl hu (by omega) (by omega)
  have hbi : (b.size : Int) = 32 := by omega
  have hsi : (l[j].size : Int) = 32 := by omega
  have hst : l.set j (b.extract 0 (clip n) ++ l[j].extract (clip n) 32) = stepAt l (j, b) (clip n) := by
    have hg : l.getD j ByteArray.empty = l[j] := by simp [List.getD, hj]
    simp only [stepAt, putAt, hg]
  have hadd : (((b.extract 0 (clip n)).size : Nat) : Int) + ((l[j].extract (clip n) 32).size : Nat) = 32 := by
    rw [ByteArray.size_extract, ByteArray.size_extract]
    omega
  have ru : ropPV (.upd 1 0) [pRow encS l, pI (j : Int), pS (b.extract 0 (clip n) ++ l[j].extract (clip n) 32)] = some (pRow encS (l.set j (b.extract 0 (clip n) ++ l[j].extract (clip n) 32))) := r_updE encS l j .i64 _ hj
  have hls : (l.set j (b.extract 0 (clip n) ++ l[j].extract (clip n) 32)).length = l.length := by simp
  rw [hsz] at o2
  rw [hst] at ru hls
  simp only [Int.toNat_natCast] at o1 o2
  generalize stepAt l (j, b) (clip n) = l2 at *
  generalize b.extract 0 (clip n) = x at *
  generalize l[j].extract (clip n) 32 = y at *
  generalize clip n = c at *
  generalize l[j] = s at *
  refine ⟨_, _, _, _, _, _, fil.noOrc_ok, l0, fun w FP => ?_, ?_⟩
  · simp only [List.mem_cons, List.not_mem_nil, or_false, forall_eq_or_imp, forall_eq]
    simp [holds_idxP, holds_cellsP, Base.ev, SX.ev, evs, Value.oneCell', lenPV_row, lenPV_r, binPV, slenPV, plainL, PV.plain, r_max, r_min, cl, rc, cj, i1, hbi, hsi, hn, o1, o2, hadd, ru, hj, hls]
    omega
  · simp [evs, SX.ev, binPV, slenPV, plainL, PV.plain, r_max, r_min, rc, cj, hbi, hsi, hn, o1, o2, hadd, ru]

/-! Texts that are the same. -/
/-- Texts that are alike. -/
def RST2 (ps qs : List PV) : Prop := ∃ xs ys : List ByteArray, xs.length ≤ 1000000 ∧ ys.length ≤ 1000000 ∧ ps = [pRow encS xs, pRow encS ys] ∧ qs = [pB (decide (xs = ys))]
theorem fST2 : ∀ ps q1 q2, RST2 ps q1 → RST2 ps q2 → q1 = q2 := by
  rintro ps q1 q2 ⟨x, y, _, _, rfl, rfl⟩ ⟨x', y', _, _, h, rfl⟩
  simp only [List.cons.injEq, and_true] at h
  rw [symD.pRow_inj encS_inj h.1, symD.pRow_inj encS_inj h.2]
theorem toList_inj {a b : ByteArray} (h : a.toList = b.toList) : a = b := by
  apply ByteArray.ext
  apply Array.toList_inj.1
  rwa [ByteArray.toList_eq, ByteArray.toList_eq] at h
noncomputable def FR : Fns := fun k => match k with | 1 => spec RLasts | _ => fun _ => none
theorem s1 : ToldF 38 (ELasts 1) (FR 1) := toldLasts 1
theorem FR1 {l : List ByteArray} {at1 : Nat} {b : ByteArray} {n : Int} (h1 : l.length ≤ 1000) (h2 : at1 < l.length) (h3 : b.size = 32) (h4 : ∀ s ∈ l, s.size = 32) : FR 1 [pRow encS l, pI (at1 : Int), pS b, pI n] = some [pRow encS (stepAt l (at1, b) (clip n))] := spec_of fLasts ⟨l, at1, b, n, h1, h2, h3, h4, rfl, rfl⟩
/-! Read. -/
theorem cutR : flR = flR.take 5 ++ .block (blockId (nth flR 5)) (.loop (loopBody (nth flR 5))) :: flR.drop 6 := by kernel_rfl
theorem toldRead (k : Nat) : ToldF 14 (ERead k) (spec RRead) := by
  refine told_by FR _ (bodyOf Try.prog 14) Try.func14 (by kernel_rfl) shD (by kernel_rfl) ?_ ?_
  · intro ps qs h i hi
    obtain ⟨d, i0, _, rfl, rfl⟩ := of_spec h
    simp [shD] at hi
    match i, hi with
    | 0, hi => simp at hi
    | 1, hi => simp at hi
    | 2, hi => exact ⟨_, rfl, rfl⟩
    | 3, hi => exact ⟨_, rfl, rfl⟩
    | 4, hi => exact ⟨_, rfl, rfl⟩
    | i + 5, hi => simp at hi
  · intro C ps qs hF h a w hsh
    obtain ⟨⟨ls, ws, arm, dn⟩, i, ok, rfl, rfl⟩ := of_spec h
    simp only [pD, List.cons_append, List.nil_append] at hsh
    have hn := ok.n
    have hm := ok.many
    simp only at hn hm
    show wpL Try.prog flR _ a w
    have fin : ∀ (s : ByteArray) (b : Bool), readD ⟨ls, ws, arm, dn⟩ i = (s, b) → ∀ qs a1 w1, qs = [pS s, pB b] → InShape C shDR qs a1 w1 → (AX.ret = .normal → wpL Try.prog [] (fun e a' w' => (e = .normal ∨ e = .ret) ∧ ∃ sh' ps' es, InShape C sh' ps' a' w' ∧ resTo Try.prog Try.f14 sh' (ERead k) = some es ∧ evs (fun i => ps'[i]?) FR es = some [pS (readD ⟨ls, ws, arm, dn⟩ i).1, pB (readD ⟨ls, ws, arm, dn⟩ i).2]) a1 w1) ∧ (AX.ret ≠ .normal → (AX.ret.to = .normal ∨ AX.ret.to = .ret) ∧ ∃ sh' ps' es, InShape C sh' ps' a1 w1 ∧ resTo Try.prog Try.f14 sh' (ERead k) = some es ∧ evs (fun i => ps'[i]?) FR es = some [pS (readD ⟨ls, ws, arm, dn⟩ i).1, pB (readD ⟨ls, ws, arm, dn⟩ i).2]) := by
      rintro s b hq qs a1 w1 rfl h1
      exact ⟨fun h => (by cases h), fun _ => ⟨.inr rfl, shDR, _, [SX.var 0, SX.var 1], h1, by kernel_rfl, by rw [hq]; rfl⟩⟩
    have no : ¬ (hasB ⟨ls, ws, arm, dn⟩ i = true) → readD ⟨ls, ws, arm, dn⟩ i = (ByteArray.empty, false) := fun h => by rw [readD, if_neg h]
    cases dn with
    | true =>
      rw [← List.append_nil flR]
      refine seg_ok names_ok mixed_ok (orcFn_ok _) r0 hsh ?_ (fun qs a1 w1 hq h1 => fin _ _ (no (by simp [hasB])) qs a1 w1 (by simp [evs, SX.ev] at hq; exact hq.symm) h1)
      simp only [List.mem_cons, List.not_mem_nil, or_false, forall_eq_or_imp, forall_eq]
      simp [holds_idxP, holds_cellsP, Base.ev, SX.ev, evs, Value.oneCell', lenPV_row]
    | false =>
      by_cases h0 : 0 ≤ i
      · obtain ⟨j, rfl⟩ : ∃ j : Nat, i = (j : Int) := ⟨i.toNat, by omega⟩
        by_cases h1 : j < ls.length
        · have cj := cellS ls j h1
          have i1 := idxP_row encS ls j 1 1 .i64 rfl h1 (by decide)
          have hg : ls.getD j ByteArray.empty = ls[j] := by simp [List.getD, h1]
          have hrd : readD ⟨ls, ws, arm, false⟩ (j : Int) = (latK j ls[j] ws ws.length, true) := by
            rw [readD, if_pos (by simp [hasB, h1])]
            simp only [latest, hg, Int.toNat_natCast]
          rw [cutR]
          refine seg_ok names_ok mixed_ok (orcFn_ok _) rp hsh ?_ ?_
          · simp only [List.mem_cons, List.not_mem_nil, or_false, forall_eq_or_imp, forall_eq]
            simp [holds_idxP, holds_cellsP, Base.ev, SX.ev, evs, Value.oneCell', lenPV_row, binPV, i1, cj, h1]
          intro qs a1 w1 hq h2
          refine ⟨fun _ => ?_, fun h => absurd rfl h⟩
          simp [evs, SX.ev, cj] at hq
          subst hq
          refine block_loop (fun q a w => ∃ k : Nat, k ≤ ws.length ∧ q = ws.length - k ∧ InShape C shDl [pI (j : Int), pS (latK j ls[j] ws k), pI (k : Int), pRow encS ls, pRow encP ws, pI (arm : Int), pB false] a w) ?_ (n := ws.length) ⟨0, by omega, by omega, h2⟩
          rintro q a w ⟨k, hk, rfl, hin⟩
          show wpL Try.prog lpR _ a w
          rw [← List.append_nil lpR]
          by_cases hlt : k < ws.length
          · obtain ⟨c0, c1⟩ := cellP ws k hlt
            have ix := idxP_row encP ws k 2 2 .i64 rfl hlt (by decide)
            have ix1 := idxP_row encP ws k 2 1 .i64 rfl hlt (by decide)
            have v3 : IntKind.i64.wrap ((k : Int) + 1) = (k : Int) + 1 := wrapI _ (by omega) (by omega)
            have hgk : ws.getD k nop = ws[k] := by simp [List.getD, hlt]
            have hst : latK j ls[j] ws (k + 1) = if ws[k].1 = j then ws[k].2 else latK j ls[j] ws k := by rw [latK, hgk]
            have go : ∀ s, s = latK j ls[j] ws (k + 1) → ∀ qs a1 w1, qs = [pI (j : Int), pS s, pI ((k : Int) + 1), pRow encS ls, pRow encP ws, pI (arm : Int), pB false] → InShape C shDl qs a1 w1 → ∃ n', n' < ws.length - k ∧ ∃ k', k' ≤ ws.length ∧ n' = ws.length - k' ∧ InShape C shDl [pI (j : Int), pS (latK j ls[j] ws k'), pI (k' : Int), pRow encS ls, pRow encP ws, pI (arm : Int), pB false] a1 w1 := by
              rintro s rfl qs a1 w1 rfl h
              exact ⟨ws.length - (k + 1), by omega, k + 1, by omega, rfl, h⟩
            rw [hst] at go
            generalize latK j ls[j] ws k = sk at *
            generalize ws[k].2 = bk at *
            by_cases he : ws[k].1 = j
            · simp only [if_pos he] at go
              rw [he] at c0
              refine seg_ok names_ok mixed_ok (orcFn_ok _) rs1 hin ?_ (fun qs a1 w1 hq h1 => ⟨fun _ => .inl ⟨rfl, go _ rfl qs a1 w1 (by simp [evs, SX.ev, binPV, v3, c1] at hq; exact hq.symm) h1⟩, fun h => absurd rfl h⟩)
              simp only [List.mem_cons, List.not_mem_nil, or_false, forall_eq_or_imp, forall_eq]
              simp [holds_idxP, holds_cellsP, Base.ev, SX.ev, evs, Value.oneCell', lenPV_row, binPV, v3, hlt, ix, ix1, c0, c1]
            · simp only [if_neg he] at go
              generalize ws[k].1 = p at *
              refine seg_ok names_ok mixed_ok (orcFn_ok _) rs0 hin ?_ (fun qs a1 w1 hq h1 => ⟨fun _ => .inl ⟨rfl, go _ rfl qs a1 w1 (by simp [evs, SX.ev, binPV, v3] at hq; exact hq.symm) h1⟩, fun h => absurd rfl h⟩)
              simp only [List.mem_cons, List.not_mem_nil, or_false, forall_eq_or_imp, forall_eq]
              simp [holds_idxP, holds_cellsP, Base.ev, SX.ev, evs, Value.oneCell', lenPV_row, binPV, v3, hlt, ix, ix1, c0]
              omega
          · have hie : k = ws.length := by omega
            subst hie
            rw [hrd] at fin
            generalize latK j ls[j] ws ws.length = sk at *
            refine seg_ok names_ok mixed_ok (orcFn_ok _) rx hin ?_ ?_
            · simp only [List.mem_cons, List.not_mem_nil, or_false, forall_eq_or_imp, forall_eq]
              simp [holds_idxP, holds_cellsP, Base.ev, SX.ev, evs, Value.oneCell', lenPV_row, binPV]
            · intro qs a1 w1 hq h1
              refine ⟨fun h => (by cases h), fun _ => .inr (.inl ⟨by rw [show blockId (nth flR 5) = 0 by kernel_rfl]; rfl, ?_⟩)⟩
              simp [evs, SX.ev] at hq
              subst hq
              rw [← List.append_nil (flR.drop 6)]
              rw [hrd]
              refine seg_ok names_ok mixed_ok (orcFn_ok _) re h1 ?_ (fun qs a1 w1 hq h1 => fin _ _ rfl qs a1 w1 (by simp [evs, SX.ev] at hq; exact hq.symm) h1)
              simp only [List.mem_cons, List.not_mem_nil, or_false, forall_eq_or_imp, forall_eq]
              simp [holds_idxP, holds_cellsP, Base.ev, SX.ev, evs, Value.oneCell', lenPV_row]
        · rw [← List.append_nil flR]
          refine seg_ok names_ok mixed_ok (orcFn_ok _) r110 hsh ?_ (fun qs a1 w1 hq h2 => fin _ _ (no (fun h => by have := (hasB_yes h).2.2; simp only at this; omega)) qs a1 w1 (by simp [evs, SX.ev] at hq; exact hq.symm) h2)
          simp only [List.mem_cons, List.not_mem_nil, or_false, forall_eq_or_imp, forall_eq]
          simp [holds_idxP, holds_cellsP, Base.ev, SX.ev, evs, Value.oneCell', lenPV_row, binPV]
          omega
      · rw [← List.append_nil flR]
        refine seg_ok names_ok mixed_ok (orcFn_ok _) r10 hsh ?_ (fun qs a1 w1 hq h2 => fin _ _ (no (fun h => h0 (hasB_yes h).2.1)) qs a1 w1 (by simp [evs, SX.ev] at hq; exact hq.symm) h2)
        simp only [List.mem_cons, List.not_mem_nil, or_false, forall_eq_or_imp, forall_eq]
        simp [holds_idxP, holds_cellsP, Base.ev, SX.ev, evs, Value.oneCell', lenPV_row, binPV]
        omega

/-! Crash. -/
theorem cutC : flC = flC.take 2 ++ .block (blockId (nth flC 2)) (.loop (loopBody (nth flC 2))) :: flC.drop 3 := by kernel_rfl
theorem sizes {d : D} (ok : d.ok) {f : Nat → Nat} (hf : ∀ k, f k ≤ 32) (k : Nat) (hk : k ≤ d.wait.length) : ∀ s ∈ layK f d.last d.wait k, s.size = 32 := layK_sizes hf ok.len ok.wlen k hk
theorem clip_clip (x : Int) : clip (min (max x 0) 32) = clip x := by unfold clip; omega
theorem toldCrash (k0 : Nat) : ToldF 15 (ECrashR k0) (spec RCrash) := by
  refine told_by FR _ (bodyOf Try.prog 15) Try.func15 (by kernel_rfl) shC (by kernel_rfl) ?_ ?_
  · intro ps qs h i hi
    obtain ⟨d, keep, _, rfl, rfl⟩ := of_spec h
    simp [shC] at hi
    match i, hi with
    | 0, hi => simp at hi
    | 1, hi => simp at hi
    | 2, hi => exact ⟨_, rfl, rfl⟩
    | 3, hi => exact ⟨_, rfl, rfl⟩
    | 4, hi => simp at hi
    | i + 5, hi => simp at hi
  · intro C ps qs hF h a w hsh
    obtain ⟨⟨ls, ws, arm, dn⟩, keep, ok, rfl, rfl⟩ := of_spec h
    simp only [pD, List.cons_append, List.nil_append] at hsh
    have hn := ok.n
    have hm := ok.many
    have hsz := fun k hk => sizes ok (f := keepAt keep) (keepAt_le keep) k hk
    simp only at hn hm hsz
    show wpL Try.prog flC _ a w
    rw [cutC]
    refine seg_ok names_ok mixed_ok (orcFn_ok _) cp hsh ?_ ?_
    · simp only [List.mem_cons, List.not_mem_nil, or_false, forall_eq_or_imp, forall_eq]
      simp [holds_idxP, holds_cellsP, Base.ev, SX.ev, evs, Value.oneCell', lenPV_row]
    intro qs a1 w1 hq h2
    refine ⟨fun _ => ?_, fun h => absurd rfl h⟩
    simp [evs, SX.ev] at hq
    subst hq
    refine block_loop (fun q a w => ∃ k : Nat, k ≤ ws.length ∧ q = ws.length - k ∧ InShape C shCl [pRow encI keep, pI (k : Int), pRow encS (layK (keepAt keep) ls ws k), pRow encP ws, pI (arm : Int), pB dn, pI 0, pB false] a w) ?_ (n := ws.length) ⟨0, by omega, by omega, h2⟩
    rintro q a w ⟨k, hk, rfl, hin⟩
    show wpL Try.prog lpC _ a w
    rw [← List.append_nil lpC]
    by_cases hlt : k < ws.length
    · obtain ⟨c0', c1'⟩ := cellP ws k hlt
      have ix := idxP_row encP ws k 2 2 .i64 rfl hlt (by decide)
      have v3 : IntKind.i64.wrap ((k : Int) + 1) = (k : Int) + 1 := wrapI _ (by omega) (by omega)
      have hgk : ws.getD k nop = ws[k] := by simp [List.getD, hlt]
      obtain ⟨y1, y2⟩ := ok.wlen _ (List.getElem_mem hlt)
      simp only at y1
      have hll := layK_len (keepAt keep) ls ws k
      have e1 : ∀ n : Int, clip n = keepAt keep k → FR 1 [pRow encS (layK (keepAt keep) ls ws k), pI (ws[k].1 : Int), pS ws[k].2, pI n] = some [pRow encS (layK (keepAt keep) ls ws (k + 1))] := fun n hc => by
        rw [FR1 (by omega) (by omega) y2 (hsz k hk), hc, layK, hgk]
      have go : ∀ qs a1 w1, qs = [pRow encI keep, pI ((k : Int) + 1), pRow encS (layK (keepAt keep) ls ws (k + 1)), pRow encP ws, pI (arm : Int), pB dn, pI 0, pB false] → InShape C shCl qs a1 w1 → ∃ n', n' < ws.length - k ∧ ∃ k', k' ≤ ws.length ∧ n' = ws.length - k' ∧ InShape C shCl [pRow encI keep, pI (k' : Int), pRow encS (layK (keepAt keep) ls ws k'), pRow encP ws, pI (arm : Int), pB dn, pI 0, pB false] a1 w1 := by
        rintro qs a1 w1 rfl h
        exact ⟨ws.length - (k + 1), by omega, k + 1, by omega, rfl, h⟩
      by_cases hkk : k < keep.length
      · have hke : keepAt keep k = clip keep[k] := by simp [keepAt, List.getD, hkk]
        have e2 := e1 (min (max keep[k] 0) 32) (by rw [hke, clip_clip])
        have ck := cellI keep k hkk
        have ix2 := idxP_row encI keep k 1 1 .i64 rfl hkk (by decide)
        generalize layK (keepAt keep) ls ws (k + 1) = l2 at *
        generalize layK (keepAt keep) ls ws k = l1 at *
        generalize ws[k].2 = bk at *
        generalize (ws[k].1 : Int) = ak at *
        generalize keep[k] = x at *
        refine seg_ok names_ok mixed_ok (orcFn_ok _) rdk.c1 hin ?_ (fun qs a1 w1 hq h1 => ⟨fun _ => .inl ⟨rfl, go qs a1 w1 (by simp [evs, SX.ev, hF, binPV, v3, c0', c1', ck, r_max, r_min, e2] at hq; exact hq.symm) h1⟩, fun h => absurd rfl h⟩)
        simp only [List.mem_cons, List.not_mem_nil, or_false, forall_eq_or_imp, forall_eq]
        simp [holds_idxP, holds_cellsP, Base.ev, SX.ev, evs, Value.oneCell', hF, lenPV_row, binPV, v3, hlt, hkk, ix, ix2, c0', c1', ck, r_max, r_min, e2, s1]
      · have hke : keepAt keep k = 0 := by
          have : keep.getD k 0 = 0 := by simp [List.getD, hkk]
          rw [keepAt, this]; rfl
        have e2 := e1 0 (by rw [hke]; rfl)
        generalize layK (keepAt keep) ls ws (k + 1) = l2 at *
        generalize layK (keepAt keep) ls ws k = l1 at *
        generalize ws[k].2 = bk at *
        generalize (ws[k].1 : Int) = ak at *
        refine seg_ok names_ok mixed_ok (orcFn_ok _) rdk.c0 hin ?_ (fun qs a1 w1 hq h1 => ⟨fun _ => .inl ⟨rfl, go qs a1 w1 (by simp [evs, SX.ev, hF, binPV, v3, c0', c1', e2] at hq; exact hq.symm) h1⟩, fun h => absurd rfl h⟩)
        simp only [List.mem_cons, List.not_mem_nil, or_false, forall_eq_or_imp, forall_eq]
        simp [holds_idxP, holds_cellsP, Base.ev, SX.ev, evs, Value.oneCell', hF, lenPV_row, binPV, v3, hlt, ix, c0', c1', e2, s1]
        omega
    · have hie : k = ws.length := by omega
      subst hie
      have hq2 : crashD ⟨ls, ws, arm, dn⟩ keep = ⟨layK (keepAt keep) ls ws ws.length, [], 0, false⟩ := rfl
      rw [hq2]
      generalize layK (keepAt keep) ls ws ws.length = l1 at *
      refine seg_ok names_ok mixed_ok (orcFn_ok _) cx hin ?_ ?_
      · simp only [List.mem_cons, List.not_mem_nil, or_false, forall_eq_or_imp, forall_eq]
        simp [holds_idxP, holds_cellsP, Base.ev, SX.ev, evs, Value.oneCell', lenPV_row, binPV]
      · intro qs a1 w1 hq h1
        refine ⟨fun h => (by cases h), fun _ => .inr (.inl ⟨by rw [show blockId (nth flC 2) = 0 by kernel_rfl]; rfl, ?_⟩)⟩
        simp [evs, SX.ev] at hq
        subst hq
        rw [← List.append_nil (flC.drop 3)]
        refine seg_ok names_ok mixed_ok (orcFn_ok _) ce h1 ?_ (fun qs a1 w1 hq h1 => ⟨fun h => (by cases h), fun _ => ⟨.inr rfl, shCn, _, [SX.var 0, SX.lit 0 [], SX.var 1, SX.var 2], h1, by kernel_rfl, by simp [evs, SX.ev] at hq; subst hq; rfl⟩⟩)
        simp only [List.mem_cons, List.not_mem_nil, or_false, forall_eq_or_imp, forall_eq]
        simp [holds_idxP, holds_cellsP, Base.ev, SX.ev, evs, Value.oneCell', lenPV_row]

/-! New. -/
theorem cutN : flN = flN.take 3 ++ .block (blockId (nth flN 3)) (.loop (loopBody (nth flN 3))) :: flN.drop 4 := by kernel_rfl
theorem rowS1 (s : ByteArray) : (PV.row 1 [pS s]) = pRow encS [s] := by simp [pRow, Enc.all, encS]
theorem toldNew (k0 : Nat) : ToldF 12 (ENew k0) (spec RNew) := by
  refine told_by FR _ (bodyOf Try.prog 12) Try.func12 (by kernel_rfl) shN (by kernel_rfl) ?_ ?_
  · intro ps qs h i hi
    obtain ⟨n, rfl, rfl⟩ := of_spec h
    simp [shN] at hi
    match i, hi with
    | 0, hi => exact ⟨_, rfl, rfl⟩
    | i + 1, hi => simp at hi
  · intro C ps qs hF h a w hsh
    obtain ⟨n, rfl, rfl⟩ := of_spec h
    show wpL Try.prog flN _ a w
    rw [cutN]
    refine seg_ok names_ok mixed_ok (orcFn_ok _) npre hsh ?_ ?_
    · simp only [List.mem_cons, List.not_mem_nil, or_false, forall_eq_or_imp, forall_eq]
      simp [holds_idxP, holds_cellsP, Base.ev, SX.ev, evs, Value.oneCell', lenPV_row]
    intro qs a1 w1 hq h2
    refine ⟨fun _ => ?_, fun h => absurd rfl h⟩
    simp [evs, SX.ev] at hq
    subst hq
    refine block_loop (fun q a w => ∃ i : Nat, q = 64 - i ∧ ((i = 0 ∧ InShape C shNn [pI n, pI 0, pI 0, pB false, pI 0, pB false] a w) ∨ (0 < i ∧ (i : Int) ≤ n ∧ n ≤ 64 ∧ InShape C shNo [pI n, pI (i : Int), pI 0, pB false, pI 0, pB false, pRow encS (List.replicate i noughts)] a w))) ?_ (n := 64) ⟨0, by omega, .inl ⟨rfl, h2⟩⟩
    rintro q a w ⟨i, rfl, hin⟩
    show wpL Try.prog lpN _ a w
    rw [← List.append_nil lpN]
    have go : ∀ (i : Nat) qs a1 w1, i < 64 → (i : Int) < n → n ≤ 64 → qs = [pI n, pI ((i : Int) + 1), pI 0, pB false, pI 0, pB false, pRow encS (List.replicate (i + 1) noughts)] → InShape C shNo qs a1 w1 → ∃ n', n' < 64 - i ∧ ∃ j : Nat, n' = 64 - j ∧ ((j = 0 ∧ InShape C shNn [pI n, pI 0, pI 0, pB false, pI 0, pB false] a1 w1) ∨ (0 < j ∧ (j : Int) ≤ n ∧ n ≤ 64 ∧ InShape C shNo [pI n, pI (j : Int), pI 0, pB false, pI 0, pB false, pRow encS (List.replicate j noughts)] a1 w1)) := by
      rintro i qs a1 w1 hi h1 h3 rfl h
      exact ⟨64 - (i + 1), by omega, i + 1, rfl, .inr ⟨by omega, by omega, h3, h⟩⟩
    rcases hin with ⟨rfl, hin⟩ | ⟨h0, h1, h3, hin⟩
    · have done : (n < 1 ∨ 64 < n) → ∀ qs a1 w1, qs = [pI n, pI 0, pI 0, pB false, pI 0, pB false] → InShape C shNn qs a1 w1 → wpL Try.prog (flN.drop 4) (fun e a' w' => (e = .normal ∨ e = .ret) ∧ ∃ sh' ps' es, InShape C sh' ps' a' w' ∧ resTo Try.prog Try.f12 sh' (ENew k0) = some es ∧ evs (fun i => ps'[i]?) FR es = some (pD (newD n))) a1 w1 := by
        rintro hd qs a1 w1 rfl h
        rw [← List.append_nil (flN.drop 4)]
        have hq2 : newD n = ⟨[], [], 0, false⟩ := by rw [newD, if_neg (by omega)]
        rw [hq2]
        refine seg_ok names_ok mixed_ok (orcFn_ok _) npn h ?_ (fun qs a1 w1 hq h1 => ⟨fun h => (by cases h), fun _ => ⟨.inr rfl, shNRn, _, [SX.lit 0 [], SX.lit 0 [], SX.var 0, SX.var 1], h1, by kernel_rfl, by simp [evs, SX.ev] at hq; subst hq; rfl⟩⟩)
        simp only [List.mem_cons, List.not_mem_nil, or_false, forall_eq_or_imp, forall_eq]
        simp [holds_idxP, holds_cellsP, Base.ev, SX.ev, evs, Value.oneCell', lenPV_row]
      by_cases g1 : 0 < n
      · by_cases g2 : n ≤ 64
        · have hr : (PV.row 1 [pS noughts]) = pRow encS (List.replicate 1 noughts) := rowS1 _
          refine seg_ok names_ok mixed_ok (orcFn_ok _) nn hin ?_ (fun qs a1 w1 hq h1 => ⟨fun _ => .inl ⟨rfl, go 0 qs a1 w1 (by omega) (by omega) g2 (by simp [evs, SX.ev, binPV, wrapI] at hq; rw [← hr]; exact hq.symm) h1⟩, fun h => absurd rfl h⟩)
          simp only [List.mem_cons, List.not_mem_nil, or_false, forall_eq_or_imp, forall_eq]
          simp [holds_idxP, holds_cellsP, Base.ev, SX.ev, evs, Value.oneCell', lenPV_r, binPV, g1, g2, wrapI]
        · refine seg_ok names_ok mixed_ok (orcFn_ok _) nx1 hin ?_ (fun qs a1 w1 hq h1 => ⟨fun h => (by cases h), fun _ => .inr (.inl ⟨by rw [show blockId (nth flN 3) = 0 by kernel_rfl]; rfl, done (by omega) qs a1 w1 (by simp [evs, SX.ev] at hq; exact hq.symm) h1⟩)⟩)
          simp only [List.mem_cons, List.not_mem_nil, or_false, forall_eq_or_imp, forall_eq]
          simp [holds_idxP, holds_cellsP, Base.ev, SX.ev, evs, Value.oneCell', binPV, g1, g2]
      · refine seg_ok names_ok mixed_ok (orcFn_ok _) nx0 hin ?_ (fun qs a1 w1 hq h1 => ⟨fun h => (by cases h), fun _ => .inr (.inl ⟨by rw [show blockId (nth flN 3) = 0 by kernel_rfl]; rfl, done (by omega) qs a1 w1 (by simp [evs, SX.ev] at hq; exact hq.symm) h1⟩)⟩)
        simp only [List.mem_cons, List.not_mem_nil, or_false, forall_eq_or_imp, forall_eq]
        simp [holds_idxP, holds_cellsP, Base.ev, SX.ev, evs, Value.oneCell', binPV, g1]
    · by_cases g1 : (i : Int) < n
      · have rc : ropPV .cat [pRow encS (List.replicate i noughts), .row 1 [pS noughts]] = some (pRow encS (List.replicate (i + 1) noughts)) := by
          rw [rowS1, r_catE, List.replicate_succ']
        have v3 : IntKind.i64.wrap ((i : Int) + 1) = (i : Int) + 1 := wrapI _ (by omega) (by omega)
        have hl1 : (List.replicate i noughts).length = i := by simp
        have hl2 : (List.replicate (i + 1) noughts).length = i + 1 := by simp
        have go := go i
        generalize List.replicate (i + 1) noughts = x2 at *
        generalize List.replicate i noughts = x1 at *
        refine seg_ok names_ok mixed_ok (orcFn_ok _) rdk.no hin ?_ (fun qs a1 w1 hq h1 => ⟨fun _ => .inl ⟨rfl, go qs a1 w1 (by omega) g1 h3 (by simp [evs, SX.ev, binPV, rc, v3] at hq; exact hq.symm) h1⟩, fun h => absurd rfl h⟩)
        simp only [List.mem_cons, List.not_mem_nil, or_false, forall_eq_or_imp, forall_eq]
        simp [holds_idxP, holds_cellsP, Base.ev, SX.ev, evs, Value.oneCell', lenPV_row, lenPV_r, binPV, rc, v3, g1, h3, hl1, hl2]
        exact ⟨⟨i + 1, by omega, by omega⟩, ⟨i + 1, by omega⟩⟩
      · have hni : n = (i : Int) := by omega
        subst hni
        have hq2 : newD (i : Int) = ⟨List.replicate i noughts, [], 0, false⟩ := by rw [newD, if_pos (by omega), Int.toNat_natCast]
        rw [hq2]
        generalize List.replicate i noughts = x1 at *
        refine seg_ok names_ok mixed_ok (orcFn_ok _) no0 hin ?_ (fun qs a1 w1 hq h1 => ⟨fun h => (by cases h), fun _ => .inr (.inl ⟨by rw [show blockId (nth flN 3) = 0 by kernel_rfl]; rfl, ?_⟩)⟩)
        · simp only [List.mem_cons, List.not_mem_nil, or_false, forall_eq_or_imp, forall_eq]
          simp [holds_idxP, holds_cellsP, Base.ev, SX.ev, evs, Value.oneCell', lenPV_row, binPV]
        · simp [evs, SX.ev] at hq
          subst hq
          rw [← List.append_nil (flN.drop 4)]
          refine seg_ok names_ok mixed_ok (orcFn_ok _) npo h1 ?_ (fun qs a1 w1 hq h1 => ⟨fun h => (by cases h), fun _ => ⟨.inr rfl, shNR, _, [SX.var 2, SX.lit 0 [], SX.var 0, SX.var 1], h1, by kernel_rfl, by simp [evs, SX.ev] at hq; subst hq; rfl⟩⟩)
          simp only [List.mem_cons, List.not_mem_nil, or_false, forall_eq_or_imp, forall_eq]
          simp [holds_idxP, holds_cellsP, Base.ev, SX.ev, evs, Value.oneCell', lenPV_row]

end Go.Proofs.Ytegfdigljpnhcaa.rdk
