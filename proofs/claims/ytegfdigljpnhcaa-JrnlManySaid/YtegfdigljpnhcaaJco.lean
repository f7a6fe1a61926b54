/- A disk mended, a commit: told. -/
import Derived.Test.YtegfdigljpnhcaaJcm
import Derived.Test.YtegfdigljpnhcaaJsm
import Derived.Test.YtegfdigljpnhcaaEngDsk
namespace Go.Proofs.Ytegfdigljpnhcaa.jco
open Go Go.RowKit eng SX Fact dsk jhd
open jcm hiding EMd ECm
open jsm (ESm RSm fSm toldSm)
open jmt hiding Pt Calm
open fil
open rdk hiding dbox
open jly (ELay pvY RLay layQ fLay)
open jnm (ENam pv1 pv2)
open jsc (ESct EFil pvM RSct RFil fSct fFil)
open symD hiding pRow_inj
set_option linter.unusedVariables false
set_option linter.unusedSimpArgs false
set_option maxRecDepth 1000000

def EMd (k : Nat) : FnE := { k := k, ins := [some 4, none], leaks := [], outs := [some 4, none], kinds := [.row, .row, .num, .num, .truth] }
def ECm (k : Nat) : FnE := { k := k, ins := [some 4, none, none], leaks := [false, false, false, false, false, true], outs := [some 4, none], kinds := [.row, .row, .num, .num, .truth] }
def tabS (f : FuncId) : Option FnE := cond (Nat.beq f 50) (some (ESm 11)) none
def tabM (f : FuncId) : Option (FnE × List Value) := cond (Nat.beq f 40) (some (ENm 5, [pv1, pv2, pv3])) none
def tabL (f : FuncId) : Option (PtrE × List Value) := cond (Nat.beq f 32) (some (ELay 6, [pvY])) none
def orcM : Orc := orcOr (orcFn tabS) (orcOr (orcX tabM) (orcQ tabL))
def tabC (f : FuncId) : Option FnE := cond (Nat.beq f 50) (some (ESm 11)) (cond (Nat.beq f 30) (some (ESct 7)) (cond (Nat.beq f 34) (some (ECp 8)) (cond (Nat.beq f 35) (some (EHd 3)) (cond (Nat.beq f 53) (some (EWrite 12)) (cond (Nat.beq f 54) (some (EFlush 13)) none)))))
def tabCX (f : FuncId) : Option (FnE × List Value) := cond (Nat.beq f 29) (some (ENam 4, [pv1, pv2])) (cond (Nat.beq f 31) (some (EFil 10, [pvM])) none)
def orcC : Orc := orcOr (orcOr (orcFn tabC) (orcPlain 33 specRepeat)) (orcOr (orcX tabCX) (orcQ tabL))
theorem m1 : runTo Try.prog orcM 10000 16 (EMd 9) [.row, .row, .num, .num, .num] [1] hApp = some ([.ok (.var 2), .ok (.var 3), .ok (.var 4), .fn 50 (ESm 11) [.var 0, .var 1, .var 2, .var 3], .ok (.fn 11 [.var 0, .var 1, .var 2, .var 3] 2), .ok (.fn 11 [.var 0, .var 1, .var 2, .var 3] 3), Fact.fx 40 (ENm 5) [(pv1), (pv2), (pv3)] [.var 0, .var 1, .var 2, .var 3, .var 4], .is (.fn 5 [.var 0, .var 1, .var 2, .var 3, .var 4] 0) (.int .i64 1)], [.fn 11 [.var 0, .var 1, .var 2, .var 3] 0, .fn 11 [.var 0, .var 1, .var 2, .var 3] 1, .fn 11 [.var 0, .var 1, .var 2, .var 3] 2, .fn 11 [.var 0, .var 1, .var 2, .var 3] 3, .con (.bool false)]) := by kernel_rfl
theorem m2 : runTo Try.prog orcM 10000 16 (EMd 9) [.row, .row, .num, .num, .num] [2] hApp = some ([.ok (.var 2), .ok (.var 3), .ok (.var 4), .fn 50 (ESm 11) [.var 0, .var 1, .var 2, .var 3], .ok (.fn 11 [.var 0, .var 1, .var 2, .var 3] 2), .ok (.fn 11 [.var 0, .var 1, .var 2, .var 3] 3), Fact.fx 40 (ENm 5) [(pv1), (pv2), (pv3)] [.var 0, .var 1, .var 2, .var 3, .var 4], .is (.fn 5 [.var 0, .var 1, .var 2, .var 3, .var 4] 0) (.int .i64 2)], [.fn 11 [.var 0, .var 1, .var 2, .var 3] 0, .fn 11 [.var 0, .var 1, .var 2, .var 3] 1, .fn 11 [.var 0, .var 1, .var 2, .var 3] 2, .fn 11 [.var 0, .var 1, .var 2, .var 3] 3, .con (.bool false)]) := by kernel_rfl
theorem m3 : runTo Try.prog orcM 10000 16 (EMd 9) [.row, .row, .num, .num, .num] [3] hApp = some ([.ok (.var 2), .ok (.var 3), .ok (.var 4), .fn 50 (ESm 11) [.var 0, .var 1, .var 2, .var 3], .ok (.fn 11 [.var 0, .var 1, .var 2, .var 3] 2), .ok (.fn 11 [.var 0, .var 1, .var 2, .var 3] 3), Fact.fx 40 (ENm 5) [(pv1), (pv2), (pv3)] [.var 0, .var 1, .var 2, .var 3, .var 4], .is (.fn 5 [.var 0, .var 1, .var 2, .var 3, .var 4] 0) (.int .i64 3)], [.fn 11 [.var 0, .var 1, .var 2, .var 3] 0, .fn 11 [.var 0, .var 1, .var 2, .var 3] 1, .fn 11 [.var 0, .var 1, .var 2, .var 3] 2, .fn 11 [.var 0, .var 1, .var 2, .var 3] 3, .con (.bool false)]) := by kernel_rfl
def z1 : List SX := [.fn 5 [.var 0, .var 1, .var 2, .var 3, .var 4] 1, .fn 11 [.var 0, .var 1, .var 2, .var 3] 0, .fn 11 [.var 0, .var 1, .var 2, .var 3] 1, .fn 11 [.var 0, .var 1, .var 2, .var 3] 2, .fn 11 [.var 0, .var 1, .var 2, .var 3] 3]
theorem mc : runTo Try.prog orcM 10000 16 (EMd 9) [.row, .row, .num, .num, .num] [0, 1] hApp = some ([.ok (.var 2), .ok (.var 3), .ok (.var 4), .fn 50 (ESm 11) [.var 0, .var 1, .var 2, .var 3], .ok (.fn 11 [.var 0, .var 1, .var 2, .var 3] 2), .ok (.fn 11 [.var 0, .var 1, .var 2, .var 3] 3), Fact.fx 40 (ENm 5) [(pv1), (pv2), (pv3)] [.var 0, .var 1, .var 2, .var 3, .var 4], .is (.fn 5 [.var 0, .var 1, .var 2, .var 3, .var 4] 0) (.int .i64 0), Fact.fq 32 (ELay 6) [(pvY)] z1, .is (.fn 6 z1 0) (.int .i64 1), .ok (.fn 6 z1 3), .ok (.fn 6 z1 4)], [.fn 6 z1 1, .fn 6 z1 2, .fn 6 z1 3, .fn 6 z1 4, .con (.bool false)]) := by kernel_rfl
theorem my : runTo Try.prog orcM 10000 16 (EMd 9) [.row, .row, .num, .num, .num] [0, 0] hApp = some ([.ok (.var 2), .ok (.var 3), .ok (.var 4), .fn 50 (ESm 11) [.var 0, .var 1, .var 2, .var 3], .ok (.fn 11 [.var 0, .var 1, .var 2, .var 3] 2), .ok (.fn 11 [.var 0, .var 1, .var 2, .var 3] 3), Fact.fx 40 (ENm 5) [(pv1), (pv2), (pv3)] [.var 0, .var 1, .var 2, .var 3, .var 4], .is (.fn 5 [.var 0, .var 1, .var 2, .var 3, .var 4] 0) (.int .i64 0), Fact.fq 32 (ELay 6) [(pvY)] z1, .is (.fn 6 z1 0) (.int .i64 0), .ok (.fn 6 z1 3), .ok (.fn 6 z1 4)], [.fn 6 z1 1, .fn 6 z1 2, .fn 6 z1 3, .fn 6 z1 4, .con (.bool true)]) := by kernel_rfl
theorem ce : runTo Try.prog orcC 10000 11 (ECm 9) [.row, .row, .num, .num, .num, .row] [1] hApp = some ([.ok (.var 2), .ok (.var 3), .ok (.var 4), .fn 50 (ESm 11) [.var 0, .var 1, .var 2, .var 3], .ok (.fn 11 [.var 0, .var 1, .var 2, .var 3] 2), .ok (.fn 11 [.var 0, .var 1, .var 2, .var 3] 3), .ok (.len (.var 5)), .ok (.bin .eql (.len (.var 5)) (.con (.int .i64 0))), .is (.bin .eql (.len (.var 5)) (.con (.int .i64 0))) (.bool true)], [.fn 11 [.var 0, .var 1, .var 2, .var 3] 0, .fn 11 [.var 0, .var 1, .var 2, .var 3] 1, .fn 11 [.var 0, .var 1, .var 2, .var 3] 2, .fn 11 [.var 0, .var 1, .var 2, .var 3] 3, .con (.bool true)]) := by kernel_rfl
def z2 : List SX := [.var 0, .var 1, .var 2, .var 3, .var 4, .fn 7 [.var 5] 0]
def z3 : List SX := [.fn 11 [.var 0, .var 1, .var 2, .var 3] 0, .fn 11 [.var 0, .var 1, .var 2, .var 3] 1, .fn 11 [.var 0, .var 1, .var 2, .var 3] 2, .fn 11 [.var 0, .var 1, .var 2, .var 3] 3, .var 4, .con (.string { data := { toList := [UInt8.ofNat 0, UInt8.ofNat 0, UInt8.ofNat 0, UInt8.ofNat 0, UInt8.ofNat 0, UInt8.ofNat 0, UInt8.ofNat 0, UInt8.ofNat 0, UInt8.ofNat 0, UInt8.ofNat 0, UInt8.ofNat 0, UInt8.ofNat 0, UInt8.ofNat 0, UInt8.ofNat 0, UInt8.ofNat 0, UInt8.ofNat 0, UInt8.ofNat 0, UInt8.ofNat 0, UInt8.ofNat 0, UInt8.ofNat 0, UInt8.ofNat 0, UInt8.ofNat 0, UInt8.ofNat 0, UInt8.ofNat 0, UInt8.ofNat 0, UInt8.ofNat 0, UInt8.ofNat 0, UInt8.ofNat 0, UInt8.ofNat 0, UInt8.ofNat 0, UInt8.ofNat 0, UInt8.ofNat 0] } })]
theorem c1 : runTo Try.prog orcC 10000 11 (ECm 9) [.row, .row, .num, .num, .num, .row] [0, 0, 0, 0] hApp = some ([.ok (.var 2), .ok (.var 3), .ok (.var 4), .fn 50 (ESm 11) [.var 0, .var 1, .var 2, .var 3], .ok (.fn 11 [.var 0, .var 1, .var 2, .var 3] 2), .ok (.fn 11 [.var 0, .var 1, .var 2, .var 3] 3), .ok (.len (.var 5)), .ok (.bin .eql (.len (.var 5)) (.con (.int .i64 0))), .is (.bin .eql (.len (.var 5)) (.con (.int .i64 0))) (.bool false), .fn 30 (ESct 7) [.var 5], Fact.fx 29 (ENam 4) [(pv1), (pv2)] z2, .is (.fn 4 z2 0) (.int .i64 0), Fact.fx 31 (EFil 10) [(pvM)] [.var 5], .is (.fn 10 [.var 5] 0) (.int .i64 0), .fn 53 (EWrite 12) z3, .ok (.fn 12 z3 2), .ok (.fn 12 z3 3), .is (.fn 12 z3 4) (.bool false)], [.fn 12 z3 0, .fn 12 z3 1, .fn 12 z3 2, .fn 12 z3 3, .con (.bool false)]) := by kernel_rfl
def z4 : List SX := [.fn 12 z3 0, .fn 12 z3 1, .fn 12 z3 2, .fn 12 z3 3]
def z5 : List SX := [.fn 8 [.var 4, .var 5] 0, .fn 13 z4 0, .fn 13 z4 1, .fn 13 z4 2, .fn 13 z4 3]
theorem c2 : runTo Try.prog orcC 10000 11 (ECm 9) [.row, .row, .num, .num, .num, .row] [0, 0, 0, 1, 1, 1] hApp = some ([.ok (.var 2), .ok (.var 3), .ok (.var 4), .fn 50 (ESm 11) [.var 0, .var 1, .var 2, .var 3], .ok (.fn 11 [.var 0, .var 1, .var 2, .var 3] 2), .ok (.fn 11 [.var 0, .var 1, .var 2, .var 3] 3), .ok (.len (.var 5)), .ok (.bin .eql (.len (.var 5)) (.con (.int .i64 0))), .is (.bin .eql (.len (.var 5)) (.con (.int .i64 0))) (.bool false), .fn 30 (ESct 7) [.var 5], Fact.fx 29 (ENam 4) [(pv1), (pv2)] z2, .is (.fn 4 z2 0) (.int .i64 0), Fact.fx 31 (EFil 10) [(pvM)] [.var 5], .is (.fn 10 [.var 5] 0) (.int .i64 0), .fn 53 (EWrite 12) z3, .ok (.fn 12 z3 2), .ok (.fn 12 z3 3), .is (.fn 12 z3 4) (.bool true), .fn 54 (EFlush 13) z4, .ok (.fn 13 z4 2), .ok (.fn 13 z4 3), .is (.fn 13 z4 4) (.bool true), .fn 34 (ECp 8) [.var 4, .var 5], Fact.fq 32 (ELay 6) [(pvY)] z5, .is (.fn 6 z5 0) (.int .i64 1), .ok (.fn 6 z5 3), .ok (.fn 6 z5 4)], [.fn 6 z5 1, .fn 6 z5 2, .fn 6 z5 3, .fn 6 z5 4, .con (.bool false)]) := by kernel_rfl
def z6 : List SX := [.fn 7 [.var 5] 0]
def z7 : List SX := [.fn 6 z5 1, .fn 6 z5 2, .fn 6 z5 3, .fn 6 z5 4, .var 4, .fn 3 z6 0]
theorem c3 : runTo Try.prog orcC 10000 11 (ECm 9) [.row, .row, .num, .num, .num, .row] [0, 0, 0, 1, 1, 0, 0] hApp = some ([.ok (.var 2), .ok (.var 3), .ok (.var 4), .fn 50 (ESm 11) [.var 0, .var 1, .var 2, .var 3], .ok (.fn 11 [.var 0, .var 1, .var 2, .var 3] 2), .ok (.fn 11 [.var 0, .var 1, .var 2, .var 3] 3), .ok (.len (.var 5)), .ok (.bin .eql (.len (.var 5)) (.con (.int .i64 0))), .is (.bin .eql (.len (.var 5)) (.con (.int .i64 0))) (.bool false), .fn 30 (ESct 7) [.var 5], Fact.fx 29 (ENam 4) [(pv1), (pv2)] z2, .is (.fn 4 z2 0) (.int .i64 0), Fact.fx 31 (EFil 10) [(pvM)] [.var 5], .is (.fn 10 [.var 5] 0) (.int .i64 0), .fn 53 (EWrite 12) z3, .ok (.fn 12 z3 2), .ok (.fn 12 z3 3), .is (.fn 12 z3 4) (.bool true), .fn 54 (EFlush 13) z4, .ok (.fn 13 z4 2), .ok (.fn 13 z4 3), .is (.fn 13 z4 4) (.bool true), .fn 34 (ECp 8) [.var 4, .var 5], Fact.fq 32 (ELay 6) [(pvY)] z5, .is (.fn 6 z5 0) (.int .i64 0), .ok (.fn 6 z5 3), .ok (.fn 6 z5 4), .fn 30 (ESct 7) [.var 5], .fn 35 (EHd 3) z6, .ok (.fn 3 z6 0), .fn 53 (EWrite 12) z7, .ok (.fn 12 z7 2), .ok (.fn 12 z7 3), .is (.fn 12 z7 4) (.bool false)], [.fn 12 z7 0, .fn 12 z7 1, .fn 12 z7 2, .fn 12 z7 3, .con (.bool false)]) := by kernel_rfl
def z8 : List SX := [.fn 12 z7 0, .fn 12 z7 1, .fn 12 z7 2, .fn 12 z7 3]
def z9 : List SX := [.var 5, .fn 13 z8 0, .fn 13 z8 1, .fn 13 z8 2, .fn 13 z8 3]
theorem c4 : runTo Try.prog orcC 10000 11 (ECm 9) [.row, .row, .num, .num, .num, .row] [0, 0, 0, 1, 1, 0, 1, 1, 1] hApp = some ([.ok (.var 2), .ok (.var 3), .ok (.var 4), .fn 50 (ESm 11) [.var 0, .var 1, .var 2, .var 3], .ok (.fn 11 [.var 0, .var 1, .var 2, .var 3] 2), .ok (.fn 11 [.var 0, .var 1, .var 2, .var 3] 3), .ok (.len (.var 5)), .ok (.bin .eql (.len (.var 5)) (.con (.int .i64 0))), .is (.bin .eql (.len (.var 5)) (.con (.int .i64 0))) (.bool false), .fn 30 (ESct 7) [.var 5], Fact.fx 29 (ENam 4) [(pv1), (pv2)] z2, .is (.fn 4 z2 0) (.int .i64 0), Fact.fx 31 (EFil 10) [(pvM)] [.var 5], .is (.fn 10 [.var 5] 0) (.int .i64 0), .fn 53 (EWrite 12) z3, .ok (.fn 12 z3 2), .ok (.fn 12 z3 3), .is (.fn 12 z3 4) (.bool true), .fn 54 (EFlush 13) z4, .ok (.fn 13 z4 2), .ok (.fn 13 z4 3), .is (.fn 13 z4 4) (.bool true), .fn 34 (ECp 8) [.var 4, .var 5], Fact.fq 32 (ELay 6) [(pvY)] z5, .is (.fn 6 z5 0) (.int .i64 0), .ok (.fn 6 z5 3), .ok (.fn 6 z5 4), .fn 30 (ESct 7) [.var 5], .fn 35 (EHd 3) z6, .ok (.fn 3 z6 0), .fn 53 (EWrite 12) z7, .ok (.fn 12 z7 2), .ok (.fn 12 z7 3), .is (.fn 12 z7 4) (.bool true), .fn 54 (EFlush 13) z8, .ok (.fn 13 z8 2), .ok (.fn 13 z8 3), .is (.fn 13 z8 4) (.bool true), Fact.fq 32 (ELay 6) [(pvY)] z9, .is (.fn 6 z9 0) (.int .i64 1), .ok (.fn 6 z9 3), .ok (.fn 6 z9 4)], [.fn 6 z9 1, .fn 6 z9 2, .fn 6 z9 3, .fn 6 z9 4, .con (.bool false)]) := by kernel_rfl
theorem cy : runTo Try.prog orcC 10000 11 (ECm 9) [.row, .row, .num, .num, .num, .row] [0, 0, 0, 1, 1, 0, 1, 1, 0] hApp = some ([.ok (.var 2), .ok (.var 3), .ok (.var 4), .fn 50 (ESm 11) [.var 0, .var 1, .var 2, .var 3], .ok (.fn 11 [.var 0, .var 1, .var 2, .var 3] 2), .ok (.fn 11 [.var 0, .var 1, .var 2, .var 3] 3), .ok (.len (.var 5)), .ok (.bin .eql (.len (.var 5)) (.con (.int .i64 0))), .is (.bin .eql (.len (.var 5)) (.con (.int .i64 0))) (.bool false), .fn 30 (ESct 7) [.var 5], Fact.fx 29 (ENam 4) [(pv1), (pv2)] z2, .is (.fn 4 z2 0) (.int .i64 0), Fact.fx 31 (EFil 10) [(pvM)] [.var 5], .is (.fn 10 [.var 5] 0) (.int .i64 0), .fn 53 (EWrite 12) z3, .ok (.fn 12 z3 2), .ok (.fn 12 z3 3), .is (.fn 12 z3 4) (.bool true), .fn 54 (EFlush 13) z4, .ok (.fn 13 z4 2), .ok (.fn 13 z4 3), .is (.fn 13 z4 4) (.bool true), .fn 34 (ECp 8) [.var 4, .var 5], Fact.fq 32 (ELay 6) [(pvY)] z5, .is (.fn 6 z5 0) (.int .i64 0), .ok (.fn 6 z5 3), .ok (.fn 6 z5 4), .fn 30 (ESct 7) [.var 5], .fn 35 (EHd 3) z6, .ok (.fn 3 z6 0), .fn 53 (EWrite 12) z7, .ok (.fn 12 z7 2), .ok (.fn 12 z7 3), .is (.fn 12 z7 4) (.bool true), .fn 54 (EFlush 13) z8, .ok (.fn 13 z8 2), .ok (.fn 13 z8 3), .is (.fn 13 z8 4) (.bool true), Fact.fq 32 (ELay 6) [(pvY)] z9, .is (.fn 6 z9 0) (.int .i64 0), .ok (.fn 6 z9 3), .ok (.fn 6 z9 4)], [.fn 6 z9 1, .fn 6 z9 2, .fn 6 z9 3, .fn 6 z9 4, .con (.bool true)]) := by kernel_rfl

@[simp] theorem holds_fqA (B : Base) (f : FuncId) (E : PtrE) (pans : List Value) (es : List SX) : (Fact.fq f E pans es).holds B ↔ ToldQ f E pans (B.F E.k) ∧ ∃ ps qs, evs B.s B.F es = some ps ∧ B.F E.k ps = some qs := Iff.rfl
@[simp] theorem kLay (k : Nat) : (ELay k).k = k := rfl
@[simp] theorem kSct (k : Nat) : (ESct k).k = k := rfl
@[simp] theorem kFil (k : Nat) : (EFil k).k = k := rfl
@[simp] theorem kCp (k : Nat) : (ECp k).k = k := rfl
@[simp] theorem kHd (k : Nat) : (EHd k).k = k := rfl
noncomputable def FM : Fns := fun k => match k with | 3 => spec RHd | 4 => spec jnm.RNam | 5 => spec RNm | 6 => spec RLay | 7 => spec RSct | 8 => spec RCp | 10 => spec RFil | 11 => spec RSm | 12 => spec RWrite | 13 => spec RFlush | _ => fun _ => none
theorem orcM_ok : OrcOk Try.prog orcM := orcOr_ok (orcFn_ok tabS) (orcOr_ok (orcX_ok tabM) (orcQ_ok tabL))
theorem orcC_ok : OrcOk Try.prog orcC := orcOr_ok (orcOr_ok (orcFn_ok tabC) (orcPlain_ok specRepeat_ok)) (orcOr_ok (orcX_ok tabCX) (orcQ_ok tabL))
theorem F11 {L : List ByteArray} {a : Nat} (hc : jmt.Calm L) : FM 11 [pRow encS L, pRow encP [], pI (a : Int), pB false] = some [pRow encS L, pRow encP [], pI (a : Int), pB false] := spec_of fSm ⟨L, a, hc, rfl, rfl⟩
theorem F5 {L : List ByteArray} {a : Nat} (hc : jmt.Calm L) (ha : a ≤ 1000) : FM 5 [pRow encS L, pRow encP [], pI (a : Int), pB false, pI 8] = some (nmQ L) := spec_of fNm ⟨L, a, hc, ha, rfl, rfl⟩
theorem F6 {L : List ByteArray} {a : Nat} {l : List jmt.Pt} (hc : jmt.Calm L) (ha : a ≤ 1000) (hl : l.length ≤ 100) : FM 6 [pRow encP l, pRow encS L, pRow encP [], pI (a : Int), pB false] = some (layQ (dk L a) l) :=
  spec_of fLay ⟨l, dk L a, ok_dk hc ha, by simp; omega, rfl, rfl⟩

/-! Mended. -/
def RMd (ps qs : List PV) : Prop := ∃ (L : List ByteArray) (a : Nat), jmt.Calm L ∧ a ≤ 1000 ∧ ps = pD (dk L a) ++ [pI 8] ∧ qs = pD (mendD (dk L a) 8).1 ++ [pB (mendD (dk L a) 8).2]
theorem fMd : ∀ ps q1 q2, RMd ps q1 → RMd ps q2 → q1 = q2 := by
  rintro ps q1 q2 ⟨L, a, _, _, rfl, rfl⟩ ⟨L', a', _, _, h, rfl⟩
  obtain ⟨h1, _⟩ := pD_app h
  rw [h1]
theorem toldMd (hR : ∀ k, ToldF 84 (ERead k) (spec RRead)) (hW : ∀ k, ToldF 53 (EWrite k) (spec RWrite)) (hFl : ∀ k, ToldF 54 (EFlush k) (spec RFlush)) (k0 : Nat) : ToldF 16 (EMd k0) (spec RMd) := by
  have t11 : ToldF 50 (ESm 11) (FM 11) := toldSm 11
  have t5 : ToldX 40 (ENm 5) [pv1, pv2, pv3] (FM 5) := toldNm hR 5
  have t6 : ToldQ 32 (ELay 6) [pvY] (FM 6) := jly.toldLay hW hFl 6
  refine told_of eng.mixed_ok eng.names_ok FM [.row, .row, .num, .num, .num] ?_
  intro ps qs h _
  obtain ⟨L, a, hc, ha, rfl, rfl⟩ := of_spec h
  have f11 := F11 (a := a) hc
  have f5 := F5 hc ha
  simp only [pD, dk, List.cons_append, List.nil_append]
  generalize hs : (fun i : Nat => ([pRow encS L, pRow encP [], pI (a : Int), pB false, pI 8] : List PV)[i]?) = s
  have s0 : s 0 = some (pRow encS L) := by rw [← hs]; rfl
  have s1 : s 1 = some (pRow encP []) := by rw [← hs]; rfl
  have s2 : s 2 = some (pI (a : Int)) := by rw [← hs]; rfl
  have s3 : s 3 = some (pB false) := by rw [← hs]; rfl
  have s4 : s 4 = some (pI 8) := by rw [← hs]; rfl
  clear hs
  cases hn : named L 8 with
  | none =>
    obtain ⟨j, hj, he⟩ := nmQ_none hc hn
    rw [he] at f5
    have hm : mendD ⟨L, [], a, false⟩ 8 = (⟨L, [], a, false⟩, false) := by simp only [mendD, hn]
    rw [hm]
    simp only
    match j, hj with
    | 0, _ =>
      refine ⟨_, _, _, _, _, _, orcM_ok, m1, fun w FP => ?_, ?_⟩
      · simp only [List.mem_cons, List.not_mem_nil, or_false, forall_eq_or_imp, forall_eq]
        simp [holds_idxP, holds_cellsP, Base.ev, SX.ev, evs, Value.oneCell', s0, s1, s2, s3, s4, f11, f5, t11, t5]
      · simp [evs, SX.ev, s0, s1, s2, s3, s4, f11]
    | 1, _ =>
      refine ⟨_, _, _, _, _, _, orcM_ok, m2, fun w FP => ?_, ?_⟩
      · simp only [List.mem_cons, List.not_mem_nil, or_false, forall_eq_or_imp, forall_eq]
        simp [holds_idxP, holds_cellsP, Base.ev, SX.ev, evs, Value.oneCell', s0, s1, s2, s3, s4, f11, f5, t11, t5]
      · simp [evs, SX.ev, s0, s1, s2, s3, s4, f11]
    | 2, _ =>
      refine ⟨_, _, _, _, _, _, orcM_ok, m3, fun w FP => ?_, ?_⟩
      · simp only [List.mem_cons, List.not_mem_nil, or_false, forall_eq_or_imp, forall_eq]
        simp [holds_idxP, holds_cellsP, Base.ev, SX.ev, evs, Value.oneCell', s0, s1, s2, s3, s4, f11, f5, t11, t5]
      · simp [evs, SX.ev, s0, s1, s2, s3, s4, f11]
  | some l =>
    rw [nmQ_some hc hn] at f5
    obtain ⟨_, hl8⟩ := named_fit hc hn
    have f6 := F6 hc ha (l := l) (by omega)
    have hm : mendD ⟨L, [], a, false⟩ 8 = layD ⟨L, [], a, false⟩ l := by simp only [mendD, hn]
    rw [hm]
    have g1 : evs s FM z1 = some [pRow encP l, pRow encS L, pRow encP [], pI (a : Int), pB false] := by simp [z1, evs, SX.ev, s0, s1, s2, s3, s4, f11, f5]
    unfold layQ at f6
    cases hl : layD ⟨L, [], a, false⟩ l with
    | mk d2 b =>
      simp only [dk, hl] at f6
      obtain ⟨L2, W2, a2, dn2⟩ := d2
      cases b with
      | true =>
        simp only [if_true, pD] at f6
        refine ⟨_, _, _, _, _, _, orcM_ok, my, fun w FP => ?_, ?_⟩
        · simp only [List.mem_cons, List.not_mem_nil, or_false, forall_eq_or_imp, forall_eq]
          simp [holds_idxP, holds_cellsP, Base.ev, SX.ev, evs, Value.oneCell', s0, s1, s2, s3, s4, f11, f5, f6, g1, t11, t5, t6]
        · simp [evs, SX.ev, f6, g1]
      | false =>
        simp only [Bool.false_eq_true, if_false, pD] at f6
        refine ⟨_, _, _, _, _, _, orcM_ok, mc, fun w FP => ?_, ?_⟩
        · simp only [List.mem_cons, List.not_mem_nil, or_false, forall_eq_or_imp, forall_eq]
          simp [holds_idxP, holds_cellsP, Base.ev, SX.ev, evs, Value.oneCell', s0, s1, s2, s3, s4, f11, f5, f6, g1, t11, t5, t6]
        · simp [evs, SX.ev, f6, g1]

/-! Committed. -/
theorem fit_len {b : ByteArray} (hb : b.size = 32) : Fit 17 [(8, b)] := fun q hq => by simp at hq; subst hq; exact ⟨by show 8 < 17; omega, hb⟩
theorem one_lay {L : List ByteArray} {a : Nat} {b : ByteArray} (hc : jmt.Calm L) (h32 : b.size = 32) (ha0 : a ≤ 1000) (ha : a = 0 ∨ 1 < a) : ∃ w : D, writeD (dk L a) 8 b = (w, true) ∧ w.ok ∧ flush2 w = (dk (setAll L [(8, b)]) (a - 1), true) := by
  have hb := fit_len h32
  have hw : writeD (dk L a) ((8 : Nat) : Int) b = _ := write_live (d := dk L a) rfl (p := (8, b)) (by show 8 < L.length ∧ _; rw [hc.n]; exact ⟨by omega, h32⟩)
  have h1 : ¬ a = 1 := by omega
  have hl := dk_lay hc hb (a := a) (by simpa using ha)
  rw [show ((8 : Nat) : Int) = 8 from rfl] at hw
  replace hl : (if (writeD (dk L a) 8 b).2 = true then layD (writeD (dk L a) 8 b).1 [] else ((writeD (dk L a) 8 b).1, false)) = (dk (setAll L [(8, b)]) (a - 1), true) := hl
  rw [hw] at hl
  simp only [dk, h1, decide_false, Bool.not_false, if_true, layD] at hl
  refine ⟨⟨L, [(8, b)], a - 1, false⟩, by rw [hw]; simp only [dk, h1, decide_false, Bool.not_false, List.nil_append], ?_, ?_⟩
  · refine ⟨by show L.length ≤ 64; rw [hc.n]; omega, hc.len, fun p hp => ?_, by simp, by show a - 1 ≤ 1000; omega⟩
    have hp : p = (8, b) := by simpa using hp
    subst hp
    exact ⟨by show 8 < L.length; rw [hc.n]; omega, h32⟩
  · exact hl
theorem one_cut {L : List ByteArray} {b : ByteArray} (hc : jmt.Calm L) (h32 : b.size = 32) : writeD (dk L 1) 8 b = (⟨L, [(8, b)], 0, true⟩, false) := by
  have hw : writeD (dk L 1) ((8 : Nat) : Int) b = _ := write_live (d := dk L 1) rfl (p := (8, b)) (by show 8 < L.length ∧ _; rw [hc.n]; exact ⟨by omega, h32⟩)
  exact hw
theorem F12 {L : List ByteArray} {a : Nat} {b : ByteArray} {d' : D} {r : Bool} (hc : jmt.Calm L) (ha : a ≤ 1000) (h : writeD (dk L a) 8 b = (d', r)) : FM 12 [pRow encS L, pRow encP [], pI (a : Int), pB false, pI 8, pS b] = some [pRow encS d'.last, pRow encP d'.wait, pI (d'.arm : Int), pB d'.down, pB r] :=
  spec_of fWrite ⟨dk L a, 8, b, ok_dk hc ha, rfl, by rw [h]; rfl⟩
theorem F13 {d d' : D} {r : Bool} (ok : d.ok) (h : flush2 d = (d', r)) : FM 13 [pRow encS d.last, pRow encP d.wait, pI (d.arm : Int), pB d.down] = some [pRow encS d'.last, pRow encP d'.wait, pI (d'.arm : Int), pB d'.down, pB r] :=
  spec_of fFlush ⟨d, ok, rfl, by rw [h]; rfl⟩
def RCm (ps qs : List PV) : Prop := ∃ (L : List ByteArray) (a : Nat) (p : List jmt.Pt), jmt.Calm L ∧ a ≤ 1000 ∧ (p = [] ∨ Puts p) ∧ ps = pD (dk L a) ++ [pI 8, pRow encP p] ∧ qs = pD (commitD (dk L a) 8 p).1 ++ [pB (commitD (dk L a) 8 p).2]
theorem fCm : ∀ ps q1 q2, RCm ps q1 → RCm ps q2 → q1 = q2 := by
  rintro ps q1 q2 ⟨L, a, p, _, _, _, rfl, rfl⟩ ⟨L', a', p', _, _, _, h, rfl⟩
  obtain ⟨h1, h2⟩ := pD_app h
  simp only [List.cons.injEq, and_true, true_and] at h2
  rw [h1, symD.pRow_inj encP_inj h2]
theorem z3_eq : z3 = [.fn 11 [.var 0, .var 1, .var 2, .var 3] 0, .fn 11 [.var 0, .var 1, .var 2, .var 3] 1, .fn 11 [.var 0, .var 1, .var 2, .var 3] 2, .fn 11 [.var 0, .var 1, .var 2, .var 3] 3, .var 4, .con (.string noughts)] := by kernel_rfl
set_option maxHeartbeats 2000000 in
theorem toldCm (hW : ∀ k, ToldF 53 (EWrite k) (spec RWrite)) (hFl : ∀ k, ToldF 54 (EFlush k) (spec RFlush)) (k0 : Nat) : ToldF 11 (ECm k0) (spec RCm) := by
  have t11 : ToldF 50 (ESm 11) (FM 11) := toldSm 11
  have t3 : ToldF 35 (EHd 3) (FM 3) := toldHd 3
  have t4 : ToldX 29 (ENam 4) [pv1, pv2] (FM 4) := jnm.toldNam 4
  have t6 : ToldQ 32 (ELay 6) [pvY] (FM 6) := jly.toldLay hW hFl 6
  have t7 : ToldF 30 (ESct 7) (FM 7) := jsc.toldSct 7
  have t8 : ToldF 34 (ECp 8) (FM 8) := toldCp 8
  have t10 : ToldX 31 (EFil 10) [pvM] (FM 10) := jsc.toldFil 10
  have t12 : ToldF 53 (EWrite 12) (FM 12) := hW 12
  have t13 : ToldF 54 (EFlush 13) (FM 13) := hFl 13
  refine told_of eng.mixed_ok eng.names_ok FM [.row, .row, .num, .num, .num, .row] ?_
  intro ps qs h _
  obtain ⟨L, a, p, hc, ha, hp, rfl, rfl⟩ := of_spec h
  have f11 := F11 (a := a) hc
  simp only [pD, dk, List.cons_append, List.nil_append]
  generalize hs : (fun i : Nat => ([pRow encS L, pRow encP [], pI (a : Int), pB false, pI 8, pRow encP p] : List PV)[i]?) = s
  have s0 : s 0 = some (pRow encS L) := by rw [← hs]; rfl
  have s1 : s 1 = some (pRow encP []) := by rw [← hs]; rfl
  have s2 : s 2 = some (pI (a : Int)) := by rw [← hs]; rfl
  have s3 : s 3 = some (pB false) := by rw [← hs]; rfl
  have s4 : s 4 = some (pI 8) := by rw [← hs]; rfl
  have s5 : s 5 = some (pRow encP p) := by rw [← hs]; rfl
  clear hs
  rcases hp with rfl | hp
  · have hm : commitD ⟨L, [], a, false⟩ 8 [] = (⟨L, [], a, false⟩, true) := by simp only [commitD, if_true]
    rw [hm]
    refine ⟨_, _, _, _, _, _, orcC_ok, ce, fun w FP => ?_, ?_⟩
    · simp only [List.mem_cons, List.not_mem_nil, or_false, forall_eq_or_imp, forall_eq]
      simp [holds_idxP, holds_cellsP, Base.ev, SX.ev, evs, Value.oneCell', s0, s1, s2, s3, s4, s5, f11, t11, lenPV_row, binPV]
    · simp [evs, SX.ev, s0, s1, s2, s3, s4, f11]
  have h1 := hp.one
  have h8 := hp.few
  have hpn : p ≠ [] := fun e => by rw [e] at h1; simp at h1
  have hat : jsc.ats p = ints (ats p) := by simp [jsc.ats, ints, ats, Function.comp_def]
  have hil : (ints (ats p)).length = p.length := by simp
  have hnm := hp.name
  have hlt := hp.lt
  have f7 : FM 7 [pRow encP p] = some [pRow encI (ints (ats p))] := by rw [← hat]; exact spec_of fSct ⟨p, by omega, rfl, rfl⟩
  have f4 : FM 4 [pRow encS L, pRow encP [], pI (a : Int), pB false, pI 8, pRow encI (ints (ats p))] = some [pI 0] := by
    have e : jnm.nameQ L.length 8 (ints (ats p)) = [pI 0] := by
      have hr := hp.ris
      rw [jnm.nameQ, if_pos (by rw [hil, hc.n]; omega), if_pos (by exact hr)]
    rw [← e]
    exact spec_of jnm.fNam ⟨dk L a, 8, ints (ats p), ok_dk hc ha, by omega, by omega, rfl, rfl⟩
  have f10 : FM 10 [pRow encP p] = some [pI 0] := spec_of fFil ⟨p, by omega, rfl, by rw [if_pos]; exact List.all_eq_true.2 fun q hq => by simpa using hp.len q hq⟩
  have f8 : FM 8 [pI 8, pRow encP p] = some [pRow encP (copiesF 9 p)] := spec_of fCp ⟨8, p, by omega, h1, by omega, rfl, rfl⟩
  have f3 : FM 3 [pRow encI (ints (ats p))] = some [pS (headB (ats p))] := spec_of fHd ⟨ats p, by simp; omega, fun x hx => by
    obtain ⟨q, hq, rfl⟩ := List.mem_map.1 hx
    have := hlt q hq
    omega, rfl, rfl⟩
  obtain ⟨ra, hra⟩ : ∃ ra, pRow encI (ints (ats p)) = ra := ⟨_, rfl⟩
  obtain ⟨hb, hhb⟩ : ∃ hb, headB (ats p) = hb := ⟨_, rfl⟩
  rw [hra] at f7 f4 f3
  rw [hhb] at f3
  have g2 : evs s FM z2 = some [pRow encS L, pRow encP [], pI (a : Int), pB false, pI 8, ra] := by simp [z2, evs, SX.ev, s0, s1, s2, s3, s4, s5, f7]
  have g3 : evs s FM z3 = some [pRow encS L, pRow encP [], pI (a : Int), pB false, pI 8, pS noughts] := by rw [z3_eq]; simp [evs, SX.ev, s0, s1, s2, s3, s4, f11]
  have hne : ¬ (p.length : Int) = 0 := by omega
  have hcm : commitD ⟨L, [], a, false⟩ 8 p = seqD ⟨L, [], a, false⟩ [[(8, noughts)], copiesF 9 p, [(8, headB (ats p))], p] := commit_seq a hc hp
  rw [hcm]
  have hsh := head_size (a := ats p) (by simp; omega)
  have hcl := copies_len p 9
  by_cases c1 : a = 1
  · have hw : writeD (dk L a) 8 noughts = (⟨L, [(8, noughts)], 0, true⟩, false) := by rw [c1]; exact one_cut hc nought_size
    have f12 := F12 hc ha hw
    have hm : seqD ⟨L, [], a, false⟩ [[(8, noughts)], copiesF 9 p, [(8, headB (ats p))], p] = (⟨L, [(8, noughts)], 0, true⟩, false) := by
      have hq := dk_cut hc fit_n (a := 1) (by omega) (by simp)
      rw [c1, seqD, hq]; rfl
    rw [hm]
    refine ⟨_, _, _, _, _, _, orcC_ok, jco.c1, fun w FP => ?_, ?_⟩
    · simp only [List.mem_cons, List.not_mem_nil, or_false, forall_eq_or_imp, forall_eq]
      simp [holds_idxP, holds_cellsP, Base.ev, SX.ev, evs, Value.oneCell', s0, s1, s2, s3, s4, s5, f11, f7, f4, f10, f12, g2, g3, t11, t7, t4, t10, t12, lenPV_row, binPV, hne, hpn]
    · simp [evs, SX.ev, f12, g3]
  have q1 := go1 (L := L) hc (a := a) (by omega) [copiesF 9 p, [(8, headB (ats p))], p]
  rw [show seqD ⟨L, [], a, false⟩ _ = _ from q1]
  obtain ⟨⟨wl, ww, wa, wd⟩, hw, wok, hf⟩ := one_lay hc nought_size ha (by omega)
  have f12 := F12 hc ha hw
  have f13 := F13 wok hf
  have hc1 := calm1 hc
  have e1 : setAll L [(8, noughts)] = S1 L := rfl
  rw [e1] at f13
  obtain ⟨a1, ha1⟩ : ∃ a1, a - 1 = a1 := ⟨_, rfl⟩
  rw [ha1] at f13 ⊢
  simp only [dk] at f12 f13 ⊢
  have g4 : evs s FM z4 = some [pRow encS wl, pRow encP ww, pI (wa : Int), pB wd] := by simp [z4, evs, SX.ev, g3, f12]
  have g5 : evs s FM z5 = some [pRow encP (copiesF 9 p), pRow encS (S1 L), pRow encP [], pI (a1 : Int), pB false] := by simp [z5, evs, SX.ev, s4, s5, f8, g4, f13]
  have f6 := F6 hc1 (a := a1) (l := copiesF 9 p) (by omega) (by omega)
  unfold layQ at f6
  by_cases c2 : 1 ≤ a ∧ a ≤ 1 + p.length
  · have hq := dk_cut hc1 (fit_c hp) (a := a1) (by omega) (by omega)
    rw [hq] at f6
    have hm : seqD ⟨S1 L, [], a1, false⟩ [copiesF 9 p, [(8, headB (ats p))], p] = (⟨S1 L, (copiesF 9 p).take a1, 0, true⟩, false) := by
      simp only [dk] at hq
      rw [seqD, hq]; rfl
    rw [hm]
    simp only [Bool.false_eq_true, if_false, pD] at f6
    refine ⟨_, _, _, _, _, _, orcC_ok, jco.c2, fun w FP => ?_, ?_⟩
    · simp only [List.mem_cons, List.not_mem_nil, or_false, forall_eq_or_imp, forall_eq]
      simp [holds_idxP, holds_cellsP, Base.ev, SX.ev, evs, Value.oneCell', s0, s1, s2, s3, s4, s5, f11, f7, f4, f10, f12, f13, f8, f6, g2, g3, g4, g5, t11, t7, t4, t10, t12, t13, t8, t6, lenPV_row, binPV, hne, hpn]
    · simp [evs, SX.ev, f6, g5]
  have q2 := go2 hc hp (a := a1) (by omega) [[(8, headB (ats p))], p]
  simp only [dk] at q2
  rw [q2]
  have hc2 := calm2 hc hp
  have hl2 := dk_lay hc1 (fit_c hp) (a := a1) (by omega)
  rw [hl2, hcl] at f6
  obtain ⟨a2, ha2⟩ : ∃ a2, a1 - p.length = a2 := ⟨_, rfl⟩
  have e2 : setAll (S1 L) (copiesF 9 p) = S2 L p := rfl
  rw [ha2] at f6 ⊢
  rw [e2] at f6
  simp only [if_true, pD, dk] at f6
  have g6 : evs s FM z6 = some [ra] := by simp [z6, evs, SX.ev, s5, f7]
  have g7 : evs s FM z7 = some [pRow encS (S2 L p), pRow encP [], pI (a2 : Int), pB false, pI 8, pS hb] := by simp [z7, evs, SX.ev, s4, g5, f6, g6, f3]
  by_cases c3 : a = 2 + p.length
  · have e : a2 = 1 := by omega
    have hw2 : writeD (dk (S2 L p) a2) 8 (headB (ats p)) = (⟨S2 L p, [(8, headB (ats p))], 0, true⟩, false) := by rw [e]; exact one_cut hc2 hsh
    have f12b := F12 hc2 (by omega) hw2
    rw [hhb] at f12b
    have hm : seqD ⟨S2 L p, [], a2, false⟩ [[(8, headB (ats p))], p] = (⟨S2 L p, [(8, headB (ats p))], 0, true⟩, false) := by
      have hq := dk_cut hc2 (fit_h hp) (a := 1) (by omega) (by simp)
      rw [e, seqD, hq]; rfl
    rw [hm, hhb]
    refine ⟨_, _, _, _, _, _, orcC_ok, jco.c3, fun w FP => ?_, ?_⟩
    · simp only [List.mem_cons, List.not_mem_nil, or_false, forall_eq_or_imp, forall_eq]
      simp [holds_idxP, holds_cellsP, Base.ev, SX.ev, evs, Value.oneCell', s0, s1, s2, s3, s4, s5, f11, f7, f4, f10, f12, f13, f8, f6, f3, f12b, g2, g3, g4, g5, g6, g7, t11, t7, t4, t10, t12, t13, t8, t6, t3, lenPV_row, binPV, hne, hpn]
    · simp [evs, SX.ev, f12b, g7]
  have q3 := go3 hc hp (a := a2) (by omega) [p]
  simp only [dk] at q3
  rw [q3]
  obtain ⟨⟨xl, xw, xa, xd⟩, hw2, xok, hf2⟩ := one_lay hc2 hsh (a := a2) (by omega) (by omega)
  have f12b := F12 hc2 (by omega) hw2
  rw [hhb] at f12b
  have f13b := F13 xok hf2
  have e3 : setAll (S2 L p) [(8, headB (ats p))] = S3 L p := rfl
  rw [e3] at f13b
  obtain ⟨a3, ha3⟩ : ∃ a3, a2 - 1 = a3 := ⟨_, rfl⟩
  rw [ha3] at f13b ⊢
  simp only [dk] at f12b f13b ⊢
  have hc3 := calm3 hc hp
  have g8 : evs s FM z8 = some [pRow encS xl, pRow encP xw, pI (xa : Int), pB xd] := by simp [z8, evs, SX.ev, g7, f12b]
  have g9 : evs s FM z9 = some [pRow encP p, pRow encS (S3 L p), pRow encP [], pI (a3 : Int), pB false] := by simp [z9, evs, SX.ev, s5, g8, f13b]
  have f6b := F6 hc3 (a := a3) (l := p) (by omega) (by omega)
  unfold layQ at f6b
  cases hl : layD ⟨S3 L p, [], a3, false⟩ p with
  | mk d2 b =>
    simp only [dk, hl] at f6b
    obtain ⟨L2, W2, y2, dn2⟩ := d2
    cases b with
    | true =>
      simp only [if_true, pD] at f6b
      have hm : seqD ⟨S3 L p, [], a3, false⟩ [p] = (⟨L2, W2, y2, dn2⟩, true) := by
        rw [seqD, hl]; rfl
      rw [hm]
      refine ⟨_, _, _, _, _, _, orcC_ok, cy, fun w FP => ?_, ?_⟩
      · simp only [List.mem_cons, List.not_mem_nil, or_false, forall_eq_or_imp, forall_eq]
        simp [holds_idxP, holds_cellsP, Base.ev, SX.ev, evs, Value.oneCell', s0, s1, s2, s3, s4, s5, f11, f7, f4, f10, f12, f13, f8, f6, f3, f12b, f13b, f6b, g2, g3, g4, g5, g6, g7, g8, g9, t11, t7, t4, t10, t12, t13, t8, t6, t3, lenPV_row, binPV, hne, hpn]
      · simp [evs, SX.ev, f6b, g9]
    | false =>
      simp only [Bool.false_eq_true, if_false, pD] at f6b
      have hm : seqD ⟨S3 L p, [], a3, false⟩ [p] = (⟨L2, W2, y2, dn2⟩, false) := by
        rw [seqD, hl]; rfl
      rw [hm]
      refine ⟨_, _, _, _, _, _, orcC_ok, c4, fun w FP => ?_, ?_⟩
      · simp only [List.mem_cons, List.not_mem_nil, or_false, forall_eq_or_imp, forall_eq]
        simp [holds_idxP, holds_cellsP, Base.ev, SX.ev, evs, Value.oneCell', s0, s1, s2, s3, s4, s5, f11, f7, f4, f10, f12, f13, f8, f6, f3, f12b, f13b, f6b, g2, g3, g4, g5, g6, g7, g8, g9, t11, t7, t4, t10, t12, t13, t8, t6, t3, lenPV_row, binPV, hne, hpn]
      · simp [evs, SX.ev, f6b, g9]
end Go.Proofs.Ytegfdigljpnhcaa.jco
