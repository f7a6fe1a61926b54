/- What lasts, behind some: made out of numbers. -/
import Derived.Test.YtnelcjofgpplgaaStb
namespace Go.Proofs.Ytnelcjofgpplgaa.sta
open Go Go.RowKit eng SX Fact fil fileFronts dirs pck may
open fileFronts
open pck hiding F F20 F21
open dirs hiding shR shRl shRR flR lpR cutR f0 f1 f2 f3 m0 m1 m2
open may hiding m1 m2 m3 m4 r1 r2 r3 r4 r5
set_option linter.unusedVariables false
set_option linter.unusedSimpArgs false
set_option maxRecDepth 1000000

def ENm (k : Nat) : PtrE := { k := k, elem := 66, cells := 2, ins := [], outs := [none], kinds := [.num, .row, .num] }
def ESt (k : Nat) : PtrE := { k := k, elem := 66, cells := 2, ins := [none], outs := [some 3], kinds := [.row, .row, .num, .row, .num] }
def tabS (f : FuncId) : Option FnE := cond (Nat.beq f 15) (some (EOpen 31)) (cond (Nat.beq f 20) (some (EOpen 32)) (cond (Nat.beq f 17) (some (EFlush 33)) (cond (Nat.beq f 23) (some (EBoot 34)) (cond (Nat.beq f 28) (some (ENew 35)) none))))
def tabSP (f : FuncId) : Option PtrE := cond (Nat.beq f 29) (some (ENum 20)) (cond (Nat.beq f 13) (some (EWs 22)) (cond (Nat.beq f 12) (some (ENm 23)) none))
def orcS : Orc := orcOr (orcFn tabS) (orcP tabSP)
noncomputable def flT := flat (bodyOf Try.prog 11)
noncomputable def lpT := flat (loopBody (nth flT 3))
noncomputable def bdT := flat (blockBody (nth lpT 2))
def shTl : Shape := ⟨[(0, .ptr 0 0 0 0), (1, .leaf), (4, .ptr 1 0 0 0), (5, .ptr 2 0 0 0), (6, .leaf)], [pbox, zbox, sbox true], [none, none, some true, none, none, some true, some true, none], 82, 11⟩
def shTc : Shape := ⟨[(0, .ptr 0 0 0 0), (1, .leaf), (4, .ptr 1 0 0 0), (5, .ptr 2 0 0 0), (6, .leaf), (7, .leaf), (8, .leaf), (34, .leaf)], [pbox, zbox, sbox true], [none, none, none, none, none, some true, none, none, some true, some true, none], 82, 11⟩
@[simp] def zStc1 : List SX := [.var 8, .var 9, .var 10, .var 2, rop ROp.max2 [.var 3, .con (.int .i64 1)], .bin .add (.con (.int .i64 1)) (.fn 20 [.con (.int .i64 7), .var 5, .var 6] 0), .fn 22 [.con (.int .i64 5), .fn 20 [.con (.int .i64 7), .var 5, .var 6] 1, .fn 20 [.con (.int .i64 7), .var 5, .var 6] 2] 0]
@[simp] def zStc2 : List SX := [.var 8, .var 9, .var 10, .var 2, rop ROp.max2 [.var 3, .con (.int .i64 1)], .fn 23 [.var 5, .var 6] 0]
@[simp] def zStc3 : List SX := [.con (.int .i64 7), .var 5, .var 6]
@[simp] def zStc4 : List SX := [.var 8, .var 9, .var 10, .var 2, rop ROp.max2 [.var 3, .con (.int .i64 1)], .bin .add (.con (.int .i64 1)) (.fn 20 zStc3 0)]
@[simp] def zStc5 : List SX := [.con (.int .i64 5), .fn 20 zStc3 1, .fn 20 zStc3 2]
@[simp] def zStc6 : SX := .bin .eql (.var 4) (.con (.int .i64 0))
@[simp] def zStc7 : SX := .bin .eql (.var 4) (.con (.int .i64 1))
@[simp] def zStc8 : List SX := [.var 0, .var 1, .fn 23 [.var 5, .var 6] 1, .fn 23 [.var 5, .var 6] 2, .var 7, .fn 31 zStc2 0, .fn 31 zStc2 1, .fn 31 zStc2 2]
@[simp] def zStc9 : SX := .bin .eql (.var 4) (.con (.int .i64 2))
@[simp] def zStc10 : Fact := .ok (rop ROp.max2 [.var 3, .con (.int .i64 1)])
@[simp] def zStc11 : SX := .bin .eql (.var 4) (.con (.int .i64 3))
@[simp] def zStc12 : Fact := .ok (.fn 23 [.var 5, .var 6] 2)
@[simp] def zStc13 : SX := .bin .eql (.var 4) (.con (.int .i64 4))
@[simp] def zStc14 : List SX := [.var 0, .var 1, .fn 22 zStc5 1, .fn 22 zStc5 2, .var 7, .fn 33 zStc1 0, .fn 33 zStc1 1, .fn 33 zStc1 2]
@[simp] def zStc15 : Fact := .ok (.bin .add (.con (.int .i64 1)) (.fn 20 zStc3 0))
@[simp] def zStc16 : Fact := .ok (.fn 31 zStc2 2)
@[simp] def zStc17 : Fact := .is zStc6 (.bool false)
@[simp] def zStc18 : Fact := .fp 12 (ENm 23) [.var 5, .var 6]
@[simp] def zStc19 : Fact := .is zStc7 (.bool false)
@[simp] def zStc20 : Fact := .ok (.fn 23 [.var 5, .var 6] 0)
theorem c0 : segTo Try.prog orcS 10000 ((bdT.drop 3).take 1) shTc [1] shTl [(0, 0), (1, 0), (2, 0)] = some (.normal, [.ok zStc6, .is zStc6 (.bool true), zStc10, zStc18, zStc20, zStc12, .fn 15 (EOpen 31) zStc2, zStc16, .ok (.fn 31 zStc2 3), .ok (.fn 31 zStc2 4), .ok (.fn 31 zStc2 5), .ok (.fn 31 zStc2 6), .ok (.var 0), .ok (.var 1), zStc12, .ok (.var 7), zStc16], zStc8) := by kernel_rfl
theorem c1 : segTo Try.prog orcS 10000 ((bdT.drop 3).take 1) shTc [0, 1] shTl [(0, 0), (1, 0), (2, 0)] = some (.normal, [.ok zStc6, zStc17, .ok zStc7, .is zStc7 (.bool true), zStc10, zStc18, zStc20, zStc12, .fn 15 (EOpen 31) zStc2, zStc16, .ok (.fn 31 zStc2 3), .ok (.fn 31 zStc2 4), .ok (.fn 31 zStc2 5), .ok (.fn 31 zStc2 6), .ok (.var 0), .ok (.var 1), zStc12, .ok (.var 7), zStc16], zStc8) := by kernel_rfl
theorem c2 : segTo Try.prog orcS 10000 ((bdT.drop 3).take 1) shTc [0, 0, 1] shTl [(0, 0), (1, 0), (2, 0)] = some (.normal, [.ok zStc6, zStc17, .ok zStc7, zStc19, .ok zStc9, .is zStc9 (.bool true), zStc10, zStc18, zStc20, zStc12, .fn 15 (EOpen 31) zStc2, zStc16, .ok (.fn 31 zStc2 3), .ok (.fn 31 zStc2 4), .ok (.fn 31 zStc2 5), .ok (.fn 31 zStc2 6), .ok (.var 0), .ok (.var 1), zStc12, .ok (.var 7), zStc16], zStc8) := by kernel_rfl
theorem c3 : segTo Try.prog orcS 10000 ((bdT.drop 3).take 1) shTc [0, 0, 0, 1] shTl [(0, 0), (1, 0), (2, 0)] = some (.normal, [.ok zStc6, zStc17, .ok zStc7, zStc19, .ok zStc9, .is zStc9 (.bool false), .ok zStc11, .is zStc11 (.bool true), zStc10, .fp 29 (ENum 20) zStc3, .ok (.fn 20 zStc3 0), .ok (.fn 20 zStc3 2), zStc15, .fp 13 (EWs 22) zStc5, .ok (.fn 22 zStc5 2), .fn 17 (EFlush 33) zStc1, .ok (.fn 33 zStc1 2), .ok (.fn 33 zStc1 3), .ok (.fn 33 zStc1 4), .ok (.fn 33 zStc1 5), .ok (.fn 33 zStc1 6), .ok (.var 0), .ok (.var 1), .ok (.fn 22 zStc5 2), .ok (.var 7), .ok (.fn 33 zStc1 2)], zStc14) := by kernel_rfl
theorem c4 : segTo Try.prog orcS 10000 ((bdT.drop 3).take 1) shTc [0, 0, 0, 0, 1] shTl [(0, 0), (1, 0), (2, 0)] = some (.normal, [.ok zStc6, zStc17, .ok zStc7, zStc19, .ok zStc9, .is zStc9 (.bool false), .ok zStc11, .is zStc11 (.bool false), .ok zStc13, .is zStc13 (.bool true), zStc10, .fp 29 (ENum 20) zStc3, .ok (.fn 20 zStc3 0), .ok (.fn 20 zStc3 2), zStc15, .fp 13 (EWs 22) zStc5, .ok (.fn 22 zStc5 2), .fn 17 (EFlush 33) zStc1, .ok (.fn 33 zStc1 2), .ok (.fn 33 zStc1 3), .ok (.fn 33 zStc1 4), .ok (.fn 33 zStc1 5), .ok (.fn 33 zStc1 6), .ok (.var 0), .ok (.var 1), .ok (.fn 22 zStc5 2), .ok (.var 7), .ok (.fn 33 zStc1 2)], zStc14) := by kernel_rfl
theorem c5 : segTo Try.prog orcS 10000 ((bdT.drop 3).take 1) shTc [0, 0, 0, 0, 0] shTl [(0, 0), (1, 0), (2, 0)] = some (.normal, [.ok zStc6, zStc17, .ok zStc7, zStc19, .ok zStc9, .is zStc9 (.bool false), .ok zStc11, .is zStc11 (.bool false), .ok zStc13, .is zStc13 (.bool false), zStc10, .fp 29 (ENum 20) zStc3, .ok (.fn 20 zStc3 0), .ok (.fn 20 zStc3 2), zStc15, .fn 20 (EOpen 32) zStc4, .ok (.fn 32 zStc4 2), .ok (.fn 32 zStc4 3), .ok (.fn 32 zStc4 4), .ok (.fn 32 zStc4 5), .ok (.fn 32 zStc4 6), .ok (.var 0), .ok (.var 1), .ok (.fn 20 zStc3 2), .ok (.var 7), .ok (.fn 32 zStc4 2)], [.var 0, .var 1, .fn 20 zStc3 1, .fn 20 zStc3 2, .var 7, .fn 32 zStc4 0, .fn 32 zStc4 1, .fn 32 zStc4 2]) := by kernel_rfl

@[simp] theorem kNm (k : Nat) : (ENm k).k = k := rfl
@[simp] theorem kSt (k : Nat) : (ESt k).k = k := rfl

structure TsOk (s : StM) (b : Int) : Prop where
  fl : s.files.length = 6
  ml : s.marks.length = 3
  fv : ∀ f ∈ s.files, 0 ≤ f.2.1 ∧ f.2.1 ≤ 1073741824 ∧ f.2.2.size ≤ 24
  mv : ∀ m ∈ s.marks, 0 ≤ m.1 ∧ m.1 ≤ b
  ep : 0 ≤ s.epoch ∧ s.epoch ≤ 1073741824
theorem TsOk.st {s : StM} {b : Int} (h : TsOk s b) : StOk s := ⟨by rw [h.fl]; omega, by rw [h.ml]; omega, fun f hf => by have := h.fv f hf; omega, by have := h.ep; omega⟩
end Go.Proofs.Ytnelcjofgpplgaa.sta
