/- JrnlWhole by the symbolic engine. -/
import Derived.Test.YtegfdigljpnhcaaJlc
namespace Go.Proofs.Ytegfdigljpnhcaa.jrnlWhole
open Go Go.RowKit eng SX Fact dsk jlb jlc
open jhd
open jcm (dkbox)
open jco (EMd ECm)
open jmt hiding Pt Calm
open fil
open rdk hiding dbox
open symD hiding pRow_inj
set_option linter.unusedVariables false
set_option linter.unusedSimpArgs false
set_option maxRecDepth 1000000

noncomputable def flW := flat (bodyOf Try.prog 3)
noncomputable def lpW := flat (loopBody (nth flW 14))
def n8 : List (Option Bool) := List.replicate 8 none
def hW (f : FuncId) (o : Oper) : Option Hint := cond (isApp o.op) (some .own) (match o.op with | .binOp .. => none | .unOp .. => none | _ => some .lazy)
def sbox (k : Nat) : BoxT := ⟨9, 1, true, [], some k, false⟩
def shW : Shape := ⟨[(0, .agg 8), (1, .agg 8), (2, .leaf), (3, .leaf), (4, .leaf), (5, .leaf)], [], n8 ++ n8 ++ [none, none, some false, some false], 146, 3⟩
def shWl : Shape := ⟨[(2, .leaf), (3, .leaf), (4, .leaf), (5, .leaf), (13, .ptr 0 0 0 0), (15, .own 1 10 1), (16, .own 2 11 1), (20, .leaf), (21, .leaf)], [dkbox, sbox 10, sbox 11], [none, none, some false, some false, some true, none, some true, some true, none, none], 146, 3⟩
def shWR : Shape := ⟨[(12, .leaf)], [], [none], 146, 3⟩
def shE : Shape := ⟨[], [], [], 146, 3⟩
theorem q1 : segTo Try.prog (orcFn tabT) 10000 flW shW [1, 1] shWR [] = some (.ret, [.fn 10 (ETrue 5) [], .is (.fn 5 [] 0) (.bool true), .ok (.len (.var 18)), .ok (.bin .gtr (.len (.var 18)) (.con (.int .i64 20))), .is (.bin .gtr (.len (.var 18)) (.con (.int .i64 20))) (.bool true), .ok (.con (.bool true))], [.con (.bool true)]) := by kernel_rfl
theorem q2 : segTo Try.prog (orcFn tabT) 10000 flW shW [1, 0, 1] shWR [] = some (.ret, [.fn 10 (ETrue 5) [], .is (.fn 5 [] 0) (.bool true), .ok (.len (.var 18)), .ok (.bin .gtr (.len (.var 18)) (.con (.int .i64 20))), .is (.bin .gtr (.len (.var 18)) (.con (.int .i64 20))) (.bool false), .ok (.len (.var 19)), .ok (.bin .gtr (.len (.var 19)) (.con (.int .i64 20))), .is (.bin .gtr (.len (.var 19)) (.con (.int .i64 20))) (.bool true), .ok (.con (.bool true))], [.con (.bool true)]) := by kernel_rfl
def z1 : List SX := [.fn 1 [.con (.int .i64 17)] 0, .fn 1 [.con (.int .i64 17)] 1, .fn 1 [.con (.int .i64 17)] 2, .fn 1 [.con (.int .i64 17)] 3, .con (.int .i64 8), .fn 6 [.lit 8 [.var 0, .var 1, .var 2, .var 3, .var 4, .var 5, .var 6, .var 7], .con (.int .i64 8)] 0]
def z2 : List SX := [.fn 7 z1 0, .fn 7 z1 1, .fn 7 z1 2, .fn 7 z1 3, .con (.int .i64 0)]
def z3 : List SX := [.fn 7 z1 0, .fn 7 z1 1, .fn 7 z1 2, .fn 7 z1 3, .con (.int .i64 1)]
def z4 : List SX := [.fn 7 z1 0, .fn 7 z1 1, .fn 7 z1 2, .fn 7 z1 3, .con (.int .i64 2)]
def z5 : List SX := [.fn 7 z1 0, .fn 7 z1 1, .fn 7 z1 2, .fn 7 z1 3, .con (.int .i64 3)]
def z6 : List SX := [.fn 7 z1 0, .fn 7 z1 1, .fn 7 z1 2, .fn 7 z1 3, .con (.int .i64 4)]
def z7 : List SX := [.fn 7 z1 0, .fn 7 z1 1, .fn 7 z1 2, .fn 7 z1 3, .con (.int .i64 5)]
def z8 : List SX := [.fn 7 z1 0, .fn 7 z1 1, .fn 7 z1 2, .fn 7 z1 3, .con (.int .i64 6)]
def z9 : List SX := [.fn 7 z1 0, .fn 7 z1 1, .fn 7 z1 2, .fn 7 z1 3, .con (.int .i64 7)]
theorem pre : segTo Try.prog (orcFn tabT) 100000 (flW.take 14) shW [1, 0, 0, 1, 1, 1, 1, 1, 1, 1, 1, 1, 1] shWl [(9, 0), (11, 7), (19, 0)] hW = some (.normal, [.fn 10 (ETrue 5) [], .is (.fn 5 [] 0) (.bool true), .ok (.len (.var 18)), .ok (.bin .gtr (.len (.var 18)) (.con (.int .i64 20))), .is (.bin .gtr (.len (.var 18)) (.con (.int .i64 20))) (.bool false), .ok (.len (.var 19)), .ok (.bin .gtr (.len (.var 19)) (.con (.int .i64 20))), .is (.bin .gtr (.len (.var 19)) (.con (.int .i64 20))) (.bool false), .fn 12 (ENew 1) [.con (.int .i64 17)], .ok (.fn 1 [.con (.int .i64 17)] 2), .ok (.fn 1 [.con (.int .i64 17)] 3), .fn 13 (EPt 6) [.lit 8 [.var 0, .var 1, .var 2, .var 3, .var 4, .var 5, .var 6, .var 7], .con (.int .i64 8)], .fn 11 (ECm 7) z1, .ok (.fn 7 z1 2), .ok (.fn 7 z1 3), .is (.fn 7 z1 4) (.bool true), .fn 14 (ERead 2) z2, .ok (.fn 2 z2 0), .is (.fn 2 z2 1) (.bool true), rng (.con (.int .i64 0)) (.len (.lit 1 [.fn 2 z2 0])), upto (.len (.lit 1 [.fn 2 z2 0])) 4294967296, .fn 14 (ERead 2) z3, .ok (.fn 2 z3 0), .is (.fn 2 z3 1) (.bool true), same (.len (.lit 1 [.fn 2 z2 0])) (.len (.lit 1 [.fn 2 z2 0])), upto (.len (rop ROp.cat [.lit 1 [.fn 2 z2 0], .lit 1 [.fn 2 z3 0]])) 4294967296, .fn 14 (ERead 2) z4, .ok (.fn 2 z4 0), .is (.fn 2 z4 1) (.bool true), same (.len (rop ROp.cat [.lit 1 [.fn 2 z2 0], .lit 1 [.fn 2 z3 0]])) (.len (rop ROp.cat [.lit 1 [.fn 2 z2 0], .lit 1 [.fn 2 z3 0]])), upto (.len (rop ROp.cat [rop ROp.cat [.lit 1 [.fn 2 z2 0], .lit 1 [.fn 2 z3 0]], .lit 1 [.fn 2 z4 0]])) 4294967296, .fn 14 (ERead 2) z5, .ok (.fn 2 z5 0), .is (.fn 2 z5 1) (.bool true), same (.len (rop ROp.cat [rop ROp.cat [.lit 1 [.fn 2 z2 0], .lit 1 [.fn 2 z3 0]], .lit 1 [.fn 2 z4 0]])) (.len (rop ROp.cat [rop ROp.cat [.lit 1 [.fn 2 z2 0], .lit 1 [.fn 2 z3 0]], .lit 1 [.fn 2 z4 0]])), upto (.len (rop ROp.cat [rop ROp.cat [rop ROp.cat [.lit 1 [.fn 2 z2 0], .lit 1 [.fn 2 z3 0]], .lit 1 [.fn 2 z4 0]], .lit 1 [.fn 2 z5 0]])) 4294967296, .fn 14 (ERead 2) z6, .ok (.fn 2 z6 0), .is (.fn 2 z6 1) (.bool true), same (.len (rop ROp.cat [rop ROp.cat [rop ROp.cat [.lit 1 [.fn 2 z2 0], .lit 1 [.fn 2 z3 0]], .lit 1 [.fn 2 z4 0]], .lit 1 [.fn 2 z5 0]])) (.len (rop ROp.cat [rop ROp.cat [rop ROp.cat [.lit 1 [.fn 2 z2 0], .lit 1 [.fn 2 z3 0]], .lit 1 [.fn 2 z4 0]], .lit 1 [.fn 2 z5 0]])), upto (.len (rop ROp.cat [rop ROp.cat [rop ROp.cat [rop ROp.cat [.lit 1 [.fn 2 z2 0], .lit 1 [.fn 2 z3 0]], .lit 1 [.fn 2 z4 0]], .lit 1 [.fn 2 z5 0]], .lit 1 [.fn 2 z6 0]])) 4294967296, .fn 14 (ERead 2) z7, .ok (.fn 2 z7 0), .is (.fn 2 z7 1) (.bool true), same (.len (rop ROp.cat [rop ROp.cat [rop ROp.cat [rop ROp.cat [.lit 1 [.fn 2 z2 0], .lit 1 [.fn 2 z3 0]], .lit 1 [.fn 2 z4 0]], .lit 1 [.fn 2 z5 0]], .lit 1 [.fn 2 z6 0]])) (.len (rop ROp.cat [rop ROp.cat [rop ROp.cat [rop ROp.cat [.lit 1 [.fn 2 z2 0], .lit 1 [.fn 2 z3 0]], .lit 1 [.fn 2 z4 0]], .lit 1 [.fn 2 z5 0]], .lit 1 [.fn 2 z6 0]])), upto (.len (rop ROp.cat [rop ROp.cat [rop ROp.cat [rop ROp.cat [rop ROp.cat [.lit 1 [.fn 2 z2 0], .lit 1 [.fn 2 z3 0]], .lit 1 [.fn 2 z4 0]], .lit 1 [.fn 2 z5 0]], .lit 1 [.fn 2 z6 0]], .lit 1 [.fn 2 z7 0]])) 4294967296, .fn 14 (ERead 2) z8, .ok (.fn 2 z8 0), .is (.fn 2 z8 1) (.bool true), same (.len (rop ROp.cat [rop ROp.cat [rop ROp.cat [rop ROp.cat [rop ROp.cat [.lit 1 [.fn 2 z2 0], .lit 1 [.fn 2 z3 0]], .lit 1 [.fn 2 z4 0]], .lit 1 [.fn 2 z5 0]], .lit 1 [.fn 2 z6 0]], .lit 1 [.fn 2 z7 0]])) (.len (rop ROp.cat [rop ROp.cat [rop ROp.cat [rop ROp.cat [rop ROp.cat [.lit 1 [.fn 2 z2 0], .lit 1 [.fn 2 z3 0]], .lit 1 [.fn 2 z4 0]], .lit 1 [.fn 2 z5 0]], .lit 1 [.fn 2 z6 0]], .lit 1 [.fn 2 z7 0]])), upto (.len (rop ROp.cat [rop ROp.cat [rop ROp.cat [rop ROp.cat [rop ROp.cat [rop ROp.cat [.lit 1 [.fn 2 z2 0], .lit 1 [.fn 2 z3 0]], .lit 1 [.fn 2 z4 0]], .lit 1 [.fn 2 z5 0]], .lit 1 [.fn 2 z6 0]], .lit 1 [.fn 2 z7 0]], .lit 1 [.fn 2 z8 0]])) 4294967296, .fn 14 (ERead 2) z9, .ok (.fn 2 z9 0), .is (.fn 2 z9 1) (.bool true), same (.len (rop ROp.cat [rop ROp.cat [rop ROp.cat [rop ROp.cat [rop ROp.cat [rop ROp.cat [.lit 1 [.fn 2 z2 0], .lit 1 [.fn 2 z3 0]], .lit 1 [.fn 2 z4 0]], .lit 1 [.fn 2 z5 0]], .lit 1 [.fn 2 z6 0]], .lit 1 [.fn 2 z7 0]], .lit 1 [.fn 2 z8 0]])) (.len (rop ROp.cat [rop ROp.cat [rop ROp.cat [rop ROp.cat [rop ROp.cat [rop ROp.cat [.lit 1 [.fn 2 z2 0], .lit 1 [.fn 2 z3 0]], .lit 1 [.fn 2 z4 0]], .lit 1 [.fn 2 z5 0]], .lit 1 [.fn 2 z6 0]], .lit 1 [.fn 2 z7 0]], .lit 1 [.fn 2 z8 0]])), upto (.len (rop ROp.cat [rop ROp.cat [rop ROp.cat [rop ROp.cat [rop ROp.cat [rop ROp.cat [rop ROp.cat [.lit 1 [.fn 2 z2 0], .lit 1 [.fn 2 z3 0]], .lit 1 [.fn 2 z4 0]], .lit 1 [.fn 2 z5 0]], .lit 1 [.fn 2 z6 0]], .lit 1 [.fn 2 z7 0]], .lit 1 [.fn 2 z8 0]], .lit 1 [.fn 2 z9 0]])) 4294967296, same (.len (rop ROp.cat [rop ROp.cat [rop ROp.cat [rop ROp.cat [rop ROp.cat [rop ROp.cat [rop ROp.cat [.lit 1 [.fn 2 z2 0], .lit 1 [.fn 2 z3 0]], .lit 1 [.fn 2 z4 0]], .lit 1 [.fn 2 z5 0]], .lit 1 [.fn 2 z6 0]], .lit 1 [.fn 2 z7 0]], .lit 1 [.fn 2 z8 0]], .lit 1 [.fn 2 z9 0]])) (.len (rop ROp.cat [rop ROp.cat [rop ROp.cat [rop ROp.cat [rop ROp.cat [rop ROp.cat [rop ROp.cat [.lit 1 [.fn 2 z2 0], .lit 1 [.fn 2 z3 0]], .lit 1 [.fn 2 z4 0]], .lit 1 [.fn 2 z5 0]], .lit 1 [.fn 2 z6 0]], .lit 1 [.fn 2 z7 0]], .lit 1 [.fn 2 z8 0]], .lit 1 [.fn 2 z9 0]])), rng (.con (.int .i64 0)) (.len (rop ROp.cat [rop ROp.cat [rop ROp.cat [rop ROp.cat [rop ROp.cat [rop ROp.cat [rop ROp.cat [.lit 1 [.fn 2 z2 0], .lit 1 [.fn 2 z3 0]], .lit 1 [.fn 2 z4 0]], .lit 1 [.fn 2 z5 0]], .lit 1 [.fn 2 z6 0]], .lit 1 [.fn 2 z7 0]], .lit 1 [.fn 2 z8 0]], .lit 1 [.fn 2 z9 0]])), upto (.len (rop ROp.cat [rop ROp.cat [rop ROp.cat [rop ROp.cat [rop ROp.cat [rop ROp.cat [rop ROp.cat [.lit 1 [.fn 2 z2 0], .lit 1 [.fn 2 z3 0]], .lit 1 [.fn 2 z4 0]], .lit 1 [.fn 2 z5 0]], .lit 1 [.fn 2 z6 0]], .lit 1 [.fn 2 z7 0]], .lit 1 [.fn 2 z8 0]], .lit 1 [.fn 2 z9 0]])) 4294967296, .fn 13 (EPt 6) [.lit 8 [.var 8, .var 9, .var 10, .var 11, .var 12, .var 13, .var 14, .var 15], .con (.int .i64 8)], .ok (.var 16), .ok (.var 17), .ok (.con (.int .i64 0)), .ok (.fn 7 z1 2), .ok (.fn 7 z1 3), same (.len (rop ROp.cat [rop ROp.cat [rop ROp.cat [rop ROp.cat [rop ROp.cat [rop ROp.cat [rop ROp.cat [.lit 1 [.fn 2 z2 0], .lit 1 [.fn 2 z3 0]], .lit 1 [.fn 2 z4 0]], .lit 1 [.fn 2 z5 0]], .lit 1 [.fn 2 z6 0]], .lit 1 [.fn 2 z7 0]], .lit 1 [.fn 2 z8 0]], .lit 1 [.fn 2 z9 0]])) (.len (rop ROp.cat [rop ROp.cat [rop ROp.cat [rop ROp.cat [rop ROp.cat [rop ROp.cat [rop ROp.cat [.lit 1 [.fn 2 z2 0], .lit 1 [.fn 2 z3 0]], .lit 1 [.fn 2 z4 0]], .lit 1 [.fn 2 z5 0]], .lit 1 [.fn 2 z6 0]], .lit 1 [.fn 2 z7 0]], .lit 1 [.fn 2 z8 0]], .lit 1 [.fn 2 z9 0]])), same (.len (rop ROp.cat [rop ROp.cat [rop ROp.cat [rop ROp.cat [rop ROp.cat [rop ROp.cat [rop ROp.cat [.lit 1 [.fn 2 z2 0], .lit 1 [.fn 2 z3 0]], .lit 1 [.fn 2 z4 0]], .lit 1 [.fn 2 z5 0]], .lit 1 [.fn 2 z6 0]], .lit 1 [.fn 2 z7 0]], .lit 1 [.fn 2 z8 0]], .lit 1 [.fn 2 z9 0]])) (.len (rop ROp.cat [rop ROp.cat [rop ROp.cat [rop ROp.cat [rop ROp.cat [rop ROp.cat [rop ROp.cat [.lit 1 [.fn 2 z2 0], .lit 1 [.fn 2 z3 0]], .lit 1 [.fn 2 z4 0]], .lit 1 [.fn 2 z5 0]], .lit 1 [.fn 2 z6 0]], .lit 1 [.fn 2 z7 0]], .lit 1 [.fn 2 z8 0]], .lit 1 [.fn 2 z9 0]]))], [.var 16, .var 17, .var 18, .var 19, .fn 6 [.lit 8 [.var 8, .var 9, .var 10, .var 11, .var 12, .var 13, .var 14, .var 15], .con (.int .i64 8)] 0, .con (.int .i64 0), .fn 7 z1 0, .fn 7 z1 1, .fn 7 z1 2, .fn 7 z1 3, rop ROp.cat [rop ROp.cat [rop ROp.cat [rop ROp.cat [rop ROp.cat [rop ROp.cat [rop ROp.cat [.lit 1 [.fn 2 z2 0], .lit 1 [.fn 2 z3 0]], .lit 1 [.fn 2 z4 0]], .lit 1 [.fn 2 z5 0]], .lit 1 [.fn 2 z6 0]], .lit 1 [.fn 2 z7 0]], .lit 1 [.fn 2 z8 0]], .lit 1 [.fn 2 z9 0]], rop ROp.cat [rop ROp.cat [rop ROp.cat [rop ROp.cat [rop ROp.cat [rop ROp.cat [rop ROp.cat [.lit 1 [.fn 2 z2 0], .lit 1 [.fn 2 z3 0]], .lit 1 [.fn 2 z4 0]], .lit 1 [.fn 2 z5 0]], .lit 1 [.fn 2 z6 0]], .lit 1 [.fn 2 z7 0]], .lit 1 [.fn 2 z8 0]], .lit 1 [.fn 2 z9 0]]]) := by kernel_rfl
theorem on : segTo Try.prog (orcFn tabT) 100000 lpW shWl [1] shWl [(0, 0), (1, 0), (2, 0)] hW = some (.normal, [.ok (.len (.var 4)), .ok (.bin .lss (.var 5) (.len (.var 4))), .is (.bin .lss (.var 5) (.len (.var 4))) (.bool true), .idx (.var 4) (.var 5) 2 2, .idx (.var 4) (.var 5) 2 1, .ok (.cell (.var 4) (.var 5) 2 0), .idx (.var 4) (.var 5) 2 2, .idx (.var 4) (.var 5) 2 2, .ok (.cell (.var 4) (.var 5) 2 1), rng (.cell (.var 4) (.var 5) 2 0) (.len (.var 11)), .idx (.var 11) (.cell (.var 4) (.var 5) 2 0) 1 1, .ok (.bin .add (.var 5) (.con (.int .i64 1))), .ok (.var 0), .ok (.var 1), .ok (.bin .add (.var 5) (.con (.int .i64 1))), .ok (.var 8), .ok (.var 9), same (.len (.var 10)) (.len (.var 10)), same (.len (.var 11)) (.len (rop (ROp.upd 1 0) [.var 11, .cell (.var 4) (.var 5) 2 0, .cell (.var 4) (.var 5) 2 1]))], [.var 0, .var 1, .var 2, .var 3, .var 4, .bin .add (.var 5) (.con (.int .i64 1)), .var 6, .var 7, .var 8, .var 9, .var 10, rop (ROp.upd 1 0) [.var 11, .cell (.var 4) (.var 5) 2 0, .cell (.var 4) (.var 5) 2 1]]) := by kernel_rfl
theorem ex : segTo Try.prog (orcFn tabT) 100000 lpW shWl [0] shWl [(0, 0), (1, 0), (2, 0)] hW = some (.exit 2, [.ok (.len (.var 4)), .ok (.bin .lss (.var 5) (.len (.var 4))), .is (.bin .lss (.var 5) (.len (.var 4))) (.bool false), .ok (.var 0), .ok (.var 1), .ok (.var 5), .ok (.var 8), .ok (.var 9), same (.len (.var 10)) (.len (.var 10)), same (.len (.var 11)) (.len (.var 11))], [.var 0, .var 1, .var 2, .var 3, .var 4, .var 5, .var 6, .var 7, .var 8, .var 9, .var 10, .var 11]) := by kernel_rfl
def z10 : List SX := [.fn 7 [.var 6, .var 7, .conv .i64 (.bin .rem (.var 0) (.con (.int .u8 30))), .var 9, .con (.int .i64 8), .var 4] 0, .fn 7 [.var 6, .var 7, .conv .i64 (.bin .rem (.var 0) (.con (.int .u8 30))), .var 9, .con (.int .i64 8), .var 4] 1, .fn 7 [.var 6, .var 7, .conv .i64 (.bin .rem (.var 0) (.con (.int .u8 30))), .var 9, .con (.int .i64 8), .var 4] 2, .fn 7 [.var 6, .var 7, .conv .i64 (.bin .rem (.var 0) (.con (.int .u8 30))), .var 9, .con (.int .i64 8), .var 4] 3, .var 2]
def z11 : List SX := [.fn 3 z10 0, .fn 3 z10 1, .conv .i64 (.bin .rem (.var 1) (.con (.int .u8 12))), .fn 3 z10 3, .con (.int .i64 8)]
def z12 : List SX := [.fn 8 z11 0, .fn 8 z11 1, .fn 8 z11 2, .fn 8 z11 3, .var 3]
def z13 : List SX := [.fn 3 z12 0, .fn 3 z12 1, .fn 3 z12 2, .fn 3 z12 3, .con (.int .i64 8)]
def z14 : List SX := [.fn 8 z13 0, .fn 8 z13 1, .fn 8 z13 2, .fn 8 z13 3, .con (.int .i64 0)]
def z15 : List SX := [.fn 8 z13 0, .fn 8 z13 1, .fn 8 z13 2, .fn 8 z13 3, .con (.int .i64 1)]
def z16 : List SX := [.fn 8 z13 0, .fn 8 z13 1, .fn 8 z13 2, .fn 8 z13 3, .con (.int .i64 2)]
def z17 : List SX := [.fn 8 z13 0, .fn 8 z13 1, .fn 8 z13 2, .fn 8 z13 3, .con (.int .i64 3)]
def z18 : List SX := [.fn 8 z13 0, .fn 8 z13 1, .fn 8 z13 2, .fn 8 z13 3, .con (.int .i64 4)]
def z19 : List SX := [.fn 8 z13 0, .fn 8 z13 1, .fn 8 z13 2, .fn 8 z13 3, .con (.int .i64 5)]
def z20 : List SX := [.fn 8 z13 0, .fn 8 z13 1, .fn 8 z13 2, .fn 8 z13 3, .con (.int .i64 6)]
def z21 : List SX := [.fn 8 z13 0, .fn 8 z13 1, .fn 8 z13 2, .fn 8 z13 3, .con (.int .i64 7)]
def z22 : List SX := [rop ROp.cat [rop ROp.cat [rop ROp.cat [rop ROp.cat [rop ROp.cat [rop ROp.cat [rop ROp.cat [.lit 1 [.fn 2 z14 0], .lit 1 [.fn 2 z15 0]], .lit 1 [.fn 2 z16 0]], .lit 1 [.fn 2 z17 0]], .lit 1 [.fn 2 z18 0]], .lit 1 [.fn 2 z19 0]], .lit 1 [.fn 2 z20 0]], .lit 1 [.fn 2 z21 0]], .var 11]
theorem po1 : segTo Try.prog (orcFn tabT) 100000 (flW.drop 15) shWl [1, 1, 1, 1, 1, 1, 1, 1, 1, 1] shWR [] hW = some (.ret, [.ok (.bin .rem (.var 0) (.con (.int .u8 30))), .ok (.conv .i64 (.bin .rem (.var 0) (.con (.int .u8 30)))), .fn 11 (ECm 7) [.var 6, .var 7, .conv .i64 (.bin .rem (.var 0) (.con (.int .u8 30))), .var 9, .con (.int .i64 8), .var 4], .ok (.fn 7 [.var 6, .var 7, .conv .i64 (.bin .rem (.var 0) (.con (.int .u8 30))), .var 9, .con (.int .i64 8), .var 4] 2), .ok (.fn 7 [.var 6, .var 7, .conv .i64 (.bin .rem (.var 0) (.con (.int .u8 30))), .var 9, .con (.int .i64 8), .var 4] 3), .is (.fn 7 [.var 6, .var 7, .conv .i64 (.bin .rem (.var 0) (.con (.int .u8 30))), .var 9, .con (.int .i64 8), .var 4] 4) (.bool true), .fn 15 (ECrashR 3) z10, .ok (.fn 3 z10 2), .ok (.fn 3 z10 3), .ok (.bin .rem (.var 1) (.con (.int .u8 12))), .ok (.conv .i64 (.bin .rem (.var 1) (.con (.int .u8 12)))), .fn 16 (EMn 8) z11, .ok (.fn 8 z11 2), .ok (.fn 8 z11 3), .ok (.fn 8 z11 4), .fn 15 (ECrashR 3) z12, .ok (.fn 3 z12 2), .ok (.fn 3 z12 3), .fn 16 (EMn 8) z13, .ok (.fn 8 z13 2), .ok (.fn 8 z13 3), .ok (.fn 8 z13 4), .fn 14 (ERead 2) z14, .ok (.fn 2 z14 0), .is (.fn 2 z14 1) (.bool true), rng (.con (.int .i64 0)) (.len (.lit 1 [.fn 2 z14 0])), upto (.len (.lit 1 [.fn 2 z14 0])) 4294967296, .fn 14 (ERead 2) z15, .ok (.fn 2 z15 0), .is (.fn 2 z15 1) (.bool true), same (.len (.lit 1 [.fn 2 z14 0])) (.len (.lit 1 [.fn 2 z14 0])), upto (.len (rop ROp.cat [.lit 1 [.fn 2 z14 0], .lit 1 [.fn 2 z15 0]])) 4294967296, .fn 14 (ERead 2) z16, .ok (.fn 2 z16 0), .is (.fn 2 z16 1) (.bool true), same (.len (rop ROp.cat [.lit 1 [.fn 2 z14 0], .lit 1 [.fn 2 z15 0]])) (.len (rop ROp.cat [.lit 1 [.fn 2 z14 0], .lit 1 [.fn 2 z15 0]])), upto (.len (rop ROp.cat [rop ROp.cat [.lit 1 [.fn 2 z14 0], .lit 1 [.fn 2 z15 0]], .lit 1 [.fn 2 z16 0]])) 4294967296, .fn 14 (ERead 2) z17, .ok (.fn 2 z17 0), .is (.fn 2 z17 1) (.bool true), same (.len (rop ROp.cat [rop ROp.cat [.lit 1 [.fn 2 z14 0], .lit 1 [.fn 2 z15 0]], .lit 1 [.fn 2 z16 0]])) (.len (rop ROp.cat [rop ROp.cat [.lit 1 [.fn 2 z14 0], .lit 1 [.fn 2 z15 0]], .lit 1 [.fn 2 z16 0]])), upto (.len (rop ROp.cat [rop ROp.cat [rop ROp.cat [.lit 1 [.fn 2 z14 0], .lit 1 [.fn 2 z15 0]], .lit 1 [.fn 2 z16 0]], .lit 1 [.fn 2 z17 0]])) 4294967296, .fn 14 (ERead 2) z18, .ok (.fn 2 z18 0), .is (.fn 2 z18 1) (.bool true), same (.len (rop ROp.cat [rop ROp.cat [rop ROp.cat [.lit 1 [.fn 2 z14 0], .lit 1 [.fn 2 z15 0]], .lit 1 [.fn 2 z16 0]], .lit 1 [.fn 2 z17 0]])) (.len (rop ROp.cat [rop ROp.cat [rop ROp.cat [.lit 1 [.fn 2 z14 0], .lit 1 [.fn 2 z15 0]], .lit 1 [.fn 2 z16 0]], .lit 1 [.fn 2 z17 0]])), upto (.len (rop ROp.cat [rop ROp.cat [rop ROp.cat [rop ROp.cat [.lit 1 [.fn 2 z14 0], .lit 1 [.fn 2 z15 0]], .lit 1 [.fn 2 z16 0]], .lit 1 [.fn 2 z17 0]], .lit 1 [.fn 2 z18 0]])) 4294967296, .fn 14 (ERead 2) z19, .ok (.fn 2 z19 0), .is (.fn 2 z19 1) (.bool true), same (.len (rop ROp.cat [rop ROp.cat [rop ROp.cat [rop ROp.cat [.lit 1 [.fn 2 z14 0], .lit 1 [.fn 2 z15 0]], .lit 1 [.fn 2 z16 0]], .lit 1 [.fn 2 z17 0]], .lit 1 [.fn 2 z18 0]])) (.len (rop ROp.cat [rop ROp.cat [rop ROp.cat [rop ROp.cat [.lit 1 [.fn 2 z14 0], .lit 1 [.fn 2 z15 0]], .lit 1 [.fn 2 z16 0]], .lit 1 [.fn 2 z17 0]], .lit 1 [.fn 2 z18 0]])), upto (.len (rop ROp.cat [rop ROp.cat [rop ROp.cat [rop ROp.cat [rop ROp.cat [.lit 1 [.fn 2 z14 0], .lit 1 [.fn 2 z15 0]], .lit 1 [.fn 2 z16 0]], .lit 1 [.fn 2 z17 0]], .lit 1 [.fn 2 z18 0]], .lit 1 [.fn 2 z19 0]])) 4294967296, .fn 14 (ERead 2) z20, .ok (.fn 2 z20 0), .is (.fn 2 z20 1) (.bool true), same (.len (rop ROp.cat [rop ROp.cat [rop ROp.cat [rop ROp.cat [rop ROp.cat [.lit 1 [.fn 2 z14 0], .lit 1 [.fn 2 z15 0]], .lit 1 [.fn 2 z16 0]], .lit 1 [.fn 2 z17 0]], .lit 1 [.fn 2 z18 0]], .lit 1 [.fn 2 z19 0]])) (.len (rop ROp.cat [rop ROp.cat [rop ROp.cat [rop ROp.cat [rop ROp.cat [.lit 1 [.fn 2 z14 0], .lit 1 [.fn 2 z15 0]], .lit 1 [.fn 2 z16 0]], .lit 1 [.fn 2 z17 0]], .lit 1 [.fn 2 z18 0]], .lit 1 [.fn 2 z19 0]])), upto (.len (rop ROp.cat [rop ROp.cat [rop ROp.cat [rop ROp.cat [rop ROp.cat [rop ROp.cat [.lit 1 [.fn 2 z14 0], .lit 1 [.fn 2 z15 0]], .lit 1 [.fn 2 z16 0]], .lit 1 [.fn 2 z17 0]], .lit 1 [.fn 2 z18 0]], .lit 1 [.fn 2 z19 0]], .lit 1 [.fn 2 z20 0]])) 4294967296, .fn 14 (ERead 2) z21, .ok (.fn 2 z21 0), .is (.fn 2 z21 1) (.bool true), same (.len (rop ROp.cat [rop ROp.cat [rop ROp.cat [rop ROp.cat [rop ROp.cat [rop ROp.cat [.lit 1 [.fn 2 z14 0], .lit 1 [.fn 2 z15 0]], .lit 1 [.fn 2 z16 0]], .lit 1 [.fn 2 z17 0]], .lit 1 [.fn 2 z18 0]], .lit 1 [.fn 2 z19 0]], .lit 1 [.fn 2 z20 0]])) (.len (rop ROp.cat [rop ROp.cat [rop ROp.cat [rop ROp.cat [rop ROp.cat [rop ROp.cat [.lit 1 [.fn 2 z14 0], .lit 1 [.fn 2 z15 0]], .lit 1 [.fn 2 z16 0]], .lit 1 [.fn 2 z17 0]], .lit 1 [.fn 2 z18 0]], .lit 1 [.fn 2 z19 0]], .lit 1 [.fn 2 z20 0]])), upto (.len (rop ROp.cat [rop ROp.cat [rop ROp.cat [rop ROp.cat [rop ROp.cat [rop ROp.cat [rop ROp.cat [.lit 1 [.fn 2 z14 0], .lit 1 [.fn 2 z15 0]], .lit 1 [.fn 2 z16 0]], .lit 1 [.fn 2 z17 0]], .lit 1 [.fn 2 z18 0]], .lit 1 [.fn 2 z19 0]], .lit 1 [.fn 2 z20 0]], .lit 1 [.fn 2 z21 0]])) 4294967296, .fn 17 (ESame2 4) z22, same (.len (rop ROp.cat [rop ROp.cat [rop ROp.cat [rop ROp.cat [rop ROp.cat [rop ROp.cat [rop ROp.cat [.lit 1 [.fn 2 z14 0], .lit 1 [.fn 2 z15 0]], .lit 1 [.fn 2 z16 0]], .lit 1 [.fn 2 z17 0]], .lit 1 [.fn 2 z18 0]], .lit 1 [.fn 2 z19 0]], .lit 1 [.fn 2 z20 0]], .lit 1 [.fn 2 z21 0]])) (.len (rop ROp.cat [rop ROp.cat [rop ROp.cat [rop ROp.cat [rop ROp.cat [rop ROp.cat [rop ROp.cat [.lit 1 [.fn 2 z14 0], .lit 1 [.fn 2 z15 0]], .lit 1 [.fn 2 z16 0]], .lit 1 [.fn 2 z17 0]], .lit 1 [.fn 2 z18 0]], .lit 1 [.fn 2 z19 0]], .lit 1 [.fn 2 z20 0]], .lit 1 [.fn 2 z21 0]])), .is (.fn 4 z22 0) (.bool true), .ok (.con (.bool true))], [.con (.bool true)]) := by kernel_rfl
theorem po01 : segTo Try.prog (orcFn tabT) 100000 (flW.drop 15) shWl [0, 1, 1, 1, 1, 1, 1, 1, 1, 1] shWR [] hW = some (.ret, [.ok (.bin .rem (.var 0) (.con (.int .u8 30))), .ok (.conv .i64 (.bin .rem (.var 0) (.con (.int .u8 30)))), .fn 11 (ECm 7) [.var 6, .var 7, .conv .i64 (.bin .rem (.var 0) (.con (.int .u8 30))), .var 9, .con (.int .i64 8), .var 4], .ok (.fn 7 [.var 6, .var 7, .conv .i64 (.bin .rem (.var 0) (.con (.int .u8 30))), .var 9, .con (.int .i64 8), .var 4] 2), .ok (.fn 7 [.var 6, .var 7, .conv .i64 (.bin .rem (.var 0) (.con (.int .u8 30))), .var 9, .con (.int .i64 8), .var 4] 3), .is (.fn 7 [.var 6, .var 7, .conv .i64 (.bin .rem (.var 0) (.con (.int .u8 30))), .var 9, .con (.int .i64 8), .var 4] 4) (.bool false), .fn 15 (ECrashR 3) z10, .ok (.fn 3 z10 2), .ok (.fn 3 z10 3), .ok (.bin .rem (.var 1) (.con (.int .u8 12))), .ok (.conv .i64 (.bin .rem (.var 1) (.con (.int .u8 12)))), .fn 16 (EMn 8) z11, .ok (.fn 8 z11 2), .ok (.fn 8 z11 3), .ok (.fn 8 z11 4), .fn 15 (ECrashR 3) z12, .ok (.fn 3 z12 2), .ok (.fn 3 z12 3), .fn 16 (EMn 8) z13, .ok (.fn 8 z13 2), .ok (.fn 8 z13 3), .ok (.fn 8 z13 4), .fn 14 (ERead 2) z14, .ok (.fn 2 z14 0), .is (.fn 2 z14 1) (.bool true), rng (.con (.int .i64 0)) (.len (.lit 1 [.fn 2 z14 0])), upto (.len (.lit 1 [.fn 2 z14 0])) 4294967296, .fn 14 (ERead 2) z15, .ok (.fn 2 z15 0), .is (.fn 2 z15 1) (.bool true), same (.len (.lit 1 [.fn 2 z14 0])) (.len (.lit 1 [.fn 2 z14 0])), upto (.len (rop ROp.cat [.lit 1 [.fn 2 z14 0], .lit 1 [.fn 2 z15 0]])) 4294967296, .fn 14 (ERead 2) z16, .ok (.fn 2 z16 0), .is (.fn 2 z16 1) (.bool true), same (.len (rop ROp.cat [.lit 1 [.fn 2 z14 0], .lit 1 [.fn 2 z15 0]])) (.len (rop ROp.cat [.lit 1 [.fn 2 z14 0], .lit 1 [.fn 2 z15 0]])), upto (.len (rop ROp.cat [rop ROp.cat [.lit 1 [.fn 2 z14 0], .lit 1 [.fn 2 z15 0]], .lit 1 [.fn 2 z16 0]])) 4294967296, .fn 14 (ERead 2) z17, .ok (.fn 2 z17 0), .is (.fn 2 z17 1) (.bool true), same (.len (rop ROp.cat [rop ROp.cat [.lit 1 [.fn 2 z14 0], .lit 1 [.fn 2 z15 0]], .lit 1 [.fn 2 z16 0]])) (.len (rop ROp.cat [rop ROp.cat [.lit 1 [.fn 2 z14 0], .lit 1 [.fn 2 z15 0]], .lit 1 [.fn 2 z16 0]])), upto (.len (rop ROp.cat [rop ROp.cat [rop ROp.cat [.lit 1 [.fn 2 z14 0], .lit 1 [.fn 2 z15 0]], .lit 1 [.fn 2 z16 0]], .lit 1 [.fn 2 z17 0]])) 4294967296, .fn 14 (ERead 2) z18, .ok (.fn 2 z18 0), .is (.fn 2 z18 1) (.bool true), same (.len (rop ROp.cat [rop ROp.cat [rop ROp.cat [.lit 1 [.fn 2 z14 0], .lit 1 [.fn 2 z15 0]], .lit 1 [.fn 2 z16 0]], .lit 1 [.fn 2 z17 0]])) (.len (rop ROp.cat [rop ROp.cat [rop ROp.cat [.lit 1 [.fn 2 z14 0], .lit 1 [.fn 2 z15 0]], .lit 1 [.fn 2 z16 0]], .lit 1 [.fn 2 z17 0]])), upto (.len (rop ROp.cat [rop ROp.cat [rop ROp.cat [rop ROp.cat [.lit 1 [.fn 2 z14 0], .lit 1 [.fn 2 z15 0]], .lit 1 [.fn 2 z16 0]], .lit 1 [.fn 2 z17 0]], .lit 1 [.fn 2 z18 0]])) 4294967296, .fn 14 (ERead 2) z19, .ok (.fn 2 z19 0), .is (.fn 2 z19 1) (.bool true), same (.len (rop ROp.cat [rop ROp.cat [rop ROp.cat [rop ROp.cat [.lit 1 [.fn 2 z14 0], .lit 1 [.fn 2 z15 0]], .lit 1 [.fn 2 z16 0]], .lit 1 [.fn 2 z17 0]], .lit 1 [.fn 2 z18 0]])) (.len (rop ROp.cat [rop ROp.cat [rop ROp.cat [rop ROp.cat [.lit 1 [.fn 2 z14 0], .lit 1 [.fn 2 z15 0]], .lit 1 [.fn 2 z16 0]], .lit 1 [.fn 2 z17 0]], .lit 1 [.fn 2 z18 0]])), upto (.len (rop ROp.cat [rop ROp.cat [rop ROp.cat [rop ROp.cat [rop ROp.cat [.lit 1 [.fn 2 z14 0], .lit 1 [.fn 2 z15 0]], .lit 1 [.fn 2 z16 0]], .lit 1 [.fn 2 z17 0]], .lit 1 [.fn 2 z18 0]], .lit 1 [.fn 2 z19 0]])) 4294967296, .fn 14 (ERead 2) z20, .ok (.fn 2 z20 0), .is (.fn 2 z20 1) (.bool true), same (.len (rop ROp.cat [rop ROp.cat [rop ROp.cat [rop ROp.cat [rop ROp.cat [.lit 1 [.fn 2 z14 0], .lit 1 [.fn 2 z15 0]], .lit 1 [.fn 2 z16 0]], .lit 1 [.fn 2 z17 0]], .lit 1 [.fn 2 z18 0]], .lit 1 [.fn 2 z19 0]])) (.len (rop ROp.cat [rop ROp.cat [rop ROp.cat [rop ROp.cat [rop ROp.cat [.lit 1 [.fn 2 z14 0], .lit 1 [.fn 2 z15 0]], .lit 1 [.fn 2 z16 0]], .lit 1 [.fn 2 z17 0]], .lit 1 [.fn 2 z18 0]], .lit 1 [.fn 2 z19 0]])), upto (.len (rop ROp.cat [rop ROp.cat [rop ROp.cat [rop ROp.cat [rop ROp.cat [rop ROp.cat [.lit 1 [.fn 2 z14 0], .lit 1 [.fn 2 z15 0]], .lit 1 [.fn 2 z16 0]], .lit 1 [.fn 2 z17 0]], .lit 1 [.fn 2 z18 0]], .lit 1 [.fn 2 z19 0]], .lit 1 [.fn 2 z20 0]])) 4294967296, .fn 14 (ERead 2) z21, .ok (.fn 2 z21 0), .is (.fn 2 z21 1) (.bool true), same (.len (rop ROp.cat [rop ROp.cat [rop ROp.cat [rop ROp.cat [rop ROp.cat [rop ROp.cat [.lit 1 [.fn 2 z14 0], .lit 1 [.fn 2 z15 0]], .lit 1 [.fn 2 z16 0]], .lit 1 [.fn 2 z17 0]], .lit 1 [.fn 2 z18 0]], .lit 1 [.fn 2 z19 0]], .lit 1 [.fn 2 z20 0]])) (.len (rop ROp.cat [rop ROp.cat [rop ROp.cat [rop ROp.cat [rop ROp.cat [rop ROp.cat [.lit 1 [.fn 2 z14 0], .lit 1 [.fn 2 z15 0]], .lit 1 [.fn 2 z16 0]], .lit 1 [.fn 2 z17 0]], .lit 1 [.fn 2 z18 0]], .lit 1 [.fn 2 z19 0]], .lit 1 [.fn 2 z20 0]])), upto (.len (rop ROp.cat [rop ROp.cat [rop ROp.cat [rop ROp.cat [rop ROp.cat [rop ROp.cat [rop ROp.cat [.lit 1 [.fn 2 z14 0], .lit 1 [.fn 2 z15 0]], .lit 1 [.fn 2 z16 0]], .lit 1 [.fn 2 z17 0]], .lit 1 [.fn 2 z18 0]], .lit 1 [.fn 2 z19 0]], .lit 1 [.fn 2 z20 0]], .lit 1 [.fn 2 z21 0]])) 4294967296, .fn 17 (ESame2 4) z22, same (.len (rop ROp.cat [rop ROp.cat [rop ROp.cat [rop ROp.cat [rop ROp.cat [rop ROp.cat [rop ROp.cat [.lit 1 [.fn 2 z14 0], .lit 1 [.fn 2 z15 0]], .lit 1 [.fn 2 z16 0]], .lit 1 [.fn 2 z17 0]], .lit 1 [.fn 2 z18 0]], .lit 1 [.fn 2 z19 0]], .lit 1 [.fn 2 z20 0]], .lit 1 [.fn 2 z21 0]])) (.len (rop ROp.cat [rop ROp.cat [rop ROp.cat [rop ROp.cat [rop ROp.cat [rop ROp.cat [rop ROp.cat [.lit 1 [.fn 2 z14 0], .lit 1 [.fn 2 z15 0]], .lit 1 [.fn 2 z16 0]], .lit 1 [.fn 2 z17 0]], .lit 1 [.fn 2 z18 0]], .lit 1 [.fn 2 z19 0]], .lit 1 [.fn 2 z20 0]], .lit 1 [.fn 2 z21 0]])), .is (.fn 4 z22 0) (.bool true), .ok (.con (.bool true))], [.con (.bool true)]) := by kernel_rfl
def z23 : List SX := [rop ROp.cat [rop ROp.cat [rop ROp.cat [rop ROp.cat [rop ROp.cat [rop ROp.cat [rop ROp.cat [.lit 1 [.fn 2 z14 0], .lit 1 [.fn 2 z15 0]], .lit 1 [.fn 2 z16 0]], .lit 1 [.fn 2 z17 0]], .lit 1 [.fn 2 z18 0]], .lit 1 [.fn 2 z19 0]], .lit 1 [.fn 2 z20 0]], .lit 1 [.fn 2 z21 0]], .var 10]
theorem po00 : segTo Try.prog (orcFn tabT) 100000 (flW.drop 15) shWl [0, 1, 1, 1, 1, 1, 1, 1, 1, 0, 1] shWR [] hW = some (.ret, [.ok (.bin .rem (.var 0) (.con (.int .u8 30))), .ok (.conv .i64 (.bin .rem (.var 0) (.con (.int .u8 30)))), .fn 11 (ECm 7) [.var 6, .var 7, .conv .i64 (.bin .rem (.var 0) (.con (.int .u8 30))), .var 9, .con (.int .i64 8), .var 4], .ok (.fn 7 [.var 6, .var 7, .conv .i64 (.bin .rem (.var 0) (.con (.int .u8 30))), .var 9, .con (.int .i64 8), .var 4] 2), .ok (.fn 7 [.var 6, .var 7, .conv .i64 (.bin .rem (.var 0) (.con (.int .u8 30))), .var 9, .con (.int .i64 8), .var 4] 3), .is (.fn 7 [.var 6, .var 7, .conv .i64 (.bin .rem (.var 0) (.con (.int .u8 30))), .var 9, .con (.int .i64 8), .var 4] 4) (.bool false), .fn 15 (ECrashR 3) z10, .ok (.fn 3 z10 2), .ok (.fn 3 z10 3), .ok (.bin .rem (.var 1) (.con (.int .u8 12))), .ok (.conv .i64 (.bin .rem (.var 1) (.con (.int .u8 12)))), .fn 16 (EMn 8) z11, .ok (.fn 8 z11 2), .ok (.fn 8 z11 3), .ok (.fn 8 z11 4), .fn 15 (ECrashR 3) z12, .ok (.fn 3 z12 2), .ok (.fn 3 z12 3), .fn 16 (EMn 8) z13, .ok (.fn 8 z13 2), .ok (.fn 8 z13 3), .ok (.fn 8 z13 4), .fn 14 (ERead 2) z14, .ok (.fn 2 z14 0), .is (.fn 2 z14 1) (.bool true), rng (.con (.int .i64 0)) (.len (.lit 1 [.fn 2 z14 0])), upto (.len (.lit 1 [.fn 2 z14 0])) 4294967296, .fn 14 (ERead 2) z15, .ok (.fn 2 z15 0), .is (.fn 2 z15 1) (.bool true), same (.len (.lit 1 [.fn 2 z14 0])) (.len (.lit 1 [.fn 2 z14 0])), upto (.len (rop ROp.cat [.lit 1 [.fn 2 z14 0], .lit 1 [.fn 2 z15 0]])) 4294967296, .fn 14 (ERead 2) z16, .ok (.fn 2 z16 0), .is (.fn 2 z16 1) (.bool true), same (.len (rop ROp.cat [.lit 1 [.fn 2 z14 0], .lit 1 [.fn 2 z15 0]])) (.len (rop ROp.cat [.lit 1 [.fn 2 z14 0], .lit 1 [.fn 2 z15 0]])), upto (.len (rop ROp.cat [rop ROp.cat [.lit 1 [.fn 2 z14 0], .lit 1 [.fn 2 z15 0]], .lit 1 [.fn 2 z16 0]])) 4294967296, .fn 14 (ERead 2) z17, .ok (.fn 2 z17 0), .is (.fn 2 z17 1) (.bool true), same (.len (rop ROp.cat [rop ROp.cat [.lit 1 [.fn 2 z14 0], .lit 1 [.fn 2 z15 0]], .lit 1 [.fn 2 z16 0]])) (.len (rop ROp.cat [rop ROp.cat [.lit 1 [.fn 2 z14 0], .lit 1 [.fn 2 z15 0]], .lit 1 [.fn 2 z16 0]])), upto (.len (rop ROp.cat [rop ROp.cat [rop ROp.cat [.lit 1 [.fn 2 z14 0], .lit 1 [.fn 2 z15 0]], .lit 1 [.fn 2 z16 0]], .lit 1 [.fn 2 z17 0]])) 4294967296, .fn 14 (ERead 2) z18, .ok (.fn 2 z18 0), .is (.fn 2 z18 1) (.bool true), same (.len (rop ROp.cat [rop ROp.cat [rop ROp.cat [.lit 1 [.fn 2 z14 0], .lit 1 [.fn 2 z15 0]], .lit 1 [.fn 2 z16 0]], .lit 1 [.fn 2 z17 0]])) (.len (rop ROp.cat [rop ROp.cat [rop ROp.cat [.lit 1 [.fn 2 z14 0], .lit 1 [.fn 2 z15 0]], .lit 1 [.fn 2 z16 0]], .lit 1 [.fn 2 z17 0]])), upto (.len (rop ROp.cat [rop ROp.cat [rop ROp.cat [rop ROp.cat [.lit 1 [.fn 2 z14 0], .lit 1 [.fn 2 z15 0]], .lit 1 [.fn 2 z16 0]], .lit 1 [.fn 2 z17 0]], .lit 1 [.fn 2 z18 0]])) 4294967296, .fn 14 (ERead 2) z19, .ok (.fn 2 z19 0), .is (.fn 2 z19 1) (.bool true), same (.len (rop ROp.cat [rop ROp.cat [rop ROp.cat [rop ROp.cat [.lit 1 [.fn 2 z14 0], .lit 1 [.fn 2 z15 0]], .lit 1 [.fn 2 z16 0]], .lit 1 [.fn 2 z17 0]], .lit 1 [.fn 2 z18 0]])) (.len (rop ROp.cat [rop ROp.cat [rop ROp.cat [rop ROp.cat [.lit 1 [.fn 2 z14 0], .lit 1 [.fn 2 z15 0]], .lit 1 [.fn 2 z16 0]], .lit 1 [.fn 2 z17 0]], .lit 1 [.fn 2 z18 0]])), upto (.len (rop ROp.cat [rop ROp.cat [rop ROp.cat [rop ROp.cat [rop ROp.cat [.lit 1 [.fn 2 z14 0], .lit 1 [.fn 2 z15 0]], .lit 1 [.fn 2 z16 0]], .lit 1 [.fn 2 z17 0]], .lit 1 [.fn 2 z18 0]], .lit 1 [.fn 2 z19 0]])) 4294967296, .fn 14 (ERead 2) z20, .ok (.fn 2 z20 0), .is (.fn 2 z20 1) (.bool true), same (.len (rop ROp.cat [rop ROp.cat [rop ROp.cat [rop ROp.cat [rop ROp.cat [.lit 1 [.fn 2 z14 0], .lit 1 [.fn 2 z15 0]], .lit 1 [.fn 2 z16 0]], .lit 1 [.fn 2 z17 0]], .lit 1 [.fn 2 z18 0]], .lit 1 [.fn 2 z19 0]])) (.len (rop ROp.cat [rop ROp.cat [rop ROp.cat [rop ROp.cat [rop ROp.cat [.lit 1 [.fn 2 z14 0], .lit 1 [.fn 2 z15 0]], .lit 1 [.fn 2 z16 0]], .lit 1 [.fn 2 z17 0]], .lit 1 [.fn 2 z18 0]], .lit 1 [.fn 2 z19 0]])), upto (.len (rop ROp.cat [rop ROp.cat [rop ROp.cat [rop ROp.cat [rop ROp.cat [rop ROp.cat [.lit 1 [.fn 2 z14 0], .lit 1 [.fn 2 z15 0]], .lit 1 [.fn 2 z16 0]], .lit 1 [.fn 2 z17 0]], .lit 1 [.fn 2 z18 0]], .lit 1 [.fn 2 z19 0]], .lit 1 [.fn 2 z20 0]])) 4294967296, .fn 14 (ERead 2) z21, .ok (.fn 2 z21 0), .is (.fn 2 z21 1) (.bool true), same (.len (rop ROp.cat [rop ROp.cat [rop ROp.cat [rop ROp.cat [rop ROp.cat [rop ROp.cat [.lit 1 [.fn 2 z14 0], .lit 1 [.fn 2 z15 0]], .lit 1 [.fn 2 z16 0]], .lit 1 [.fn 2 z17 0]], .lit 1 [.fn 2 z18 0]], .lit 1 [.fn 2 z19 0]], .lit 1 [.fn 2 z20 0]])) (.len (rop ROp.cat [rop ROp.cat [rop ROp.cat [rop ROp.cat [rop ROp.cat [rop ROp.cat [.lit 1 [.fn 2 z14 0], .lit 1 [.fn 2 z15 0]], .lit 1 [.fn 2 z16 0]], .lit 1 [.fn 2 z17 0]], .lit 1 [.fn 2 z18 0]], .lit 1 [.fn 2 z19 0]], .lit 1 [.fn 2 z20 0]])), upto (.len (rop ROp.cat [rop ROp.cat [rop ROp.cat [rop ROp.cat [rop ROp.cat [rop ROp.cat [rop ROp.cat [.lit 1 [.fn 2 z14 0], .lit 1 [.fn 2 z15 0]], .lit 1 [.fn 2 z16 0]], .lit 1 [.fn 2 z17 0]], .lit 1 [.fn 2 z18 0]], .lit 1 [.fn 2 z19 0]], .lit 1 [.fn 2 z20 0]], .lit 1 [.fn 2 z21 0]])) 4294967296, .fn 17 (ESame2 4) z22, same (.len (rop ROp.cat [rop ROp.cat [rop ROp.cat [rop ROp.cat [rop ROp.cat [rop ROp.cat [rop ROp.cat [.lit 1 [.fn 2 z14 0], .lit 1 [.fn 2 z15 0]], .lit 1 [.fn 2 z16 0]], .lit 1 [.fn 2 z17 0]], .lit 1 [.fn 2 z18 0]], .lit 1 [.fn 2 z19 0]], .lit 1 [.fn 2 z20 0]], .lit 1 [.fn 2 z21 0]])) (.len (rop ROp.cat [rop ROp.cat [rop ROp.cat [rop ROp.cat [rop ROp.cat [rop ROp.cat [rop ROp.cat [.lit 1 [.fn 2 z14 0], .lit 1 [.fn 2 z15 0]], .lit 1 [.fn 2 z16 0]], .lit 1 [.fn 2 z17 0]], .lit 1 [.fn 2 z18 0]], .lit 1 [.fn 2 z19 0]], .lit 1 [.fn 2 z20 0]], .lit 1 [.fn 2 z21 0]])), .is (.fn 4 z22 0) (.bool false), .fn 17 (ESame2 4) z23, same (.len (rop ROp.cat [rop ROp.cat [rop ROp.cat [rop ROp.cat [rop ROp.cat [rop ROp.cat [rop ROp.cat [.lit 1 [.fn 2 z14 0], .lit 1 [.fn 2 z15 0]], .lit 1 [.fn 2 z16 0]], .lit 1 [.fn 2 z17 0]], .lit 1 [.fn 2 z18 0]], .lit 1 [.fn 2 z19 0]], .lit 1 [.fn 2 z20 0]], .lit 1 [.fn 2 z21 0]])) (.len (rop ROp.cat [rop ROp.cat [rop ROp.cat [rop ROp.cat [rop ROp.cat [rop ROp.cat [rop ROp.cat [.lit 1 [.fn 2 z14 0], .lit 1 [.fn 2 z15 0]], .lit 1 [.fn 2 z16 0]], .lit 1 [.fn 2 z17 0]], .lit 1 [.fn 2 z18 0]], .lit 1 [.fn 2 z19 0]], .lit 1 [.fn 2 z20 0]], .lit 1 [.fn 2 z21 0]])), .is (.fn 4 z23 0) (.bool true), .ok (.con (.bool true))], [.con (.bool true)]) := by kernel_rfl
theorem exK2 (K : Nat) : (∃ z : Nat, (2 : Int) = (z : Int) ∧ z ≤ K) ↔ 2 ≤ K := ⟨fun ⟨z, h, h2⟩ => by omega, fun h => ⟨2, rfl, h⟩⟩
theorem exT2 : (∃ z : Nat, (2 : Int) = (z : Int)) ↔ True := ⟨fun _ => trivial, fun _ => ⟨2, rfl⟩⟩
theorem exK3 (K : Nat) : (∃ z : Nat, (3 : Int) = (z : Int) ∧ z ≤ K) ↔ 3 ≤ K := ⟨fun ⟨z, h, h2⟩ => by omega, fun h => ⟨3, rfl, h⟩⟩
theorem exT3 : (∃ z : Nat, (3 : Int) = (z : Int)) ↔ True := ⟨fun _ => trivial, fun _ => ⟨3, rfl⟩⟩
theorem exK4 (K : Nat) : (∃ z : Nat, (4 : Int) = (z : Int) ∧ z ≤ K) ↔ 4 ≤ K := ⟨fun ⟨z, h, h2⟩ => by omega, fun h => ⟨4, rfl, h⟩⟩
theorem exT4 : (∃ z : Nat, (4 : Int) = (z : Int)) ↔ True := ⟨fun _ => trivial, fun _ => ⟨4, rfl⟩⟩
theorem exK5 (K : Nat) : (∃ z : Nat, (5 : Int) = (z : Int) ∧ z ≤ K) ↔ 5 ≤ K := ⟨fun ⟨z, h, h2⟩ => by omega, fun h => ⟨5, rfl, h⟩⟩
theorem exT5 : (∃ z : Nat, (5 : Int) = (z : Int)) ↔ True := ⟨fun _ => trivial, fun _ => ⟨5, rfl⟩⟩
theorem exK6 (K : Nat) : (∃ z : Nat, (6 : Int) = (z : Int) ∧ z ≤ K) ↔ 6 ≤ K := ⟨fun ⟨z, h, h2⟩ => by omega, fun h => ⟨6, rfl, h⟩⟩
theorem exT6 : (∃ z : Nat, (6 : Int) = (z : Int)) ↔ True := ⟨fun _ => trivial, fun _ => ⟨6, rfl⟩⟩
theorem exK7 (K : Nat) : (∃ z : Nat, (7 : Int) = (z : Int) ∧ z ≤ K) ↔ 7 ≤ K := ⟨fun ⟨z, h, h2⟩ => by omega, fun h => ⟨7, rfl, h⟩⟩
theorem exT7 : (∃ z : Nat, (7 : Int) = (z : Int)) ↔ True := ⟨fun _ => trivial, fun _ => ⟨7, rfl⟩⟩
theorem exK8 (K : Nat) : (∃ z : Nat, (8 : Int) = (z : Int) ∧ z ≤ K) ↔ 8 ≤ K := ⟨fun ⟨z, h, h2⟩ => by omega, fun h => ⟨8, rfl, h⟩⟩
theorem exT8 : (∃ z : Nat, (8 : Int) = (z : Int)) ↔ True := ⟨fun _ => trivial, fun _ => ⟨8, rfl⟩⟩
theorem r_catR (n m : Nat) (xs ys : List PV) : ropPV .cat [.row n xs, .row m ys] = some (.row (n + m) (xs ++ ys)) := by simp [ropPV]
theorem r_updS (W : List ByteArray) (i : Nat) (x : ByteArray) (h : i < W.length) : ropPV (.upd 1 0) [pRow encS W, pI (i : Int), pS x] = some (pRow encS (W.set i x)) := r_updE encS W i .i64 x h
def ELaw (k : Nat) : FnE := { k := k, ins := [some 8, some 8, none, none, none, none], leaks := [], outs := [none], kinds := [.truth] }
def RL (ps qs : List PV) : Prop := ∃ (A B : List Nat) (arm ag : Nat) (keep more : List Int), A.length = 8 ∧ B.length = 8 ∧ (∀ z ∈ A, z < 256) ∧ (∀ z ∈ B, z < 256) ∧ arm < 256 ∧ ag < 256 ∧ ps = lu A ++ (lu B ++ [pU (arm : Int), pU (ag : Int), pRow encI keep, pRow encI more]) ∧ qs = [pB true]
theorem fL : ∀ ps q1 q2, RL ps q1 → RL ps q2 → q1 = q2 := by
  rintro ps q1 q2 ⟨_, _, _, _, _, _, _, _, _, _, _, _, _, rfl⟩ ⟨_, _, _, _, _, _, _, _, _, _, _, _, _, rfl⟩; rfl
theorem cutW : flW = flW.take 14 ++ .block (blockId (nth flW 14)) (.loop (loopBody (nth flW 14))) :: flW.drop 15 := by kernel_rfl
abbrev O8 (M : List ByteArray) : List ByteArray := [M.getD 0 e0, M.getD 1 e0, M.getD 2 e0, M.getD 3 e0, M.getD 4 e0, M.getD 5 e0, M.getD 6 e0, M.getD 7 e0]
theorem o8_at (M : List ByteArray) (i : Nat) (h : i < 8) : (O8 M).getD i e0 = M.getD i e0 := by
  match i, h with
  | 0, _ => rfl
  | 1, _ => rfl
  | 2, _ => rfl
  | 3, _ => rfl
  | 4, _ => rfl
  | 5, _ => rfl
  | 6, _ => rfl
  | 7, _ => rfl
theorem o8_len (M : List ByteArray) : (O8 M).length = 8 := rfl
theorem o8_ext {M : List ByteArray} {X : List ByteArray} (hx : X.length = 8) (h : ∀ i, i < 8 → M.getD i e0 = X.getD i e0) : O8 M = X := ext17 (by rw [o8_len, hx]) fun i hi => by rw [o8_len] at hi; rw [o8_at M i hi, h i hi]
theorem o8_set {M : List ByteArray} (hc : jmt.Calm M) (p : List jmt.Pt) (i : Nat) (h : i < 8) : (setAll (O8 M) p).getD i e0 = (setAll M p).getD i e0 := by
  rw [setAll_at p _ i (by rw [o8_len]; exact h), setAll_at p _ i (by rw [hc.n]; omega), o8_at M i h]
abbrev stW (arm ag : Nat) (keep more : List Int) (p : List jmt.Pt) (M O : List ByteArray) (i : Nat) (W : List ByteArray) : List PV := [pU (arm : Int), pU (ag : Int), pRow encI keep, pRow encI more, pRow encP p, pI (i : Int), pRow encS M, pRow encP [], pI 0, pB false, pRow encS O, pRow encS W]
set_option maxHeartbeats 8000000 in
theorem told (k0 : Nat) : ToldF 3 (ELaw k0) (spec RL) := by
  refine told_by G _ (bodyOf Try.prog 3) Try.func3 (by kernel_rfl) shW (by kernel_rfl) ?_ ?_
  · intro ps qs h i hi
    obtain ⟨A, B, arm, ag, keep, more, hA, hB, _, _, _, _, rfl, rfl⟩ := of_spec h
    obtain ⟨a0, a1, a2, a3, a4, a5, a6, a7, rfl⟩ := len8 hA
    obtain ⟨b0, b1, b2, b3, b4, b5, b6, b7, rfl⟩ := len8 hB
    simp [shW, n8] at hi
    match i, hi with
    | 0, _ => exact ⟨_, rfl, rfl⟩
    | 1, _ => exact ⟨_, rfl, rfl⟩
    | 2, _ => exact ⟨_, rfl, rfl⟩
    | 3, _ => exact ⟨_, rfl, rfl⟩
    | 4, _ => exact ⟨_, rfl, rfl⟩
    | 5, _ => exact ⟨_, rfl, rfl⟩
    | 6, _ => exact ⟨_, rfl, rfl⟩
    | 7, _ => exact ⟨_, rfl, rfl⟩
    | 8, _ => exact ⟨_, rfl, rfl⟩
    | 9, _ => exact ⟨_, rfl, rfl⟩
    | 10, _ => exact ⟨_, rfl, rfl⟩
    | 11, _ => exact ⟨_, rfl, rfl⟩
    | 12, _ => exact ⟨_, rfl, rfl⟩
    | 13, _ => exact ⟨_, rfl, rfl⟩
    | 14, _ => exact ⟨_, rfl, rfl⟩
    | 15, _ => exact ⟨_, rfl, rfl⟩
    | 16, _ => exact ⟨_, rfl, rfl⟩
    | 17, _ => exact ⟨_, rfl, rfl⟩
    | 18, hi => simp at hi
    | 19, hi => simp at hi
    | i + 20, hi => simp at hi
  · intro C ps qs hF h a w hsh
    obtain ⟨A, B, arm, ag, keep, more, hA, hB, hAb, hBb, harm, hag, rfl, rfl⟩ := of_spec h
    have f6a := G6 hA hAb
    have f6b := G6 hB hBb
    have hpA := puts_of hA
    have hpB := puts_of hB
    obtain ⟨pA, hpa⟩ : ∃ p, putsF SEC 0 A = p := ⟨_, rfl⟩
    obtain ⟨qB, hpb⟩ : ∃ p, putsF SEC 0 B = p := ⟨_, rfl⟩
    rw [hpa] at f6a hpA
    rw [hpb] at f6b hpB
    obtain ⟨a0, a1, a2, a3, a4, a5, a6, a7, rfl⟩ := len8 hA
    obtain ⟨b0, b1, b2, b3, b4, b5, b6, b7, rfl⟩ := len8 hB
    clear hpa hpb hAb hBb hA hB h
    rw [← row8] at f6a f6b
    simp only [lu, List.map_cons, List.map_nil, List.cons_append, List.nil_append] at hsh
    obtain ⟨ps, hps⟩ : ∃ ps : List PV, ps = [pU (a0 : Int), pU (a1 : Int), pU (a2 : Int), pU (a3 : Int), pU (a4 : Int), pU (a5 : Int), pU (a6 : Int), pU (a7 : Int), pU (b0 : Int), pU (b1 : Int), pU (b2 : Int), pU (b3 : Int), pU (b4 : Int), pU (b5 : Int), pU (b6 : Int), pU (b7 : Int), pU (arm : Int), pU (ag : Int), pRow encI keep, pRow encI more] := ⟨_, rfl⟩
    rw [← hps] at hsh
    have s0 : ps[0]? = some (pU (a0 : Int)) := by rw [hps]; rfl
    have s1 : ps[1]? = some (pU (a1 : Int)) := by rw [hps]; rfl
    have s2 : ps[2]? = some (pU (a2 : Int)) := by rw [hps]; rfl
    have s3 : ps[3]? = some (pU (a3 : Int)) := by rw [hps]; rfl
    have s4 : ps[4]? = some (pU (a4 : Int)) := by rw [hps]; rfl
    have s5 : ps[5]? = some (pU (a5 : Int)) := by rw [hps]; rfl
    have s6 : ps[6]? = some (pU (a6 : Int)) := by rw [hps]; rfl
    have s7 : ps[7]? = some (pU (a7 : Int)) := by rw [hps]; rfl
    have s8 : ps[8]? = some (pU (b0 : Int)) := by rw [hps]; rfl
    have s9 : ps[9]? = some (pU (b1 : Int)) := by rw [hps]; rfl
    have s10 : ps[10]? = some (pU (b2 : Int)) := by rw [hps]; rfl
    have s11 : ps[11]? = some (pU (b3 : Int)) := by rw [hps]; rfl
    have s12 : ps[12]? = some (pU (b4 : Int)) := by rw [hps]; rfl
    have s13 : ps[13]? = some (pU (b5 : Int)) := by rw [hps]; rfl
    have s14 : ps[14]? = some (pU (b6 : Int)) := by rw [hps]; rfl
    have s15 : ps[15]? = some (pU (b7 : Int)) := by rw [hps]; rfl
    have s16 : ps[16]? = some (pU (arm : Int)) := by rw [hps]; rfl
    have s17 : ps[17]? = some (pU (ag : Int)) := by rw [hps]; rfl
    have s18 : ps[18]? = some (pRow encI keep) := by rw [hps]; rfl
    have s19 : ps[19]? = some (pRow encI more) := by rw [hps]; rfl
    clear hps
    show wpL Try.prog flW _ a w
    have fin : ∀ qs a1 w1, qs = [pB true] → InShape C shWR qs a1 w1 → (AX.ret = .normal → wpL Try.prog [] (fun e a' w' => (e = .normal ∨ e = .ret) ∧ ∃ sh' ps' es, InShape C sh' ps' a' w' ∧ resTo Try.prog Try.f3 sh' (ELaw k0) = some es ∧ evs (fun i => ps'[i]?) G es = some [pB true]) a1 w1) ∧ (AX.ret ≠ .normal → ((AX.ret.to = .normal ∨ AX.ret.to = .ret) ∧ ∃ sh' ps' es, InShape C sh' ps' a1 w1 ∧ resTo Try.prog Try.f3 sh' (ELaw k0) = some es ∧ evs (fun i => ps'[i]?) G es = some [pB true])) := by
      rintro qs a1 w1 rfl h1
      exact ⟨fun h => (by cases h), fun _ => ⟨.inr rfl, shWR, _, [SX.var 0], h1, by kernel_rfl, rfl⟩⟩
    by_cases hl1 : 20 < keep.length
    · rw [← List.append_nil flW]
      refine seg_ok eng.names_ok eng.mixed_ok (orcFn_ok _) q1 hsh ?_ (fun qs a1 w1 hq h1 => fin qs a1 w1 (by simp [evs, SX.ev] at hq; exact hq.symm) h1)
      simp only [List.mem_cons, List.not_mem_nil, or_false, forall_eq_or_imp, forall_eq]
      simp [holds_idxP, holds_cellsP, Base.ev, SX.ev, evs, Value.oneCell', hF, s18, lenPV_row, binPV, G5, u5]
      omega
    by_cases hl2 : 20 < more.length
    · rw [← List.append_nil flW]
      refine seg_ok eng.names_ok eng.mixed_ok (orcFn_ok _) q2 hsh ?_ (fun qs a1 w1 hq h1 => fin qs a1 w1 (by simp [evs, SX.ev] at hq; exact hq.symm) h1)
      simp only [List.mem_cons, List.not_mem_nil, or_false, forall_eq_or_imp, forall_eq]
      simp [holds_idxP, holds_cellsP, Base.ev, SX.ev, evs, Value.oneCell', hF, s18, s19, lenPV_row, binPV, G5, u5]
      omega
    rw [cutW]
    -- what was
    obtain ⟨M, hcM, hM, hMs, hMM⟩ := commit_now calm0 hpA clean0
    have f7 := G7now calm0 hpA hM
    have r0 : G 2 [pRow encS M, pRow encP [], pI 0, pB false, pI 0] = some [pS (M.getD 0 e0), pB true] := G20 (i := 0) hcM (by omega)
    have r1 : G 2 [pRow encS M, pRow encP [], pI 0, pB false, pI 1] = some [pS (M.getD 1 e0), pB true] := G20 (i := 1) hcM (by omega)
    have r2 : G 2 [pRow encS M, pRow encP [], pI 0, pB false, pI 2] = some [pS (M.getD 2 e0), pB true] := G20 (i := 2) hcM (by omega)
    have r3 : G 2 [pRow encS M, pRow encP [], pI 0, pB false, pI 3] = some [pS (M.getD 3 e0), pB true] := G20 (i := 3) hcM (by omega)
    have r4 : G 2 [pRow encS M, pRow encP [], pI 0, pB false, pI 4] = some [pS (M.getD 4 e0), pB true] := G20 (i := 4) hcM (by omega)
    have r5 : G 2 [pRow encS M, pRow encP [], pI 0, pB false, pI 5] = some [pS (M.getD 5 e0), pB true] := G20 (i := 5) hcM (by omega)
    have r6 : G 2 [pRow encS M, pRow encP [], pI 0, pB false, pI 6] = some [pS (M.getD 6 e0), pB true] := G20 (i := 6) hcM (by omega)
    have r7 : G 2 [pRow encS M, pRow encP [], pI 0, pB false, pI 7] = some [pS (M.getD 7 e0), pB true] := G20 (i := 7) hcM (by omega)
    have g1 : evs (fun i => ps[i]?) G z1 = some [pRow encS L0, pRow encP [], pI 0, pB false, pI 8, pRow encP pA] := by
      simp [z1, evs, SX.ev, G1, f6a, s0, s1, s2, s3, s4, s5, s6, s7, s8, s9, s10, s11, s12, s13, s14, s15, s16, s17, s18, s19]
    have g2 : evs (fun i => ps[i]?) G z2 = some [pRow encS M, pRow encP [], pI 0, pB false, pI 0] := by
      simp [z2, evs, SX.ev, g1, f7]
    have g3 : evs (fun i => ps[i]?) G z3 = some [pRow encS M, pRow encP [], pI 0, pB false, pI 1] := by
      simp [z3, evs, SX.ev, g1, f7]
    have g4 : evs (fun i => ps[i]?) G z4 = some [pRow encS M, pRow encP [], pI 0, pB false, pI 2] := by
      simp [z4, evs, SX.ev, g1, f7]
    have g5 : evs (fun i => ps[i]?) G z5 = some [pRow encS M, pRow encP [], pI 0, pB false, pI 3] := by
      simp [z5, evs, SX.ev, g1, f7]
    have g6 : evs (fun i => ps[i]?) G z6 = some [pRow encS M, pRow encP [], pI 0, pB false, pI 4] := by
      simp [z6, evs, SX.ev, g1, f7]
    have g7 : evs (fun i => ps[i]?) G z7 = some [pRow encS M, pRow encP [], pI 0, pB false, pI 5] := by
      simp [z7, evs, SX.ev, g1, f7]
    have g8 : evs (fun i => ps[i]?) G z8 = some [pRow encS M, pRow encP [], pI 0, pB false, pI 6] := by
      simp [z8, evs, SX.ev, g1, f7]
    have g9 : evs (fun i => ps[i]?) G z9 = some [pRow encS M, pRow encP [], pI 0, pB false, pI 7] := by
      simp [z9, evs, SX.ev, g1, f7]
    have hOl := o8_len M
    have hOs := o8_set hcM
    have hOa := o8_at M
    have hrow : (PV.row 8 [pS (M.getD 0 e0), pS (M.getD 1 e0), pS (M.getD 2 e0), pS (M.getD 3 e0), pS (M.getD 4 e0), pS (M.getD 5 e0), pS (M.getD 6 e0), pS (M.getD 7 e0)]) = pRow encS (O8 M) := rfl
    obtain ⟨OL, hOL⟩ : ∃ OL, O8 M = OL := ⟨_, rfl⟩
    rw [hOL] at hOl hOs hOa hrow
    clear hOL
    have hpl : qB.length ≤ 8 := by
      rcases hpB with rfl | hp
      · simp
      · exact hp.few
    have hlt8 : ∀ i (hi : i < qB.length), qB[i].1 < 8 := fun i hi => by
      rcases hpB with rfl | hp
      · simp at hi
      · exact hp.lt _ (List.getElem_mem hi)
    have post0 : ∀ a1 w1, InShape C shWl ([pU (arm : Int), pU (ag : Int), pRow encI keep, pRow encI more, pRow encP qB, pI (qB.length : Int), pRow encS M, pRow encP [], pI 0, pB false, pRow encS OL, pRow encS (setAll OL qB)]) a1 w1 → wpL Try.prog (flW.drop 15 ++ []) (fun e a' w' => (e = .normal ∨ e = .ret) ∧ ∃ sh' ps' es, InShape C sh' ps' a' w' ∧ resTo Try.prog Try.f3 sh' (ELaw k0) = some es ∧ evs (fun i => ps'[i]?) G es = some [pB true]) a1 w1 := by
      intro a1 w1 h1
      obtain ⟨qs2, hps⟩ : ∃ qs2 : List PV, qs2 = [pU (arm : Int), pU (ag : Int), pRow encI keep, pRow encI more, pRow encP qB, pI (qB.length : Int), pRow encS M, pRow encP [], pI 0, pB false, pRow encS OL, pRow encS (setAll OL qB)] := ⟨_, rfl⟩
      rw [← hps] at h1
      have t0 : qs2[0]? = some (pU (arm : Int)) := by rw [hps]; rfl
      have t1 : qs2[1]? = some (pU (ag : Int)) := by rw [hps]; rfl
      have t2 : qs2[2]? = some (pRow encI keep) := by rw [hps]; rfl
      have t3 : qs2[3]? = some (pRow encI more) := by rw [hps]; rfl
      have t4 : qs2[4]? = some (pRow encP qB) := by rw [hps]; rfl
      have t5 : qs2[5]? = some (pI (qB.length : Int)) := by rw [hps]; rfl
      have t6 : qs2[6]? = some (pRow encS M) := by rw [hps]; rfl
      have t7 : qs2[7]? = some (pRow encP []) := by rw [hps]; rfl
      have t8 : qs2[8]? = some (pI 0) := by rw [hps]; rfl
      have t9 : qs2[9]? = some (pB false) := by rw [hps]; rfl
      have t10 : qs2[10]? = some (pRow encS OL) := by rw [hps]; rfl
      have t11 : qs2[11]? = some (pRow encS (setAll OL qB)) := by rw [hps]; rfl
      clear hps
      obtain ⟨ar, har⟩ : ∃ ar, arm % 30 = ar := ⟨_, rfl⟩
      have ra : ((arm : Int).tmod 30) = (ar : Int) := by rw [← har]; rfl
      have wa : IntKind.i64.wrap (ar : Int) = (ar : Int) := wrapI _ (by omega) (by omega)
      obtain ⟨gg, hgg⟩ : ∃ gg, ag % 12 = gg := ⟨_, rfl⟩
      have rg : ((ag : Int).tmod 12) = (gg : Int) := by rw [← hgg]; rfl
      have wg : IntKind.i64.wrap (gg : Int) = (gg : Int) := wrapI _ (by omega) (by omega)
      obtain ⟨okd, hcr⟩ := commit_all (a := ar) hcM hpB hMM (by omega)
      obtain ⟨L', hc', hk, hor⟩ := hcr keep
      cases hcm : commitD (dk M ar) 8 qB with
      | mk d1 c1 =>
      rw [hcm] at okd hk hor
      have f7c := G7 hcM (by omega : ar ≤ 1000) hpB hcm
      obtain ⟨ld, wd, ad, dd⟩ := d1
      have f3 : G 3 [pRow encS ld, pRow encP wd, pI (ad : Int), pB dd, pRow encI keep] = some [pRow encS L', pRow encP [], pI 0, pB false] := G3 okd hk
      obtain ⟨ok2, hc2⟩ := mend_crash hc' (a := gg) (by omega)
      obtain ⟨L2, hcL2, hk2, hm2⟩ := hc2 more
      cases hmd : mendD (dk L' gg) 8 with
      | mk d2 c2 =>
      rw [hmd] at ok2 hk2
      have f8a := G8 hc' (by omega : gg ≤ 1000) hmd
      obtain ⟨le, we, ae, de⟩ := d2
      have f3b : G 3 [pRow encS le, pRow encP we, pI (ae : Int), pB de, pRow encI more] = some [pRow encS L2, pRow encP [], pI 0, pB false] := G3 ok2 hk2
      have f8b := G8f hcL2
      have hcU := mended_calm hcL2
      rw [← hm2] at hor
      generalize mended L2 = U at *
      have hG1 : Same8 U (setAll M qB) → O8 U = setAll OL qB := fun h => o8_ext (by rw [setAll_len, hOl]) fun i hi => by rw [h i hi, hOs qB i hi]
      have hG2 : Same8 U M → O8 U = OL := fun h => o8_ext hOl fun i hi => by rw [h i hi, hOa i hi]
      have f4a : G 4 [PV.row 8 [pS (U.getD 0 e0), pS (U.getD 1 e0), pS (U.getD 2 e0), pS (U.getD 3 e0), pS (U.getD 4 e0), pS (U.getD 5 e0), pS (U.getD 6 e0), pS (U.getD 7 e0)], pRow encS (setAll OL qB)] = some [pB (decide (O8 U = setAll OL qB))] := G4 (xs := O8 U) (by rw [o8_len]; omega) (by rw [setAll_len, hOl]; omega)
      have f4b : G 4 [PV.row 8 [pS (U.getD 0 e0), pS (U.getD 1 e0), pS (U.getD 2 e0), pS (U.getD 3 e0), pS (U.getD 4 e0), pS (U.getD 5 e0), pS (U.getD 6 e0), pS (U.getD 7 e0)], pRow encS OL] = some [pB (decide (O8 U = OL))] := G4 (xs := O8 U) (by rw [o8_len]; omega) (by rw [hOl]; omega)
      have v0 : G 2 [pRow encS U, pRow encP [], pI 0, pB false, pI 0] = some [pS (U.getD 0 e0), pB true] := G20 (i := 0) hcU (by omega)
      have v1 : G 2 [pRow encS U, pRow encP [], pI 0, pB false, pI 1] = some [pS (U.getD 1 e0), pB true] := G20 (i := 1) hcU (by omega)
      have v2 : G 2 [pRow encS U, pRow encP [], pI 0, pB false, pI 2] = some [pS (U.getD 2 e0), pB true] := G20 (i := 2) hcU (by omega)
      have v3 : G 2 [pRow encS U, pRow encP [], pI 0, pB false, pI 3] = some [pS (U.getD 3 e0), pB true] := G20 (i := 3) hcU (by omega)
      have v4 : G 2 [pRow encS U, pRow encP [], pI 0, pB false, pI 4] = some [pS (U.getD 4 e0), pB true] := G20 (i := 4) hcU (by omega)
      have v5 : G 2 [pRow encS U, pRow encP [], pI 0, pB false, pI 5] = some [pS (U.getD 5 e0), pB true] := G20 (i := 5) hcU (by omega)
      have v6 : G 2 [pRow encS U, pRow encP [], pI 0, pB false, pI 6] = some [pS (U.getD 6 e0), pB true] := G20 (i := 6) hcU (by omega)
      have v7 : G 2 [pRow encS U, pRow encP [], pI 0, pB false, pI 7] = some [pS (U.getD 7 e0), pB true] := G20 (i := 7) hcU (by omega)
      have hWl : (setAll OL qB).length = 8 := by rw [setAll_len, hOl]
      simp only [dk] at f7c f8a
      have y10 : evs (fun i => qs2[i]?) G z10 = some [pRow encS ld, pRow encP wd, pI (ad : Int), pB dd, pRow encI keep] := by
        simp [z10, evs, SX.ev, f7c, binPV, convPV, ra, wa, t0, t1, t2, t3, t4, t5, t6, t7, t8, t9, t10, t11]
      have y11 : evs (fun i => qs2[i]?) G z11 = some [pRow encS L', pRow encP [], pI (gg : Int), pB false, pI 8] := by
        simp [z11, evs, SX.ev, y10, f3, binPV, convPV, rg, wg, t0, t1, t2, t3, t4, t5, t6, t7, t8, t9, t10, t11]
      have y12 : evs (fun i => qs2[i]?) G z12 = some [pRow encS le, pRow encP we, pI (ae : Int), pB de, pRow encI more] := by
        simp [z12, evs, SX.ev, y11, f8a, t0, t1, t2, t3, t4, t5, t6, t7, t8, t9, t10, t11]
      have y13 : evs (fun i => qs2[i]?) G z13 = some [pRow encS L2, pRow encP [], pI 0, pB false, pI 8] := by
        simp [z13, evs, SX.ev, y12, f3b]
      have y14 : evs (fun i => qs2[i]?) G z14 = some [pRow encS U, pRow encP [], pI 0, pB false, pI 0] := by
        simp [z14, evs, SX.ev, y13, f8b]
      have y15 : evs (fun i => qs2[i]?) G z15 = some [pRow encS U, pRow encP [], pI 0, pB false, pI 1] := by
        simp [z15, evs, SX.ev, y13, f8b]
      have y16 : evs (fun i => qs2[i]?) G z16 = some [pRow encS U, pRow encP [], pI 0, pB false, pI 2] := by
        simp [z16, evs, SX.ev, y13, f8b]
      have y17 : evs (fun i => qs2[i]?) G z17 = some [pRow encS U, pRow encP [], pI 0, pB false, pI 3] := by
        simp [z17, evs, SX.ev, y13, f8b]
      have y18 : evs (fun i => qs2[i]?) G z18 = some [pRow encS U, pRow encP [], pI 0, pB false, pI 4] := by
        simp [z18, evs, SX.ev, y13, f8b]
      have y19 : evs (fun i => qs2[i]?) G z19 = some [pRow encS U, pRow encP [], pI 0, pB false, pI 5] := by
        simp [z19, evs, SX.ev, y13, f8b]
      have y20 : evs (fun i => qs2[i]?) G z20 = some [pRow encS U, pRow encP [], pI 0, pB false, pI 6] := by
        simp [z20, evs, SX.ev, y13, f8b]
      have y21 : evs (fun i => qs2[i]?) G z21 = some [pRow encS U, pRow encP [], pI 0, pB false, pI 7] := by
        simp [z21, evs, SX.ev, y13, f8b]
      obtain ⟨GL, hGL⟩ : ∃ GL, O8 U = GL := ⟨_, rfl⟩
      rw [hGL] at f4a f4b hG1 hG2
      clear hGL
      generalize U.getD 0 e0 = w0 at *
      generalize U.getD 1 e0 = w1 at *
      generalize U.getD 2 e0 = w2 at *
      generalize U.getD 3 e0 = w3 at *
      generalize U.getD 4 e0 = w4 at *
      generalize U.getD 5 e0 = w5 at *
      generalize U.getD 6 e0 = w6 at *
      generalize U.getD 7 e0 = w7 at *
      generalize setAll OL qB = WL at *
      have y22 : evs (fun i => qs2[i]?) G z22 = some [PV.row 8 [pS w0, pS w1, pS w2, pS w3, pS w4, pS w5, pS w6, pS w7], pRow encS WL] := by
        simp [z22, evs, SX.ev, y14, y15, y16, y17, y18, y19, y20, y21, v0, v1, v2, v3, v4, v5, v6, v7, r_catR, t0, t1, t2, t3, t4, t5, t6, t7, t8, t9, t10, t11]
      have y23 : evs (fun i => qs2[i]?) G z23 = some [PV.row 8 [pS w0, pS w1, pS w2, pS w3, pS w4, pS w5, pS w6, pS w7], pRow encS OL] := by
        simp [z23, evs, SX.ev, y14, y15, y16, y17, y18, y19, y20, y21, v0, v1, v2, v3, v4, v5, v6, v7, r_catR, t0, t1, t2, t3, t4, t5, t6, t7, t8, t9, t10, t11]
      cases c1 with
      | true =>
        have e : GL = WL := by
          rcases hor with h | ⟨h, _⟩
          · exact hG1 h
          · cases h
        simp only [e, decide_true] at f4a
        refine seg_ok eng.names_ok eng.mixed_ok (orcFn_ok _) po1 h1 ?_ (fun qs a1 w1 hq h1 => fin qs a1 w1 (by simp [evs, SX.ev] at hq; exact hq.symm) h1)
        simp only [List.mem_cons, List.not_mem_nil, or_false, forall_eq_or_imp, forall_eq]
        simp [holds_idxP, holds_cellsP, Base.ev, SX.ev, evs, Value.oneCell', hF, lenPV_row, lenPV_r, binPV, convPV, ra, wa, rg, wg, f7c, u7, y10, f3, u3, y11, f8a, u8, y12, f3b, y13, f8b, y14, y15, y16, y17, y18, y19, y20, y21, v0, v1, v2, v3, v4, v5, v6, v7, u2, y22, y23, f4a, f4b, u4, r_catR, hWl, hOl, exK2, exT2, exK3, exT3, exK4, exT4, exK5, exT5, exK6, exT6, exK7, exT7, exK8, exT8, t0, t1, t2, t3, t4, t5, t6, t7, t8, t9, t10, t11]
      | false =>
        by_cases e : GL = WL
        · simp only [e, decide_true] at f4a
          refine seg_ok eng.names_ok eng.mixed_ok (orcFn_ok _) po01 h1 ?_ (fun qs a1 w1 hq h1 => fin qs a1 w1 (by simp [evs, SX.ev] at hq; exact hq.symm) h1)
          simp only [List.mem_cons, List.not_mem_nil, or_false, forall_eq_or_imp, forall_eq]
          simp [holds_idxP, holds_cellsP, Base.ev, SX.ev, evs, Value.oneCell', hF, lenPV_row, lenPV_r, binPV, convPV, ra, wa, rg, wg, f7c, u7, y10, f3, u3, y11, f8a, u8, y12, f3b, y13, f8b, y14, y15, y16, y17, y18, y19, y20, y21, v0, v1, v2, v3, v4, v5, v6, v7, u2, y22, y23, f4a, f4b, u4, r_catR, hWl, hOl, exK2, exT2, exK3, exT3, exK4, exT4, exK5, exT5, exK6, exT6, exK7, exT7, exK8, exT8, t0, t1, t2, t3, t4, t5, t6, t7, t8, t9, t10, t11]
        · have e2 : GL = OL := by
            rcases hor with h | ⟨_, h⟩
            · exact absurd (hG1 h) e
            · exact hG2 h
          simp only [e, decide_false] at f4a
          simp only [e2, decide_true] at f4b
          refine seg_ok eng.names_ok eng.mixed_ok (orcFn_ok _) po00 h1 ?_ (fun qs a1 w1 hq h1 => fin qs a1 w1 (by simp [evs, SX.ev] at hq; exact hq.symm) h1)
          simp only [List.mem_cons, List.not_mem_nil, or_false, forall_eq_or_imp, forall_eq]
          simp [holds_idxP, holds_cellsP, Base.ev, SX.ev, evs, Value.oneCell', hF, lenPV_row, lenPV_r, binPV, convPV, ra, wa, rg, wg, f7c, u7, y10, f3, u3, y11, f8a, u8, y12, f3b, y13, f8b, y14, y15, y16, y17, y18, y19, y20, y21, v0, v1, v2, v3, v4, v5, v6, v7, u2, y22, y23, f4a, f4b, u4, r_catR, hWl, hOl, exK2, exT2, exK3, exT3, exK4, exT4, exK5, exT5, exK6, exT6, exK7, exT7, exK8, exT8, t0, t1, t2, t3, t4, t5, t6, t7, t8, t9, t10, t11]
    have inv0 : ∀ a1 w1, InShape C shWl (stW arm ag keep more qB M OL 0 OL) a1 w1 → wpL Try.prog (.block (blockId (nth flW 14)) (.loop (loopBody (nth flW 14))) :: flW.drop 15) (fun e a' w' => (e = .normal ∨ e = .ret) ∧ ∃ sh' ps' es, InShape C sh' ps' a' w' ∧ resTo Try.prog Try.f3 sh' (ELaw k0) = some es ∧ evs (fun i => ps'[i]?) G es = some [pB true]) a1 w1 := by
      intro a1 w1 h1
      refine block_loop (fun m a w => ∃ i : Nat, i ≤ qB.length ∧ m = qB.length - i ∧ InShape C shWl (stW arm ag keep more qB M OL i (setAll OL (qB.take i))) a w) ?_ (n := qB.length) ⟨0, by omega, by omega, h1⟩
      rintro m a w ⟨i, hi, rfl, hin⟩
      show wpL Try.prog lpW _ a w
      rw [← List.append_nil lpW]
      by_cases hlt : i < qB.length
      · obtain ⟨c0, c1⟩ := cellP qB i hlt
        have x8 := hlt8 i hlt
        have v3 : IntKind.i64.wrap ((i : Int) + 1) = (i : Int) + 1 := wrapI _ (by omega) (by omega)
        have i1 := idxP_row encP qB i 2 1 .i64 rfl hlt (by decide)
        have i2 := idxP_row encP qB i 2 2 .i64 rfl hlt (by decide)
        have hWl : (setAll OL (qB.take i)).length = 8 := by rw [setAll_len, hOl]
        have hst : setAll OL (qB.take (i + 1)) = (setAll OL (qB.take i)).set qB[i].1 qB[i].2 := by
          rw [List.take_add_one, List.getElem?_eq_getElem hlt, Option.toList_some, setAll_app]; rfl
        have again : ∀ qs a1 w1, qs = stW arm ag keep more qB M OL (i + 1) ((setAll OL (qB.take i)).set qB[i].1 qB[i].2) → InShape C shWl qs a1 w1 → ∃ n', n' < qB.length - i ∧ ∃ j : Nat, j ≤ qB.length ∧ n' = qB.length - j ∧ InShape C shWl (stW arm ag keep more qB M OL j (setAll OL (qB.take j))) a1 w1 := by
          rintro qs a1 w1 rfl h
          rw [← hst] at h
          exact ⟨qB.length - (i + 1), by omega, i + 1, by omega, rfl, h⟩
        clear hst
        generalize setAll OL (qB.take i) = W at *
        have ru := r_updS W qB[i].1 qB[i].2 (by omega)
        have ix := idxP_row encS W qB[i].1 1 1 .i64 rfl (by omega) (by decide)
        have hsl : (W.set qB[i].1 qB[i].2).length = 8 := by rw [List.length_set, hWl]
        generalize qB[i].1 = x1 at *
        generalize qB[i].2 = x2 at *
        refine seg_ok eng.names_ok eng.mixed_ok (orcFn_ok _) on hin ?_ (fun qs a1 w1 hq h1 => ⟨fun _ => .inl ⟨rfl, again qs a1 w1 (by simp [evs, SX.ev, binPV, v3, c0, c1, ru] at hq; subst hq; rfl) h1⟩, fun h => absurd rfl h⟩)
        simp only [List.mem_cons, List.not_mem_nil, or_false, forall_eq_or_imp, forall_eq]
        simp [holds_idxP, holds_cellsP, Base.ev, SX.ev, evs, Value.oneCell', hF, lenPV_row, binPV, v3, hlt, i1, i2, ix, c0, c1, ru, hWl, hsl, hOl, exT8]
        omega
      · obtain rfl : i = qB.length := by omega
        rw [List.take_of_length_le (Nat.le_refl _)] at hin
        refine seg_ok eng.names_ok eng.mixed_ok (orcFn_ok _) ex hin ?_ ?_
        · have hsl : (setAll OL qB).length = 8 := by rw [setAll_len, hOl]
          simp only [List.mem_cons, List.not_mem_nil, or_false, forall_eq_or_imp, forall_eq]
          simp [holds_idxP, holds_cellsP, Base.ev, SX.ev, evs, Value.oneCell', lenPV_row, binPV, hsl, hOl, exT8]
        intro qs a1 w1 hq h1
        refine ⟨fun h => (by cases h), fun _ => .inr (.inl ⟨by rw [show blockId (nth flW 14) = 2 by kernel_rfl]; rfl, ?_⟩)⟩
        simp [evs, SX.ev] at hq
        subst hq
        rw [← List.append_nil (flW.drop 15)]
        exact post0 _ _ h1
    refine seg_ok eng.names_ok eng.mixed_ok (orcFn_ok _) pre hsh ?_ ?_
    · simp only [List.mem_cons, List.not_mem_nil, or_false, forall_eq_or_imp, forall_eq]
      simp [holds_idxP, holds_cellsP, Base.ev, SX.ev, evs, Value.oneCell', hF, lenPV_row, lenPV_r, binPV, hl1, hl2, G5, u5, G1, u1, f6a, f6b, u6, g1, g2, g3, g4, g5, g6, g7, g8, g9, f7, u7, r0, r1, r2, r3, r4, r5, r6, r7, u2, r_catR, exK2, exT2, exK3, exT3, exK4, exT4, exK5, exT5, exK6, exT6, exK7, exT7, exK8, exT8, s0, s1, s2, s3, s4, s5, s6, s7, s8, s9, s10, s11, s12, s13, s14, s15, s16, s17, s18, s19]
      omega
    · intro qs a1 w1 hq h1
      refine ⟨fun _ => inv0 a1 w1 ?_, fun h => absurd rfl h⟩
      simp [evs, SX.ev, hF, f6b, g1, g2, g3, g4, g5, g6, g7, g8, g9, f7, r0, r1, r2, r3, r4, r5, r6, r7, r_catR, s0, s1, s2, s3, s4, s5, s6, s7, s8, s9, s10, s11, s12, s13, s14, s15, s16, s17, s18, s19] at hq
      simp only [List.getD_eq_getElem?_getD] at hrow
      rw [hrow] at hq
      subst hq
      exact h1
theorem walk (w : World) (z0 : List Int) (n0 : z0.length = 8) (w0 : ∀ z ∈ z0, (Lit.int .u8 z).wf = true) (z1 : List Int) (n1 : z1.length = 8) (w1 : ∀ z ∈ z1, (Lit.int .u8 z).wf = true) (x2 : Int) (w2 : (Lit.int .u8 x2).wf = true) (x3 : Int) (w3 : (Lit.int .u8 x3).wf = true) (v4 : Value) (len4 : Nat) (Z4 : Nat → Int) (w4 : IsRow .i64 w v4 len4 Z4) (v5 : Value) (len5 : Nat) (Z5 : Nat → Int) (w5 : IsRow .i64 w v5 len5 Z5) :
    Calls Try.prog 3 #[.agg (z0.map (Value.int .u8)).toArray, .agg (z1.map (Value.int .u8)).toArray, .int .u8 x2, .int .u8 x3, v4, v5] w fun e w' => e = .returned (.bool true) ∧ Ex w w' := by
  obtain ⟨A, hA, hAb, rfl⟩ := nats8 n0 w0
  obtain ⟨B, hB, hBb, rfl⟩ := nats8 n1 w1
  obtain ⟨keep, hk⟩ := rowI w4
  obtain ⟨more, hm⟩ := rowI w5
  have hb2 := bounds_u8 w2
  have hb3 := bounds_u8 w3
  obtain ⟨arm, rfl⟩ : ∃ n : Nat, x2 = (n : Int) := ⟨x2.toNat, by omega⟩
  obtain ⟨ag, rfl⟩ : ∃ n : Nat, x3 = (n : Int) := ⟨x3.toNat, by omega⟩
  have hsp : spec RL (lu A ++ (lu B ++ [pU (arm : Int), pU (ag : Int), pRow encI keep, pRow encI more])) = some [pB true] := spec_of fL ⟨A, B, arm, ag, keep, more, hA, hB, hAb, hBb, by omega, by omega, rfl, rfl⟩
  obtain ⟨a0, a1, a2, a3, a4, a5, a6, a7, rfl⟩ := len8 hA
  obtain ⟨b0, b1, b2, b3, b4, b5, b6, b7, rfl⟩ := len8 hB
  refine told_true (told 0) rfl (us := [.int .u8 (a0 : Int), .int .u8 (a1 : Int), .int .u8 (a2 : Int), .int .u8 (a3 : Int), .int .u8 (a4 : Int), .int .u8 (a5 : Int), .int .u8 (a6 : Int), .int .u8 (a7 : Int), .int .u8 (b0 : Int), .int .u8 (b1 : Int), .int .u8 (b2 : Int), .int .u8 (b3 : Int), .int .u8 (b4 : Int), .int .u8 (b5 : Int), .int .u8 (b6 : Int), .int .u8 (b7 : Int), .int .u8 (arm : Int), .int .u8 (ag : Int), v4, v5]) hsp rfl rfl (fun i p u hp hu => ?_)
  match i, hp, hu with
  | 0, hp, hu => simp [lu] at hp hu; subst hp; subst hu; exact plainReads rfl
  | 1, hp, hu => simp [lu] at hp hu; subst hp; subst hu; exact plainReads rfl
  | 2, hp, hu => simp [lu] at hp hu; subst hp; subst hu; exact plainReads rfl
  | 3, hp, hu => simp [lu] at hp hu; subst hp; subst hu; exact plainReads rfl
  | 4, hp, hu => simp [lu] at hp hu; subst hp; subst hu; exact plainReads rfl
  | 5, hp, hu => simp [lu] at hp hu; subst hp; subst hu; exact plainReads rfl
  | 6, hp, hu => simp [lu] at hp hu; subst hp; subst hu; exact plainReads rfl
  | 7, hp, hu => simp [lu] at hp hu; subst hp; subst hu; exact plainReads rfl
  | 8, hp, hu => simp [lu] at hp hu; subst hp; subst hu; exact plainReads rfl
  | 9, hp, hu => simp [lu] at hp hu; subst hp; subst hu; exact plainReads rfl
  | 10, hp, hu => simp [lu] at hp hu; subst hp; subst hu; exact plainReads rfl
  | 11, hp, hu => simp [lu] at hp hu; subst hp; subst hu; exact plainReads rfl
  | 12, hp, hu => simp [lu] at hp hu; subst hp; subst hu; exact plainReads rfl
  | 13, hp, hu => simp [lu] at hp hu; subst hp; subst hu; exact plainReads rfl
  | 14, hp, hu => simp [lu] at hp hu; subst hp; subst hu; exact plainReads rfl
  | 15, hp, hu => simp [lu] at hp hu; subst hp; subst hu; exact plainReads rfl
  | 16, hp, hu => simp [lu] at hp hu; subst hp; subst hu; exact plainReads rfl
  | 17, hp, hu => simp [lu] at hp hu; subst hp; subst hu; exact plainReads rfl
  | 18, hp, hu => simp [lu] at hp hu; subst hp; subst hu; exact hk
  | 19, hp, hu => simp [lu] at hp hu; subst hp; subst hu; exact hm
  | i + 20, hp, hu => simp [lu] at hp
end Go.Proofs.Ytegfdigljpnhcaa.jrnlWhole
