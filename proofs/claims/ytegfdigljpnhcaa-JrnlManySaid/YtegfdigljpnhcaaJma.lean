/- JrnlMany by the symbolic engine. -/
import Derived.Test.YtegfdigljpnhcaaJlc
namespace Go.Proofs.Ytegfdigljpnhcaa.jrnlMany
open Go Go.RowKit eng SX Fact dsk jlb jlc
open jhd
open jcm (dkbox)
open jco (EMd ECm)
open jmt hiding Pt Calm
open fil
open rdk hiding dbox
open symD hiding pRow_inj
set_option linter.unusedVariables false
set_option linter.unusedSimpArgs false
set_option maxRecDepth 1000000

noncomputable def flM := flat (bodyOf Try.prog 6)
noncomputable def lpO := flat (loopBody (nth flM 8))
def nN (k : Nat) : List (Option Bool) := List.replicate k none
def lvs (k : Nat) : List Pt := List.replicate k .leaf
def lbox : BoxT := ⟨44, 0, false, lvs 40, none, false⟩
def wbox : BoxT := ⟨45, 0, false, lvs 8, none, false⟩
def dkN : List (Option Bool) := [some true, some true, none, none]
noncomputable def lpB := flat (blockBody (nth lpO 2))
noncomputable def lpI := flat (loopBody (nth lpB 5))
def shM : Shape := ⟨[(0, .agg 40)], [], nN 40, 108, 6⟩
def shE : Shape := ⟨[], [], [], 108, 6⟩
def shO : Shape := ⟨[(1, .ptr 0 0 0 0), (3, .ptr 1 0 0 0), (4, .ptr 2 0 0 0), (6, .leaf)], [lbox, dkbox, wbox], [none] ++ nN 40 ++ dkN ++ nN 8, 108, 6⟩
def shI : Shape := ⟨[(1, .ptr 0 0 0 0), (3, .ptr 1 0 0 0), (4, .ptr 2 0 0 0), (6, .leaf), (7, .leaf), (8, .ptr 3 0 0 0), (10, .leaf)], [lbox, dkbox, wbox, dkbox], [none, some true, none] ++ nN 40 ++ dkN ++ nN 8 ++ dkN, 108, 6⟩
def shMR : Shape := ⟨[(2, .leaf)], [], [none], 108, 6⟩
theorem pre : segTo Try.prog (orcFn tabT) 100000 (flM.take 8) shM [1] shO [(0, 0), (3, 0), (4, 0)] = some (.normal, [.fn 10 (ETrue 5) [], .is (.fn 5 [] 0) (.bool true), .fn 12 (ENew 1) [.con (.int .i64 17)], .ok (.fn 1 [.con (.int .i64 17)] 2), .ok (.fn 1 [.con (.int .i64 17)] 3), .ok (.con (.int .i64 0)), .ok (.var 0), .ok (.var 1), .ok (.var 2), .ok (.var 3), .ok (.var 4), .ok (.var 5), .ok (.var 6), .ok (.var 7), .ok (.var 8), .ok (.var 9), .ok (.var 10), .ok (.var 11), .ok (.var 12), .ok (.var 13), .ok (.var 14), .ok (.var 15), .ok (.var 16), .ok (.var 17), .ok (.var 18), .ok (.var 19), .ok (.var 20), .ok (.var 21), .ok (.var 22), .ok (.var 23), .ok (.var 24), .ok (.var 25), .ok (.var 26), .ok (.var 27), .ok (.var 28), .ok (.var 29), .ok (.var 30), .ok (.var 31), .ok (.var 32), .ok (.var 33), .ok (.var 34), .ok (.var 35), .ok (.var 36), .ok (.var 37), .ok (.var 38), .ok (.var 39), .ok (.fn 1 [.con (.int .i64 17)] 2), .ok (.fn 1 [.con (.int .i64 17)] 3), .ok (.con ((Value.string dsk.noughts))), .ok (.con ((Value.string dsk.noughts))), .ok (.con ((Value.string dsk.noughts))), .ok (.con ((Value.string dsk.noughts))), .ok (.con ((Value.string dsk.noughts))), .ok (.con ((Value.string dsk.noughts))), .ok (.con ((Value.string dsk.noughts))), .ok (.con ((Value.string dsk.noughts)))], [.con (.int .i64 0), .var 0, .var 1, .var 2, .var 3, .var 4, .var 5, .var 6, .var 7, .var 8, .var 9, .var 10, .var 11, .var 12, .var 13, .var 14, .var 15, .var 16, .var 17, .var 18, .var 19, .var 20, .var 21, .var 22, .var 23, .var 24, .var 25, .var 26, .var 27, .var 28, .var 29, .var 30, .var 31, .var 32, .var 33, .var 34, .var 35, .var 36, .var 37, .var 38, .var 39, .fn 1 [.con (.int .i64 17)] 0, .fn 1 [.con (.int .i64 17)] 1, .fn 1 [.con (.int .i64 17)] 2, .fn 1 [.con (.int .i64 17)] 3, .con ((Value.string dsk.noughts)), .con ((Value.string dsk.noughts)), .con ((Value.string dsk.noughts)), .con ((Value.string dsk.noughts)), .con ((Value.string dsk.noughts)), .con ((Value.string dsk.noughts)), .con ((Value.string dsk.noughts)), .con ((Value.string dsk.noughts))]) := by kernel_rfl
theorem oex : segTo Try.prog (orcFn tabT) 10000 lpO shO [0] shO [(0, 0), (1, 0), (2, 0)] = some (.exit 2, [.ok (.bin .lss (.var 0) (.con (.int .i64 5))), .is (.bin .lss (.var 0) (.con (.int .i64 5))) (.bool false), .ok (.var 0), .ok (.var 1), .ok (.var 2), .ok (.var 3), .ok (.var 4), .ok (.var 5), .ok (.var 6), .ok (.var 7), .ok (.var 8), .ok (.var 9), .ok (.var 10), .ok (.var 11), .ok (.var 12), .ok (.var 13), .ok (.var 14), .ok (.var 15), .ok (.var 16), .ok (.var 17), .ok (.var 18), .ok (.var 19), .ok (.var 20), .ok (.var 21), .ok (.var 22), .ok (.var 23), .ok (.var 24), .ok (.var 25), .ok (.var 26), .ok (.var 27), .ok (.var 28), .ok (.var 29), .ok (.var 30), .ok (.var 31), .ok (.var 32), .ok (.var 33), .ok (.var 34), .ok (.var 35), .ok (.var 36), .ok (.var 37), .ok (.var 38), .ok (.var 39), .ok (.var 40), .ok (.var 43), .ok (.var 44), .ok (.var 45), .ok (.var 46), .ok (.var 47), .ok (.var 48), .ok (.var 49), .ok (.var 50), .ok (.var 51), .ok (.var 52)], [.var 0, .var 1, .var 2, .var 3, .var 4, .var 5, .var 6, .var 7, .var 8, .var 9, .var 10, .var 11, .var 12, .var 13, .var 14, .var 15, .var 16, .var 17, .var 18, .var 19, .var 20, .var 21, .var 22, .var 23, .var 24, .var 25, .var 26, .var 27, .var 28, .var 29, .var 30, .var 31, .var 32, .var 33, .var 34, .var 35, .var 36, .var 37, .var 38, .var 39, .var 40, .var 41, .var 42, .var 43, .var 44, .var 45, .var 46, .var 47, .var 48, .var 49, .var 50, .var 51, .var 52]) := by kernel_rfl
theorem oin : segTo Try.prog (orcFn tabT) 10000 (lpO.take 2) shO [1] shO [(0, 0), (1, 0), (2, 0)] = some (.normal, [.ok (.bin .lss (.var 0) (.con (.int .i64 5))), .is (.bin .lss (.var 0) (.con (.int .i64 5))) (.bool true), .ok (.var 0), .ok (.var 1), .ok (.var 2), .ok (.var 3), .ok (.var 4), .ok (.var 5), .ok (.var 6), .ok (.var 7), .ok (.var 8), .ok (.var 9), .ok (.var 10), .ok (.var 11), .ok (.var 12), .ok (.var 13), .ok (.var 14), .ok (.var 15), .ok (.var 16), .ok (.var 17), .ok (.var 18), .ok (.var 19), .ok (.var 20), .ok (.var 21), .ok (.var 22), .ok (.var 23), .ok (.var 24), .ok (.var 25), .ok (.var 26), .ok (.var 27), .ok (.var 28), .ok (.var 29), .ok (.var 30), .ok (.var 31), .ok (.var 32), .ok (.var 33), .ok (.var 34), .ok (.var 35), .ok (.var 36), .ok (.var 37), .ok (.var 38), .ok (.var 39), .ok (.var 40), .ok (.var 43), .ok (.var 44), .ok (.var 45), .ok (.var 46), .ok (.var 47), .ok (.var 48), .ok (.var 49), .ok (.var 50), .ok (.var 51), .ok (.var 52)], [.var 0, .var 1, .var 2, .var 3, .var 4, .var 5, .var 6, .var 7, .var 8, .var 9, .var 10, .var 11, .var 12, .var 13, .var 14, .var 15, .var 16, .var 17, .var 18, .var 19, .var 20, .var 21, .var 22, .var 23, .var 24, .var 25, .var 26, .var 27, .var 28, .var 29, .var 30, .var 31, .var 32, .var 33, .var 34, .var 35, .var 36, .var 37, .var 38, .var 39, .var 40, .var 41, .var 42, .var 43, .var 44, .var 45, .var 46, .var 47, .var 48, .var 49, .var 50, .var 51, .var 52]) := by kernel_rfl
def z1 : List SX := [.var 41, .var 42, .var 43, .var 44, .con (.int .i64 8), .fn 6 [.lit 8 [.var 1, .var 2, .var 3, .var 4, .var 5, .var 6, .var 7, .var 8], .con (.int .i64 8)] 0]
theorem b0 : segTo Try.prog (orcFn tabT) 10000 (lpB.take 5) shO [0, 1] shI [(0, 0), (1, 0), (2, 0), (8, 0)] = some (.normal, [Fact.at (.var 0) 0, .fn 13 (EPt 6) [.lit 8 [.var 1, .var 2, .var 3, .var 4, .var 5, .var 6, .var 7, .var 8], .con (.int .i64 8)], .fn 11 (ECm 7) z1, .ok (.fn 7 z1 2), .ok (.fn 7 z1 3), .is (.fn 7 z1 4) (.bool true), .ok (.var 0), .ok (.con (.int .i64 0)), .ok (.var 1), .ok (.var 2), .ok (.var 3), .ok (.var 4), .ok (.var 5), .ok (.var 6), .ok (.var 7), .ok (.var 8), .ok (.var 9), .ok (.var 10), .ok (.var 11), .ok (.var 12), .ok (.var 13), .ok (.var 14), .ok (.var 15), .ok (.var 16), .ok (.var 17), .ok (.var 18), .ok (.var 19), .ok (.var 20), .ok (.var 21), .ok (.var 22), .ok (.var 23), .ok (.var 24), .ok (.var 25), .ok (.var 26), .ok (.var 27), .ok (.var 28), .ok (.var 29), .ok (.var 30), .ok (.var 31), .ok (.var 32), .ok (.var 33), .ok (.var 34), .ok (.var 35), .ok (.var 36), .ok (.var 37), .ok (.var 38), .ok (.var 39), .ok (.var 40), .ok (.var 43), .ok (.var 44), .ok (.var 45), .ok (.var 46), .ok (.var 47), .ok (.var 48), .ok (.var 49), .ok (.var 50), .ok (.var 51), .ok (.var 52), .ok (.fn 7 z1 2), .ok (.fn 7 z1 3)], [.var 0, .fn 6 [.lit 8 [.var 1, .var 2, .var 3, .var 4, .var 5, .var 6, .var 7, .var 8], .con (.int .i64 8)] 0, .con (.int .i64 0), .var 1, .var 2, .var 3, .var 4, .var 5, .var 6, .var 7, .var 8, .var 9, .var 10, .var 11, .var 12, .var 13, .var 14, .var 15, .var 16, .var 17, .var 18, .var 19, .var 20, .var 21, .var 22, .var 23, .var 24, .var 25, .var 26, .var 27, .var 28, .var 29, .var 30, .var 31, .var 32, .var 33, .var 34, .var 35, .var 36, .var 37, .var 38, .var 39, .var 40, .var 41, .var 42, .var 43, .var 44, .var 45, .var 46, .var 47, .var 48, .var 49, .var 50, .var 51, .var 52, .fn 7 z1 0, .fn 7 z1 1, .fn 7 z1 2, .fn 7 z1 3]) := by kernel_rfl
def z2 : List SX := [.var 41, .var 42, .var 43, .var 44, .con (.int .i64 8), .fn 6 [.lit 8 [.var 9, .var 10, .var 11, .var 12, .var 13, .var 14, .var 15, .var 16], .con (.int .i64 8)] 0]
theorem b1 : segTo Try.prog (orcFn tabT) 10000 (lpB.take 5) shO [1, 1] shI [(0, 0), (1, 0), (2, 0), (8, 0)] = some (.normal, [Fact.at (.var 0) 1, .fn 13 (EPt 6) [.lit 8 [.var 9, .var 10, .var 11, .var 12, .var 13, .var 14, .var 15, .var 16], .con (.int .i64 8)], .fn 11 (ECm 7) z2, .ok (.fn 7 z2 2), .ok (.fn 7 z2 3), .is (.fn 7 z2 4) (.bool true), .ok (.var 0), .ok (.con (.int .i64 0)), .ok (.var 1), .ok (.var 2), .ok (.var 3), .ok (.var 4), .ok (.var 5), .ok (.var 6), .ok (.var 7), .ok (.var 8), .ok (.var 9), .ok (.var 10), .ok (.var 11), .ok (.var 12), .ok (.var 13), .ok (.var 14), .ok (.var 15), .ok (.var 16), .ok (.var 17), .ok (.var 18), .ok (.var 19), .ok (.var 20), .ok (.var 21), .ok (.var 22), .ok (.var 23), .ok (.var 24), .ok (.var 25), .ok (.var 26), .ok (.var 27), .ok (.var 28), .ok (.var 29), .ok (.var 30), .ok (.var 31), .ok (.var 32), .ok (.var 33), .ok (.var 34), .ok (.var 35), .ok (.var 36), .ok (.var 37), .ok (.var 38), .ok (.var 39), .ok (.var 40), .ok (.var 43), .ok (.var 44), .ok (.var 45), .ok (.var 46), .ok (.var 47), .ok (.var 48), .ok (.var 49), .ok (.var 50), .ok (.var 51), .ok (.var 52), .ok (.fn 7 z2 2), .ok (.fn 7 z2 3)], [.var 0, .fn 6 [.lit 8 [.var 9, .var 10, .var 11, .var 12, .var 13, .var 14, .var 15, .var 16], .con (.int .i64 8)] 0, .con (.int .i64 0), .var 1, .var 2, .var 3, .var 4, .var 5, .var 6, .var 7, .var 8, .var 9, .var 10, .var 11, .var 12, .var 13, .var 14, .var 15, .var 16, .var 17, .var 18, .var 19, .var 20, .var 21, .var 22, .var 23, .var 24, .var 25, .var 26, .var 27, .var 28, .var 29, .var 30, .var 31, .var 32, .var 33, .var 34, .var 35, .var 36, .var 37, .var 38, .var 39, .var 40, .var 41, .var 42, .var 43, .var 44, .var 45, .var 46, .var 47, .var 48, .var 49, .var 50, .var 51, .var 52, .fn 7 z2 0, .fn 7 z2 1, .fn 7 z2 2, .fn 7 z2 3]) := by kernel_rfl
def z3 : List SX := [.var 41, .var 42, .var 43, .var 44, .con (.int .i64 8), .fn 6 [.lit 8 [.var 17, .var 18, .var 19, .var 20, .var 21, .var 22, .var 23, .var 24], .con (.int .i64 8)] 0]
theorem b2 : segTo Try.prog (orcFn tabT) 10000 (lpB.take 5) shO [2, 1] shI [(0, 0), (1, 0), (2, 0), (8, 0)] = some (.normal, [Fact.at (.var 0) 2, .fn 13 (EPt 6) [.lit 8 [.var 17, .var 18, .var 19, .var 20, .var 21, .var 22, .var 23, .var 24], .con (.int .i64 8)], .fn 11 (ECm 7) z3, .ok (.fn 7 z3 2), .ok (.fn 7 z3 3), .is (.fn 7 z3 4) (.bool true), .ok (.var 0), .ok (.con (.int .i64 0)), .ok (.var 1), .ok (.var 2), .ok (.var 3), .ok (.var 4), .ok (.var 5), .ok (.var 6), .ok (.var 7), .ok (.var 8), .ok (.var 9), .ok (.var 10), .ok (.var 11), .ok (.var 12), .ok (.var 13), .ok (.var 14), .ok (.var 15), .ok (.var 16), .ok (.var 17), .ok (.var 18), .ok (.var 19), .ok (.var 20), .ok (.var 21), .ok (.var 22), .ok (.var 23), .ok (.var 24), .ok (.var 25), .ok (.var 26), .ok (.var 27), .ok (.var 28), .ok (.var 29), .ok (.var 30), .ok (.var 31), .ok (.var 32), .ok (.var 33), .ok (.var 34), .ok (.var 35), .ok (.var 36), .ok (.var 37), .ok (.var 38), .ok (.var 39), .ok (.var 40), .ok (.var 43), .ok (.var 44), .ok (.var 45), .ok (.var 46), .ok (.var 47), .ok (.var 48), .ok (.var 49), .ok (.var 50), .ok (.var 51), .ok (.var 52), .ok (.fn 7 z3 2), .ok (.fn 7 z3 3)], [.var 0, .fn 6 [.lit 8 [.var 17, .var 18, .var 19, .var 20, .var 21, .var 22, .var 23, .var 24], .con (.int .i64 8)] 0, .con (.int .i64 0), .var 1, .var 2, .var 3, .var 4, .var 5, .var 6, .var 7, .var 8, .var 9, .var 10, .var 11, .var 12, .var 13, .var 14, .var 15, .var 16, .var 17, .var 18, .var 19, .var 20, .var 21, .var 22, .var 23, .var 24, .var 25, .var 26, .var 27, .var 28, .var 29, .var 30, .var 31, .var 32, .var 33, .var 34, .var 35, .var 36, .var 37, .var 38, .var 39, .var 40, .var 41, .var 42, .var 43, .var 44, .var 45, .var 46, .var 47, .var 48, .var 49, .var 50, .var 51, .var 52, .fn 7 z3 0, .fn 7 z3 1, .fn 7 z3 2, .fn 7 z3 3]) := by kernel_rfl
def z4 : List SX := [.var 41, .var 42, .var 43, .var 44, .con (.int .i64 8), .fn 6 [.lit 8 [.var 25, .var 26, .var 27, .var 28, .var 29, .var 30, .var 31, .var 32], .con (.int .i64 8)] 0]
theorem b3 : segTo Try.prog (orcFn tabT) 10000 (lpB.take 5) shO [3, 1] shI [(0, 0), (1, 0), (2, 0), (8, 0)] = some (.normal, [Fact.at (.var 0) 3, .fn 13 (EPt 6) [.lit 8 [.var 25, .var 26, .var 27, .var 28, .var 29, .var 30, .var 31, .var 32], .con (.int .i64 8)], .fn 11 (ECm 7) z4, .ok (.fn 7 z4 2), .ok (.fn 7 z4 3), .is (.fn 7 z4 4) (.bool true), .ok (.var 0), .ok (.con (.int .i64 0)), .ok (.var 1), .ok (.var 2), .ok (.var 3), .ok (.var 4), .ok (.var 5), .ok (.var 6), .ok (.var 7), .ok (.var 8), .ok (.var 9), .ok (.var 10), .ok (.var 11), .ok (.var 12), .ok (.var 13), .ok (.var 14), .ok (.var 15), .ok (.var 16), .ok (.var 17), .ok (.var 18), .ok (.var 19), .ok (.var 20), .ok (.var 21), .ok (.var 22), .ok (.var 23), .ok (.var 24), .ok (.var 25), .ok (.var 26), .ok (.var 27), .ok (.var 28), .ok (.var 29), .ok (.var 30), .ok (.var 31), .ok (.var 32), .ok (.var 33), .ok (.var 34), .ok (.var 35), .ok (.var 36), .ok (.var 37), .ok (.var 38), .ok (.var 39), .ok (.var 40), .ok (.var 43), .ok (.var 44), .ok (.var 45), .ok (.var 46), .ok (.var 47), .ok (.var 48), .ok (.var 49), .ok (.var 50), .ok (.var 51), .ok (.var 52), .ok (.fn 7 z4 2), .ok (.fn 7 z4 3)], [.var 0, .fn 6 [.lit 8 [.var 25, .var 26, .var 27, .var 28, .var 29, .var 30, .var 31, .var 32], .con (.int .i64 8)] 0, .con (.int .i64 0), .var 1, .var 2, .var 3, .var 4, .var 5, .var 6, .var 7, .var 8, .var 9, .var 10, .var 11, .var 12, .var 13, .var 14, .var 15, .var 16, .var 17, .var 18, .var 19, .var 20, .var 21, .var 22, .var 23, .var 24, .var 25, .var 26, .var 27, .var 28, .var 29, .var 30, .var 31, .var 32, .var 33, .var 34, .var 35, .var 36, .var 37, .var 38, .var 39, .var 40, .var 41, .var 42, .var 43, .var 44, .var 45, .var 46, .var 47, .var 48, .var 49, .var 50, .var 51, .var 52, .fn 7 z4 0, .fn 7 z4 1, .fn 7 z4 2, .fn 7 z4 3]) := by kernel_rfl
def z5 : List SX := [.var 41, .var 42, .var 43, .var 44, .con (.int .i64 8), .fn 6 [.lit 8 [.var 33, .var 34, .var 35, .var 36, .var 37, .var 38, .var 39, .var 40], .con (.int .i64 8)] 0]
theorem b4 : segTo Try.prog (orcFn tabT) 10000 (lpB.take 5) shO [4, 1] shI [(0, 0), (1, 0), (2, 0), (8, 0)] = some (.normal, [Fact.at (.var 0) 4, .fn 13 (EPt 6) [.lit 8 [.var 33, .var 34, .var 35, .var 36, .var 37, .var 38, .var 39, .var 40], .con (.int .i64 8)], .fn 11 (ECm 7) z5, .ok (.fn 7 z5 2), .ok (.fn 7 z5 3), .is (.fn 7 z5 4) (.bool true), .ok (.var 0), .ok (.con (.int .i64 0)), .ok (.var 1), .ok (.var 2), .ok (.var 3), .ok (.var 4), .ok (.var 5), .ok (.var 6), .ok (.var 7), .ok (.var 8), .ok (.var 9), .ok (.var 10), .ok (.var 11), .ok (.var 12), .ok (.var 13), .ok (.var 14), .ok (.var 15), .ok (.var 16), .ok (.var 17), .ok (.var 18), .ok (.var 19), .ok (.var 20), .ok (.var 21), .ok (.var 22), .ok (.var 23), .ok (.var 24), .ok (.var 25), .ok (.var 26), .ok (.var 27), .ok (.var 28), .ok (.var 29), .ok (.var 30), .ok (.var 31), .ok (.var 32), .ok (.var 33), .ok (.var 34), .ok (.var 35), .ok (.var 36), .ok (.var 37), .ok (.var 38), .ok (.var 39), .ok (.var 40), .ok (.var 43), .ok (.var 44), .ok (.var 45), .ok (.var 46), .ok (.var 47), .ok (.var 48), .ok (.var 49), .ok (.var 50), .ok (.var 51), .ok (.var 52), .ok (.fn 7 z5 2), .ok (.fn 7 z5 3)], [.var 0, .fn 6 [.lit 8 [.var 33, .var 34, .var 35, .var 36, .var 37, .var 38, .var 39, .var 40], .con (.int .i64 8)] 0, .con (.int .i64 0), .var 1, .var 2, .var 3, .var 4, .var 5, .var 6, .var 7, .var 8, .var 9, .var 10, .var 11, .var 12, .var 13, .var 14, .var 15, .var 16, .var 17, .var 18, .var 19, .var 20, .var 21, .var 22, .var 23, .var 24, .var 25, .var 26, .var 27, .var 28, .var 29, .var 30, .var 31, .var 32, .var 33, .var 34, .var 35, .var 36, .var 37, .var 38, .var 39, .var 40, .var 41, .var 42, .var 43, .var 44, .var 45, .var 46, .var 47, .var 48, .var 49, .var 50, .var 51, .var 52, .fn 7 z5 0, .fn 7 z5 1, .fn 7 z5 2, .fn 7 z5 3]) := by kernel_rfl
theorem iex : segTo Try.prog (orcFn tabT) 10000 lpI shI [0] shI [(0, 0), (1, 0), (2, 0), (3, 0)] = some (.exit 4, [.ok (.len (.var 1)), .ok (.bin .lss (.var 2) (.len (.var 1))), .is (.bin .lss (.var 2) (.len (.var 1))) (.bool false), .ok (.var 0), .ok (.var 2), .ok (.var 3), .ok (.var 4), .ok (.var 5), .ok (.var 6), .ok (.var 7), .ok (.var 8), .ok (.var 9), .ok (.var 10), .ok (.var 11), .ok (.var 12), .ok (.var 13), .ok (.var 14), .ok (.var 15), .ok (.var 16), .ok (.var 17), .ok (.var 18), .ok (.var 19), .ok (.var 20), .ok (.var 21), .ok (.var 22), .ok (.var 23), .ok (.var 24), .ok (.var 25), .ok (.var 26), .ok (.var 27), .ok (.var 28), .ok (.var 29), .ok (.var 30), .ok (.var 31), .ok (.var 32), .ok (.var 33), .ok (.var 34), .ok (.var 35), .ok (.var 36), .ok (.var 37), .ok (.var 38), .ok (.var 39), .ok (.var 40), .ok (.var 41), .ok (.var 42), .ok (.var 45), .ok (.var 46), .ok (.var 47), .ok (.var 48), .ok (.var 49), .ok (.var 50), .ok (.var 51), .ok (.var 52), .ok (.var 53), .ok (.var 54), .ok (.var 57), .ok (.var 58)], [.var 0, .var 1, .var 2, .var 3, .var 4, .var 5, .var 6, .var 7, .var 8, .var 9, .var 10, .var 11, .var 12, .var 13, .var 14, .var 15, .var 16, .var 17, .var 18, .var 19, .var 20, .var 21, .var 22, .var 23, .var 24, .var 25, .var 26, .var 27, .var 28, .var 29, .var 30, .var 31, .var 32, .var 33, .var 34, .var 35, .var 36, .var 37, .var 38, .var 39, .var 40, .var 41, .var 42, .var 43, .var 44, .var 45, .var 46, .var 47, .var 48, .var 49, .var 50, .var 51, .var 52, .var 53, .var 54, .var 55, .var 56, .var 57, .var 58]) := by kernel_rfl
theorem n0 : segTo Try.prog (orcFn tabT) 10000 lpI shI [1, 0] shI [(0, 0), (1, 0), (2, 0), (3, 0)] = some (.normal, [.ok (.len (.var 1)), .ok (.bin .lss (.var 2) (.len (.var 1))), .is (.bin .lss (.var 2) (.len (.var 1))) (.bool true), .idx (.var 1) (.var 2) 2 2, .idx (.var 1) (.var 2) 2 1, .ok (.cell (.var 1) (.var 2) 2 0), .idx (.var 1) (.var 2) 2 2, .idx (.var 1) (.var 2) 2 2, .ok (.cell (.var 1) (.var 2) 2 1), Fact.at (.cell (.var 1) (.var 2) 2 0) 0, .ok (.bin .add (.var 2) (.con (.int .i64 1))), .ok (.var 0), .ok (.bin .add (.var 2) (.con (.int .i64 1))), .ok (.var 3), .ok (.var 4), .ok (.var 5), .ok (.var 6), .ok (.var 7), .ok (.var 8), .ok (.var 9), .ok (.var 10), .ok (.var 11), .ok (.var 12), .ok (.var 13), .ok (.var 14), .ok (.var 15), .ok (.var 16), .ok (.var 17), .ok (.var 18), .ok (.var 19), .ok (.var 20), .ok (.var 21), .ok (.var 22), .ok (.var 23), .ok (.var 24), .ok (.var 25), .ok (.var 26), .ok (.var 27), .ok (.var 28), .ok (.var 29), .ok (.var 30), .ok (.var 31), .ok (.var 32), .ok (.var 33), .ok (.var 34), .ok (.var 35), .ok (.var 36), .ok (.var 37), .ok (.var 38), .ok (.var 39), .ok (.var 40), .ok (.var 41), .ok (.var 42), .ok (.var 45), .ok (.var 46), .ok (.cell (.var 1) (.var 2) 2 1), .ok (.var 48), .ok (.var 49), .ok (.var 50), .ok (.var 51), .ok (.var 52), .ok (.var 53), .ok (.var 54), .ok (.var 57), .ok (.var 58)], [.var 0, .var 1, .bin .add (.var 2) (.con (.int .i64 1)), .var 3, .var 4, .var 5, .var 6, .var 7, .var 8, .var 9, .var 10, .var 11, .var 12, .var 13, .var 14, .var 15, .var 16, .var 17, .var 18, .var 19, .var 20, .var 21, .var 22, .var 23, .var 24, .var 25, .var 26, .var 27, .var 28, .var 29, .var 30, .var 31, .var 32, .var 33, .var 34, .var 35, .var 36, .var 37, .var 38, .var 39, .var 40, .var 41, .var 42, .var 43, .var 44, .var 45, .var 46, .cell (.var 1) (.var 2) 2 1, .var 48, .var 49, .var 50, .var 51, .var 52, .var 53, .var 54, .var 55, .var 56, .var 57, .var 58]) := by kernel_rfl
theorem n1 : segTo Try.prog (orcFn tabT) 10000 lpI shI [1, 1] shI [(0, 0), (1, 0), (2, 0), (3, 0)] = some (.normal, [.ok (.len (.var 1)), .ok (.bin .lss (.var 2) (.len (.var 1))), .is (.bin .lss (.var 2) (.len (.var 1))) (.bool true), .idx (.var 1) (.var 2) 2 2, .idx (.var 1) (.var 2) 2 1, .ok (.cell (.var 1) (.var 2) 2 0), .idx (.var 1) (.var 2) 2 2, .idx (.var 1) (.var 2) 2 2, .ok (.cell (.var 1) (.var 2) 2 1), Fact.at (.cell (.var 1) (.var 2) 2 0) 1, .ok (.bin .add (.var 2) (.con (.int .i64 1))), .ok (.var 0), .ok (.bin .add (.var 2) (.con (.int .i64 1))), .ok (.var 3), .ok (.var 4), .ok (.var 5), .ok (.var 6), .ok (.var 7), .ok (.var 8), .ok (.var 9), .ok (.var 10), .ok (.var 11), .ok (.var 12), .ok (.var 13), .ok (.var 14), .ok (.var 15), .ok (.var 16), .ok (.var 17), .ok (.var 18), .ok (.var 19), .ok (.var 20), .ok (.var 21), .ok (.var 22), .ok (.var 23), .ok (.var 24), .ok (.var 25), .ok (.var 26), .ok (.var 27), .ok (.var 28), .ok (.var 29), .ok (.var 30), .ok (.var 31), .ok (.var 32), .ok (.var 33), .ok (.var 34), .ok (.var 35), .ok (.var 36), .ok (.var 37), .ok (.var 38), .ok (.var 39), .ok (.var 40), .ok (.var 41), .ok (.var 42), .ok (.var 45), .ok (.var 46), .ok (.var 47), .ok (.cell (.var 1) (.var 2) 2 1), .ok (.var 49), .ok (.var 50), .ok (.var 51), .ok (.var 52), .ok (.var 53), .ok (.var 54), .ok (.var 57), .ok (.var 58)], [.var 0, .var 1, .bin .add (.var 2) (.con (.int .i64 1)), .var 3, .var 4, .var 5, .var 6, .var 7, .var 8, .var 9, .var 10, .var 11, .var 12, .var 13, .var 14, .var 15, .var 16, .var 17, .var 18, .var 19, .var 20, .var 21, .var 22, .var 23, .var 24, .var 25, .var 26, .var 27, .var 28, .var 29, .var 30, .var 31, .var 32, .var 33, .var 34, .var 35, .var 36, .var 37, .var 38, .var 39, .var 40, .var 41, .var 42, .var 43, .var 44, .var 45, .var 46, .var 47, .cell (.var 1) (.var 2) 2 1, .var 49, .var 50, .var 51, .var 52, .var 53, .var 54, .var 55, .var 56, .var 57, .var 58]) := by kernel_rfl
theorem n2 : segTo Try.prog (orcFn tabT) 10000 lpI shI [1, 2] shI [(0, 0), (1, 0), (2, 0), (3, 0)] = some (.normal, [.ok (.len (.var 1)), .ok (.bin .lss (.var 2) (.len (.var 1))), .is (.bin .lss (.var 2) (.len (.var 1))) (.bool true), .idx (.var 1) (.var 2) 2 2, .idx (.var 1) (.var 2) 2 1, .ok (.cell (.var 1) (.var 2) 2 0), .idx (.var 1) (.var 2) 2 2, .idx (.var 1) (.var 2) 2 2, .ok (.cell (.var 1) (.var 2) 2 1), Fact.at (.cell (.var 1) (.var 2) 2 0) 2, .ok (.bin .add (.var 2) (.con (.int .i64 1))), .ok (.var 0), .ok (.bin .add (.var 2) (.con (.int .i64 1))), .ok (.var 3), .ok (.var 4), .ok (.var 5), .ok (.var 6), .ok (.var 7), .ok (.var 8), .ok (.var 9), .ok (.var 10), .ok (.var 11), .ok (.var 12), .ok (.var 13), .ok (.var 14), .ok (.var 15), .ok (.var 16), .ok (.var 17), .ok (.var 18), .ok (.var 19), .ok (.var 20), .ok (.var 21), .ok (.var 22), .ok (.var 23), .ok (.var 24), .ok (.var 25), .ok (.var 26), .ok (.var 27), .ok (.var 28), .ok (.var 29), .ok (.var 30), .ok (.var 31), .ok (.var 32), .ok (.var 33), .ok (.var 34), .ok (.var 35), .ok (.var 36), .ok (.var 37), .ok (.var 38), .ok (.var 39), .ok (.var 40), .ok (.var 41), .ok (.var 42), .ok (.var 45), .ok (.var 46), .ok (.var 47), .ok (.var 48), .ok (.cell (.var 1) (.var 2) 2 1), .ok (.var 50), .ok (.var 51), .ok (.var 52), .ok (.var 53), .ok (.var 54), .ok (.var 57), .ok (.var 58)], [.var 0, .var 1, .bin .add (.var 2) (.con (.int .i64 1)), .var 3, .var 4, .var 5, .var 6, .var 7, .var 8, .var 9, .var 10, .var 11, .var 12, .var 13, .var 14, .var 15, .var 16, .var 17, .var 18, .var 19, .var 20, .var 21, .var 22, .var 23, .var 24, .var 25, .var 26, .var 27, .var 28, .var 29, .var 30, .var 31, .var 32, .var 33, .var 34, .var 35, .var 36, .var 37, .var 38, .var 39, .var 40, .var 41, .var 42, .var 43, .var 44, .var 45, .var 46, .var 47, .var 48, .cell (.var 1) (.var 2) 2 1, .var 50, .var 51, .var 52, .var 53, .var 54, .var 55, .var 56, .var 57, .var 58]) := by kernel_rfl
theorem n3 : segTo Try.prog (orcFn tabT) 10000 lpI shI [1, 3] shI [(0, 0), (1, 0), (2, 0), (3, 0)] = some (.normal, [.ok (.len (.var 1)), .ok (.bin .lss (.var 2) (.len (.var 1))), .is (.bin .lss (.var 2) (.len (.var 1))) (.bool true), .idx (.var 1) (.var 2) 2 2, .idx (.var 1) (.var 2) 2 1, .ok (.cell (.var 1) (.var 2) 2 0), .idx (.var 1) (.var 2) 2 2, .idx (.var 1) (.var 2) 2 2, .ok (.cell (.var 1) (.var 2) 2 1), Fact.at (.cell (.var 1) (.var 2) 2 0) 3, .ok (.bin .add (.var 2) (.con (.int .i64 1))), .ok (.var 0), .ok (.bin .add (.var 2) (.con (.int .i64 1))), .ok (.var 3), .ok (.var 4), .ok (.var 5), .ok (.var 6), .ok (.var 7), .ok (.var 8), .ok (.var 9), .ok (.var 10), .ok (.var 11), .ok (.var 12), .ok (.var 13), .ok (.var 14), .ok (.var 15), .ok (.var 16), .ok (.var 17), .ok (.var 18), .ok (.var 19), .ok (.var 20), .ok (.var 21), .ok (.var 22), .ok (.var 23), .ok (.var 24), .ok (.var 25), .ok (.var 26), .ok (.var 27), .ok (.var 28), .ok (.var 29), .ok (.var 30), .ok (.var 31), .ok (.var 32), .ok (.var 33), .ok (.var 34), .ok (.var 35), .ok (.var 36), .ok (.var 37), .ok (.var 38), .ok (.var 39), .ok (.var 40), .ok (.var 41), .ok (.var 42), .ok (.var 45), .ok (.var 46), .ok (.var 47), .ok (.var 48), .ok (.var 49), .ok (.cell (.var 1) (.var 2) 2 1), .ok (.var 51), .ok (.var 52), .ok (.var 53), .ok (.var 54), .ok (.var 57), .ok (.var 58)], [.var 0, .var 1, .bin .add (.var 2) (.con (.int .i64 1)), .var 3, .var 4, .var 5, .var 6, .var 7, .var 8, .var 9, .var 10, .var 11, .var 12, .var 13, .var 14, .var 15, .var 16, .var 17, .var 18, .var 19, .var 20, .var 21, .var 22, .var 23, .var 24, .var 25, .var 26, .var 27, .var 28, .var 29, .var 30, .var 31, .var 32, .var 33, .var 34, .var 35, .var 36, .var 37, .var 38, .var 39, .var 40, .var 41, .var 42, .var 43, .var 44, .var 45, .var 46, .var 47, .var 48, .var 49, .cell (.var 1) (.var 2) 2 1, .var 51, .var 52, .var 53, .var 54, .var 55, .var 56, .var 57, .var 58]) := by kernel_rfl
theorem n4 : segTo Try.prog (orcFn tabT) 10000 lpI shI [1, 4] shI [(0, 0), (1, 0), (2, 0), (3, 0)] = some (.normal, [.ok (.len (.var 1)), .ok (.bin .lss (.var 2) (.len (.var 1))), .is (.bin .lss (.var 2) (.len (.var 1))) (.bool true), .idx (.var 1) (.var 2) 2 2, .idx (.var 1) (.var 2) 2 1, .ok (.cell (.var 1) (.var 2) 2 0), .idx (.var 1) (.var 2) 2 2, .idx (.var 1) (.var 2) 2 2, .ok (.cell (.var 1) (.var 2) 2 1), Fact.at (.cell (.var 1) (.var 2) 2 0) 4, .ok (.bin .add (.var 2) (.con (.int .i64 1))), .ok (.var 0), .ok (.bin .add (.var 2) (.con (.int .i64 1))), .ok (.var 3), .ok (.var 4), .ok (.var 5), .ok (.var 6), .ok (.var 7), .ok (.var 8), .ok (.var 9), .ok (.var 10), .ok (.var 11), .ok (.var 12), .ok (.var 13), .ok (.var 14), .ok (.var 15), .ok (.var 16), .ok (.var 17), .ok (.var 18), .ok (.var 19), .ok (.var 20), .ok (.var 21), .ok (.var 22), .ok (.var 23), .ok (.var 24), .ok (.var 25), .ok (.var 26), .ok (.var 27), .ok (.var 28), .ok (.var 29), .ok (.var 30), .ok (.var 31), .ok (.var 32), .ok (.var 33), .ok (.var 34), .ok (.var 35), .ok (.var 36), .ok (.var 37), .ok (.var 38), .ok (.var 39), .ok (.var 40), .ok (.var 41), .ok (.var 42), .ok (.var 45), .ok (.var 46), .ok (.var 47), .ok (.var 48), .ok (.var 49), .ok (.var 50), .ok (.cell (.var 1) (.var 2) 2 1), .ok (.var 52), .ok (.var 53), .ok (.var 54), .ok (.var 57), .ok (.var 58)], [.var 0, .var 1, .bin .add (.var 2) (.con (.int .i64 1)), .var 3, .var 4, .var 5, .var 6, .var 7, .var 8, .var 9, .var 10, .var 11, .var 12, .var 13, .var 14, .var 15, .var 16, .var 17, .var 18, .var 19, .var 20, .var 21, .var 22, .var 23, .var 24, .var 25, .var 26, .var 27, .var 28, .var 29, .var 30, .var 31, .var 32, .var 33, .var 34, .var 35, .var 36, .var 37, .var 38, .var 39, .var 40, .var 41, .var 42, .var 43, .var 44, .var 45, .var 46, .var 47, .var 48, .var 49, .var 50, .cell (.var 1) (.var 2) 2 1, .var 52, .var 53, .var 54, .var 55, .var 56, .var 57, .var 58]) := by kernel_rfl
theorem n5 : segTo Try.prog (orcFn tabT) 10000 lpI shI [1, 5] shI [(0, 0), (1, 0), (2, 0), (3, 0)] = some (.normal, [.ok (.len (.var 1)), .ok (.bin .lss (.var 2) (.len (.var 1))), .is (.bin .lss (.var 2) (.len (.var 1))) (.bool true), .idx (.var 1) (.var 2) 2 2, .idx (.var 1) (.var 2) 2 1, .ok (.cell (.var 1) (.var 2) 2 0), .idx (.var 1) (.var 2) 2 2, .idx (.var 1) (.var 2) 2 2, .ok (.cell (.var 1) (.var 2) 2 1), Fact.at (.cell (.var 1) (.var 2) 2 0) 5, .ok (.bin .add (.var 2) (.con (.int .i64 1))), .ok (.var 0), .ok (.bin .add (.var 2) (.con (.int .i64 1))), .ok (.var 3), .ok (.var 4), .ok (.var 5), .ok (.var 6), .ok (.var 7), .ok (.var 8), .ok (.var 9), .ok (.var 10), .ok (.var 11), .ok (.var 12), .ok (.var 13), .ok (.var 14), .ok (.var 15), .ok (.var 16), .ok (.var 17), .ok (.var 18), .ok (.var 19), .ok (.var 20), .ok (.var 21), .ok (.var 22), .ok (.var 23), .ok (.var 24), .ok (.var 25), .ok (.var 26), .ok (.var 27), .ok (.var 28), .ok (.var 29), .ok (.var 30), .ok (.var 31), .ok (.var 32), .ok (.var 33), .ok (.var 34), .ok (.var 35), .ok (.var 36), .ok (.var 37), .ok (.var 38), .ok (.var 39), .ok (.var 40), .ok (.var 41), .ok (.var 42), .ok (.var 45), .ok (.var 46), .ok (.var 47), .ok (.var 48), .ok (.var 49), .ok (.var 50), .ok (.var 51), .ok (.cell (.var 1) (.var 2) 2 1), .ok (.var 53), .ok (.var 54), .ok (.var 57), .ok (.var 58)], [.var 0, .var 1, .bin .add (.var 2) (.con (.int .i64 1)), .var 3, .var 4, .var 5, .var 6, .var 7, .var 8, .var 9, .var 10, .var 11, .var 12, .var 13, .var 14, .var 15, .var 16, .var 17, .var 18, .var 19, .var 20, .var 21, .var 22, .var 23, .var 24, .var 25, .var 26, .var 27, .var 28, .var 29, .var 30, .var 31, .var 32, .var 33, .var 34, .var 35, .var 36, .var 37, .var 38, .var 39, .var 40, .var 41, .var 42, .var 43, .var 44, .var 45, .var 46, .var 47, .var 48, .var 49, .var 50, .var 51, .cell (.var 1) (.var 2) 2 1, .var 53, .var 54, .var 55, .var 56, .var 57, .var 58]) := by kernel_rfl
theorem n6 : segTo Try.prog (orcFn tabT) 10000 lpI shI [1, 6] shI [(0, 0), (1, 0), (2, 0), (3, 0)] = some (.normal, [.ok (.len (.var 1)), .ok (.bin .lss (.var 2) (.len (.var 1))), .is (.bin .lss (.var 2) (.len (.var 1))) (.bool true), .idx (.var 1) (.var 2) 2 2, .idx (.var 1) (.var 2) 2 1, .ok (.cell (.var 1) (.var 2) 2 0), .idx (.var 1) (.var 2) 2 2, .idx (.var 1) (.var 2) 2 2, .ok (.cell (.var 1) (.var 2) 2 1), Fact.at (.cell (.var 1) (.var 2) 2 0) 6, .ok (.bin .add (.var 2) (.con (.int .i64 1))), .ok (.var 0), .ok (.bin .add (.var 2) (.con (.int .i64 1))), .ok (.var 3), .ok (.var 4), .ok (.var 5), .ok (.var 6), .ok (.var 7), .ok (.var 8), .ok (.var 9), .ok (.var 10), .ok (.var 11), .ok (.var 12), .ok (.var 13), .ok (.var 14), .ok (.var 15), .ok (.var 16), .ok (.var 17), .ok (.var 18), .ok (.var 19), .ok (.var 20), .ok (.var 21), .ok (.var 22), .ok (.var 23), .ok (.var 24), .ok (.var 25), .ok (.var 26), .ok (.var 27), .ok (.var 28), .ok (.var 29), .ok (.var 30), .ok (.var 31), .ok (.var 32), .ok (.var 33), .ok (.var 34), .ok (.var 35), .ok (.var 36), .ok (.var 37), .ok (.var 38), .ok (.var 39), .ok (.var 40), .ok (.var 41), .ok (.var 42), .ok (.var 45), .ok (.var 46), .ok (.var 47), .ok (.var 48), .ok (.var 49), .ok (.var 50), .ok (.var 51), .ok (.var 52), .ok (.cell (.var 1) (.var 2) 2 1), .ok (.var 54), .ok (.var 57), .ok (.var 58)], [.var 0, .var 1, .bin .add (.var 2) (.con (.int .i64 1)), .var 3, .var 4, .var 5, .var 6, .var 7, .var 8, .var 9, .var 10, .var 11, .var 12, .var 13, .var 14, .var 15, .var 16, .var 17, .var 18, .var 19, .var 20, .var 21, .var 22, .var 23, .var 24, .var 25, .var 26, .var 27, .var 28, .var 29, .var 30, .var 31, .var 32, .var 33, .var 34, .var 35, .var 36, .var 37, .var 38, .var 39, .var 40, .var 41, .var 42, .var 43, .var 44, .var 45, .var 46, .var 47, .var 48, .var 49, .var 50, .var 51, .var 52, .cell (.var 1) (.var 2) 2 1, .var 54, .var 55, .var 56, .var 57, .var 58]) := by kernel_rfl
theorem n7 : segTo Try.prog (orcFn tabT) 10000 lpI shI [1, 7] shI [(0, 0), (1, 0), (2, 0), (3, 0)] = some (.normal, [.ok (.len (.var 1)), .ok (.bin .lss (.var 2) (.len (.var 1))), .is (.bin .lss (.var 2) (.len (.var 1))) (.bool true), .idx (.var 1) (.var 2) 2 2, .idx (.var 1) (.var 2) 2 1, .ok (.cell (.var 1) (.var 2) 2 0), .idx (.var 1) (.var 2) 2 2, .idx (.var 1) (.var 2) 2 2, .ok (.cell (.var 1) (.var 2) 2 1), Fact.at (.cell (.var 1) (.var 2) 2 0) 7, .ok (.bin .add (.var 2) (.con (.int .i64 1))), .ok (.var 0), .ok (.bin .add (.var 2) (.con (.int .i64 1))), .ok (.var 3), .ok (.var 4), .ok (.var 5), .ok (.var 6), .ok (.var 7), .ok (.var 8), .ok (.var 9), .ok (.var 10), .ok (.var 11), .ok (.var 12), .ok (.var 13), .ok (.var 14), .ok (.var 15), .ok (.var 16), .ok (.var 17), .ok (.var 18), .ok (.var 19), .ok (.var 20), .ok (.var 21), .ok (.var 22), .ok (.var 23), .ok (.var 24), .ok (.var 25), .ok (.var 26), .ok (.var 27), .ok (.var 28), .ok (.var 29), .ok (.var 30), .ok (.var 31), .ok (.var 32), .ok (.var 33), .ok (.var 34), .ok (.var 35), .ok (.var 36), .ok (.var 37), .ok (.var 38), .ok (.var 39), .ok (.var 40), .ok (.var 41), .ok (.var 42), .ok (.var 45), .ok (.var 46), .ok (.var 47), .ok (.var 48), .ok (.var 49), .ok (.var 50), .ok (.var 51), .ok (.var 52), .ok (.var 53), .ok (.cell (.var 1) (.var 2) 2 1), .ok (.var 57), .ok (.var 58)], [.var 0, .var 1, .bin .add (.var 2) (.con (.int .i64 1)), .var 3, .var 4, .var 5, .var 6, .var 7, .var 8, .var 9, .var 10, .var 11, .var 12, .var 13, .var 14, .var 15, .var 16, .var 17, .var 18, .var 19, .var 20, .var 21, .var 22, .var 23, .var 24, .var 25, .var 26, .var 27, .var 28, .var 29, .var 30, .var 31, .var 32, .var 33, .var 34, .var 35, .var 36, .var 37, .var 38, .var 39, .var 40, .var 41, .var 42, .var 43, .var 44, .var 45, .var 46, .var 47, .var 48, .var 49, .var 50, .var 51, .var 52, .var 53, .cell (.var 1) (.var 2) 2 1, .var 55, .var 56, .var 57, .var 58]) := by kernel_rfl
def z6 : List SX := [.fn 8 [.var 55, .var 56, .var 57, .var 58, .con (.int .i64 8)] 0, .fn 8 [.var 55, .var 56, .var 57, .var 58, .con (.int .i64 8)] 1, .fn 8 [.var 55, .var 56, .var 57, .var 58, .con (.int .i64 8)] 2, .fn 8 [.var 55, .var 56, .var 57, .var 58, .con (.int .i64 8)] 3, .con (.int .i64 0)]
def z7 : List SX := [.fn 8 [.var 55, .var 56, .var 57, .var 58, .con (.int .i64 8)] 0, .fn 8 [.var 55, .var 56, .var 57, .var 58, .con (.int .i64 8)] 1, .fn 8 [.var 55, .var 56, .var 57, .var 58, .con (.int .i64 8)] 2, .fn 8 [.var 55, .var 56, .var 57, .var 58, .con (.int .i64 8)] 3, .con (.int .i64 1)]
def z8 : List SX := [.fn 8 [.var 55, .var 56, .var 57, .var 58, .con (.int .i64 8)] 0, .fn 8 [.var 55, .var 56, .var 57, .var 58, .con (.int .i64 8)] 1, .fn 8 [.var 55, .var 56, .var 57, .var 58, .con (.int .i64 8)] 2, .fn 8 [.var 55, .var 56, .var 57, .var 58, .con (.int .i64 8)] 3, .con (.int .i64 2)]
def z9 : List SX := [.fn 8 [.var 55, .var 56, .var 57, .var 58, .con (.int .i64 8)] 0, .fn 8 [.var 55, .var 56, .var 57, .var 58, .con (.int .i64 8)] 1, .fn 8 [.var 55, .var 56, .var 57, .var 58, .con (.int .i64 8)] 2, .fn 8 [.var 55, .var 56, .var 57, .var 58, .con (.int .i64 8)] 3, .con (.int .i64 3)]
def z10 : List SX := [.fn 8 [.var 55, .var 56, .var 57, .var 58, .con (.int .i64 8)] 0, .fn 8 [.var 55, .var 56, .var 57, .var 58, .con (.int .i64 8)] 1, .fn 8 [.var 55, .var 56, .var 57, .var 58, .con (.int .i64 8)] 2, .fn 8 [.var 55, .var 56, .var 57, .var 58, .con (.int .i64 8)] 3, .con (.int .i64 4)]
def z11 : List SX := [.fn 8 [.var 55, .var 56, .var 57, .var 58, .con (.int .i64 8)] 0, .fn 8 [.var 55, .var 56, .var 57, .var 58, .con (.int .i64 8)] 1, .fn 8 [.var 55, .var 56, .var 57, .var 58, .con (.int .i64 8)] 2, .fn 8 [.var 55, .var 56, .var 57, .var 58, .con (.int .i64 8)] 3, .con (.int .i64 5)]
def z12 : List SX := [.fn 8 [.var 55, .var 56, .var 57, .var 58, .con (.int .i64 8)] 0, .fn 8 [.var 55, .var 56, .var 57, .var 58, .con (.int .i64 8)] 1, .fn 8 [.var 55, .var 56, .var 57, .var 58, .con (.int .i64 8)] 2, .fn 8 [.var 55, .var 56, .var 57, .var 58, .con (.int .i64 8)] 3, .con (.int .i64 6)]
def z13 : List SX := [.fn 8 [.var 55, .var 56, .var 57, .var 58, .con (.int .i64 8)] 0, .fn 8 [.var 55, .var 56, .var 57, .var 58, .con (.int .i64 8)] 1, .fn 8 [.var 55, .var 56, .var 57, .var 58, .con (.int .i64 8)] 2, .fn 8 [.var 55, .var 56, .var 57, .var 58, .con (.int .i64 8)] 3, .con (.int .i64 7)]
theorem rest : segTo Try.prog (orcFn tabT) 100000 (lpB.drop 6) shI [1, 1, 0, 0, 1, 1, 0, 0, 1, 1, 0, 0, 1, 1, 0, 0, 1, 1, 0, 0, 1, 1, 0, 0, 1, 1, 0, 0, 1, 1, 0, 0] shO [(0, 0), (1, 0), (2, 0)] hL = some (.normal, [.fn 16 (EMn 8) [.var 55, .var 56, .var 57, .var 58, .con (.int .i64 8)], .ok (.fn 8 [.var 55, .var 56, .var 57, .var 58, .con (.int .i64 8)] 2), .ok (.fn 8 [.var 55, .var 56, .var 57, .var 58, .con (.int .i64 8)] 3), .ok (.fn 8 [.var 55, .var 56, .var 57, .var 58, .con (.int .i64 8)] 4), .fn 14 (ERead 2) [.var 55, .var 56, .var 57, .var 58, .con (.int .i64 0)], .ok (.fn 2 [.var 55, .var 56, .var 57, .var 58, .con (.int .i64 0)] 0), .is (.fn 2 [.var 55, .var 56, .var 57, .var 58, .con (.int .i64 0)] 1) (.bool true), .fn 14 (ERead 2) z6, .ok (.fn 2 z6 0), .is (.fn 2 z6 1) (.bool true), .ok (.bin .neq (.fn 2 [.var 55, .var 56, .var 57, .var 58, .con (.int .i64 0)] 0) (.var 47)), .is (.bin .neq (.fn 2 [.var 55, .var 56, .var 57, .var 58, .con (.int .i64 0)] 0) (.var 47)) (.bool false), .ok (.bin .neq (.fn 2 z6 0) (.var 47)), .is (.bin .neq (.fn 2 z6 0) (.var 47)) (.bool false), .fn 14 (ERead 2) [.var 55, .var 56, .var 57, .var 58, .con (.int .i64 1)], .ok (.fn 2 [.var 55, .var 56, .var 57, .var 58, .con (.int .i64 1)] 0), .is (.fn 2 [.var 55, .var 56, .var 57, .var 58, .con (.int .i64 1)] 1) (.bool true), .fn 14 (ERead 2) z7, .ok (.fn 2 z7 0), .is (.fn 2 z7 1) (.bool true), .ok (.bin .neq (.fn 2 [.var 55, .var 56, .var 57, .var 58, .con (.int .i64 1)] 0) (.var 48)), .is (.bin .neq (.fn 2 [.var 55, .var 56, .var 57, .var 58, .con (.int .i64 1)] 0) (.var 48)) (.bool false), .ok (.bin .neq (.fn 2 z7 0) (.var 48)), .is (.bin .neq (.fn 2 z7 0) (.var 48)) (.bool false), .fn 14 (ERead 2) [.var 55, .var 56, .var 57, .var 58, .con (.int .i64 2)], .ok (.fn 2 [.var 55, .var 56, .var 57, .var 58, .con (.int .i64 2)] 0), .is (.fn 2 [.var 55, .var 56, .var 57, .var 58, .con (.int .i64 2)] 1) (.bool true), .fn 14 (ERead 2) z8, .ok (.fn 2 z8 0), .is (.fn 2 z8 1) (.bool true), .ok (.bin .neq (.fn 2 [.var 55, .var 56, .var 57, .var 58, .con (.int .i64 2)] 0) (.var 49)), .is (.bin .neq (.fn 2 [.var 55, .var 56, .var 57, .var 58, .con (.int .i64 2)] 0) (.var 49)) (.bool false), .ok (.bin .neq (.fn 2 z8 0) (.var 49)), .is (.bin .neq (.fn 2 z8 0) (.var 49)) (.bool false), .fn 14 (ERead 2) [.var 55, .var 56, .var 57, .var 58, .con (.int .i64 3)], .ok (.fn 2 [.var 55, .var 56, .var 57, .var 58, .con (.int .i64 3)] 0), .is (.fn 2 [.var 55, .var 56, .var 57, .var 58, .con (.int .i64 3)] 1) (.bool true), .fn 14 (ERead 2) z9, .ok (.fn 2 z9 0), .is (.fn 2 z9 1) (.bool true), .ok (.bin .neq (.fn 2 [.var 55, .var 56, .var 57, .var 58, .con (.int .i64 3)] 0) (.var 50)), .is (.bin .neq (.fn 2 [.var 55, .var 56, .var 57, .var 58, .con (.int .i64 3)] 0) (.var 50)) (.bool false), .ok (.bin .neq (.fn 2 z9 0) (.var 50)), .is (.bin .neq (.fn 2 z9 0) (.var 50)) (.bool false), .fn 14 (ERead 2) [.var 55, .var 56, .var 57, .var 58, .con (.int .i64 4)], .ok (.fn 2 [.var 55, .var 56, .var 57, .var 58, .con (.int .i64 4)] 0), .is (.fn 2 [.var 55, .var 56, .var 57, .var 58, .con (.int .i64 4)] 1) (.bool true), .fn 14 (ERead 2) z10, .ok (.fn 2 z10 0), .is (.fn 2 z10 1) (.bool true), .ok (.bin .neq (.fn 2 [.var 55, .var 56, .var 57, .var 58, .con (.int .i64 4)] 0) (.var 51)), .is (.bin .neq (.fn 2 [.var 55, .var 56, .var 57, .var 58, .con (.int .i64 4)] 0) (.var 51)) (.bool false), .ok (.bin .neq (.fn 2 z10 0) (.var 51)), .is (.bin .neq (.fn 2 z10 0) (.var 51)) (.bool false), .fn 14 (ERead 2) [.var 55, .var 56, .var 57, .var 58, .con (.int .i64 5)], .ok (.fn 2 [.var 55, .var 56, .var 57, .var 58, .con (.int .i64 5)] 0), .is (.fn 2 [.var 55, .var 56, .var 57, .var 58, .con (.int .i64 5)] 1) (.bool true), .fn 14 (ERead 2) z11, .ok (.fn 2 z11 0), .is (.fn 2 z11 1) (.bool true), .ok (.bin .neq (.fn 2 [.var 55, .var 56, .var 57, .var 58, .con (.int .i64 5)] 0) (.var 52)), .is (.bin .neq (.fn 2 [.var 55, .var 56, .var 57, .var 58, .con (.int .i64 5)] 0) (.var 52)) (.bool false), .ok (.bin .neq (.fn 2 z11 0) (.var 52)), .is (.bin .neq (.fn 2 z11 0) (.var 52)) (.bool false), .fn 14 (ERead 2) [.var 55, .var 56, .var 57, .var 58, .con (.int .i64 6)], .ok (.fn 2 [.var 55, .var 56, .var 57, .var 58, .con (.int .i64 6)] 0), .is (.fn 2 [.var 55, .var 56, .var 57, .var 58, .con (.int .i64 6)] 1) (.bool true), .fn 14 (ERead 2) z12, .ok (.fn 2 z12 0), .is (.fn 2 z12 1) (.bool true), .ok (.bin .neq (.fn 2 [.var 55, .var 56, .var 57, .var 58, .con (.int .i64 6)] 0) (.var 53)), .is (.bin .neq (.fn 2 [.var 55, .var 56, .var 57, .var 58, .con (.int .i64 6)] 0) (.var 53)) (.bool false), .ok (.bin .neq (.fn 2 z12 0) (.var 53)), .is (.bin .neq (.fn 2 z12 0) (.var 53)) (.bool false), .fn 14 (ERead 2) [.var 55, .var 56, .var 57, .var 58, .con (.int .i64 7)], .ok (.fn 2 [.var 55, .var 56, .var 57, .var 58, .con (.int .i64 7)] 0), .is (.fn 2 [.var 55, .var 56, .var 57, .var 58, .con (.int .i64 7)] 1) (.bool true), .fn 14 (ERead 2) z13, .ok (.fn 2 z13 0), .is (.fn 2 z13 1) (.bool true), .ok (.bin .neq (.fn 2 [.var 55, .var 56, .var 57, .var 58, .con (.int .i64 7)] 0) (.var 54)), .is (.bin .neq (.fn 2 [.var 55, .var 56, .var 57, .var 58, .con (.int .i64 7)] 0) (.var 54)) (.bool false), .ok (.bin .neq (.fn 2 z13 0) (.var 54)), .is (.bin .neq (.fn 2 z13 0) (.var 54)) (.bool false), .ok (.var 0), .ok (.var 3), .ok (.var 4), .ok (.var 5), .ok (.var 6), .ok (.var 7), .ok (.var 8), .ok (.var 9), .ok (.var 10), .ok (.var 11), .ok (.var 12), .ok (.var 13), .ok (.var 14), .ok (.var 15), .ok (.var 16), .ok (.var 17), .ok (.var 18), .ok (.var 19), .ok (.var 20), .ok (.var 21), .ok (.var 22), .ok (.var 23), .ok (.var 24), .ok (.var 25), .ok (.var 26), .ok (.var 27), .ok (.var 28), .ok (.var 29), .ok (.var 30), .ok (.var 31), .ok (.var 32), .ok (.var 33), .ok (.var 34), .ok (.var 35), .ok (.var 36), .ok (.var 37), .ok (.var 38), .ok (.var 39), .ok (.var 40), .ok (.var 41), .ok (.var 42), .ok (.var 57), .ok (.var 58), .ok (.var 47), .ok (.var 48), .ok (.var 49), .ok (.var 50), .ok (.var 51), .ok (.var 52), .ok (.var 53), .ok (.var 54)], [.var 0, .var 3, .var 4, .var 5, .var 6, .var 7, .var 8, .var 9, .var 10, .var 11, .var 12, .var 13, .var 14, .var 15, .var 16, .var 17, .var 18, .var 19, .var 20, .var 21, .var 22, .var 23, .var 24, .var 25, .var 26, .var 27, .var 28, .var 29, .var 30, .var 31, .var 32, .var 33, .var 34, .var 35, .var 36, .var 37, .var 38, .var 39, .var 40, .var 41, .var 42, .var 55, .var 56, .var 57, .var 58, .var 47, .var 48, .var 49, .var 50, .var 51, .var 52, .var 53, .var 54]) := by kernel_rfl
theorem stp : segTo Try.prog (orcFn tabT) 10000 (lpO.drop 3) shO [] shO [(0, 0), (1, 0), (2, 0)] = some (.normal, [.ok (.bin .add (.var 0) (.con (.int .i64 1))), .ok (.bin .add (.var 0) (.con (.int .i64 1))), .ok (.var 1), .ok (.var 2), .ok (.var 3), .ok (.var 4), .ok (.var 5), .ok (.var 6), .ok (.var 7), .ok (.var 8), .ok (.var 9), .ok (.var 10), .ok (.var 11), .ok (.var 12), .ok (.var 13), .ok (.var 14), .ok (.var 15), .ok (.var 16), .ok (.var 17), .ok (.var 18), .ok (.var 19), .ok (.var 20), .ok (.var 21), .ok (.var 22), .ok (.var 23), .ok (.var 24), .ok (.var 25), .ok (.var 26), .ok (.var 27), .ok (.var 28), .ok (.var 29), .ok (.var 30), .ok (.var 31), .ok (.var 32), .ok (.var 33), .ok (.var 34), .ok (.var 35), .ok (.var 36), .ok (.var 37), .ok (.var 38), .ok (.var 39), .ok (.var 40), .ok (.var 43), .ok (.var 44), .ok (.var 45), .ok (.var 46), .ok (.var 47), .ok (.var 48), .ok (.var 49), .ok (.var 50), .ok (.var 51), .ok (.var 52)], [.bin .add (.var 0) (.con (.int .i64 1)), .var 1, .var 2, .var 3, .var 4, .var 5, .var 6, .var 7, .var 8, .var 9, .var 10, .var 11, .var 12, .var 13, .var 14, .var 15, .var 16, .var 17, .var 18, .var 19, .var 20, .var 21, .var 22, .var 23, .var 24, .var 25, .var 26, .var 27, .var 28, .var 29, .var 30, .var 31, .var 32, .var 33, .var 34, .var 35, .var 36, .var 37, .var 38, .var 39, .var 40, .var 41, .var 42, .var 43, .var 44, .var 45, .var 46, .var 47, .var 48, .var 49, .var 50, .var 51, .var 52]) := by kernel_rfl
theorem fn : segTo Try.prog (orcFn tabT) 10000 (flM.drop 9) shO [1] shMR [] = some (.ret, [.ok (.len (.var 42)), .ok (.bin .eql (.len (.var 42)) (.con (.int .i64 0))), .is (.bin .eql (.len (.var 42)) (.con (.int .i64 0))) (.bool true), .ok (.con (.bool true))], [.con (.bool true)]) := by kernel_rfl
def d4 (M : List ByteArray) : List PV := [pRow encS M, pRow encP [], pI 0, pB false]
def stO (lc : List PV) (i : Nat) (M W : List ByteArray) : List PV := pI (i : Int) :: (lc ++ (d4 M ++ W.map pS))
def stI (lc : List PV) (i : Nat) (p : List jmt.Pt) (k : Nat) (M W X : List ByteArray) : List PV := pI (i : Int) :: pRow encP p :: pI (k : Int) :: (lc ++ (d4 M ++ (W.map pS ++ d4 X)))
def ELaw (k : Nat) : FnE := { k := k, ins := [some 40], leaks := [], outs := [none], kinds := [.truth] }
def RL (ps qs : List PV) : Prop := ∃ A B C D E : List Nat, A.length = 8 ∧ B.length = 8 ∧ C.length = 8 ∧ D.length = 8 ∧ E.length = 8 ∧ (∀ z ∈ A ++ (B ++ (C ++ (D ++ E))), z < 256) ∧ ps = lu A ++ (lu B ++ (lu C ++ (lu D ++ lu E))) ∧ qs = [pB true]
theorem fL : ∀ ps q1 q2, RL ps q1 → RL ps q2 → q1 = q2 := by
  rintro ps q1 q2 ⟨_, _, _, _, _, _, _, _, _, _, _, _, rfl⟩ ⟨_, _, _, _, _, _, _, _, _, _, _, _, rfl⟩; rfl
theorem cutM : flM = flM.take 8 ++ .block (blockId (nth flM 8)) (.loop (loopBody (nth flM 8))) :: flM.drop 9 := by kernel_rfl
theorem cutO : lpO = lpO.take 2 ++ .block (blockId (nth lpO 2)) (blockBody (nth lpO 2)) :: lpO.drop 3 := by kernel_rfl
theorem cutB : lpB.drop 5 = .block (blockId (nth lpB 5)) (.loop (loopBody (nth lpB 5))) :: lpB.drop 6 := by kernel_rfl
abbrev O8 (M : List ByteArray) : List ByteArray := [M.getD 0 e0, M.getD 1 e0, M.getD 2 e0, M.getD 3 e0, M.getD 4 e0, M.getD 5 e0, M.getD 6 e0, M.getD 7 e0]
theorem o8_at (M : List ByteArray) (i : Nat) (h : i < 8) : (O8 M).getD i e0 = M.getD i e0 := by
  match i, h with
  | 0, _ => rfl
  | 1, _ => rfl
  | 2, _ => rfl
  | 3, _ => rfl
  | 4, _ => rfl
  | 5, _ => rfl
  | 6, _ => rfl
  | 7, _ => rfl
theorem o8_len (M : List ByteArray) : (O8 M).length = 8 := rfl
theorem o8_ext {M : List ByteArray} {X : List ByteArray} (hx : X.length = 8) (h : ∀ i, i < 8 → M.getD i e0 = X.getD i e0) : O8 M = X := ext17 (by rw [o8_len, hx]) fun i hi => by rw [o8_len] at hi; rw [o8_at M i hi, h i hi]
theorem o8_set {M : List ByteArray} (hc : jmt.Calm M) (p : List jmt.Pt) (i : Nat) (h : i < 8) : (setAll (O8 M) p).getD i e0 = (setAll M p).getD i e0 := by
  rw [setAll_at p _ i (by rw [o8_len]; exact h), setAll_at p _ i (by rw [hc.n]; omega), o8_at M i h]
set_option maxHeartbeats 4000000 in
theorem atO {ps lc : List PV} {xa0 xa1 xa2 xa3 xa4 xa5 xa6 xa7 xb0 xb1 xb2 xb3 xb4 xb5 xb6 xb7 xc0 xc1 xc2 xc3 xc4 xc5 xc6 xc7 xd0 xd1 xd2 xd3 xd4 xd5 xd6 xd7 xe0 xe1 xe2 xe3 xe4 xe5 xe6 xe7 : Nat} {i : Nat} {M : List ByteArray} {o0 o1 o2 o3 o4 o5 o6 o7 : ByteArray} (hlc : lc = [pU (xa0 : Int), pU (xa1 : Int), pU (xa2 : Int), pU (xa3 : Int), pU (xa4 : Int), pU (xa5 : Int), pU (xa6 : Int), pU (xa7 : Int), pU (xb0 : Int), pU (xb1 : Int), pU (xb2 : Int), pU (xb3 : Int), pU (xb4 : Int), pU (xb5 : Int), pU (xb6 : Int), pU (xb7 : Int), pU (xc0 : Int), pU (xc1 : Int), pU (xc2 : Int), pU (xc3 : Int), pU (xc4 : Int), pU (xc5 : Int), pU (xc6 : Int), pU (xc7 : Int), pU (xd0 : Int), pU (xd1 : Int), pU (xd2 : Int), pU (xd3 : Int), pU (xd4 : Int), pU (xd5 : Int), pU (xd6 : Int), pU (xd7 : Int), pU (xe0 : Int), pU (xe1 : Int), pU (xe2 : Int), pU (xe3 : Int), pU (xe4 : Int), pU (xe5 : Int), pU (xe6 : Int), pU (xe7 : Int)]) (hps : ps = stO lc i M [o0, o1, o2, o3, o4, o5, o6, o7]) :
    ps[0]? = some (pI (i : Int)) ∧ ps[1]? = some (pU (xa0 : Int)) ∧ ps[2]? = some (pU (xa1 : Int)) ∧ ps[3]? = some (pU (xa2 : Int)) ∧ ps[4]? = some (pU (xa3 : Int)) ∧ ps[5]? = some (pU (xa4 : Int)) ∧ ps[6]? = some (pU (xa5 : Int)) ∧ ps[7]? = some (pU (xa6 : Int)) ∧ ps[8]? = some (pU (xa7 : Int)) ∧ ps[9]? = some (pU (xb0 : Int)) ∧ ps[10]? = some (pU (xb1 : Int)) ∧ ps[11]? = some (pU (xb2 : Int)) ∧ ps[12]? = some (pU (xb3 : Int)) ∧ ps[13]? = some (pU (xb4 : Int)) ∧ ps[14]? = some (pU (xb5 : Int)) ∧ ps[15]? = some (pU (xb6 : Int)) ∧ ps[16]? = some (pU (xb7 : Int)) ∧ ps[17]? = some (pU (xc0 : Int)) ∧ ps[18]? = some (pU (xc1 : Int)) ∧ ps[19]? = some (pU (xc2 : Int)) ∧ ps[20]? = some (pU (xc3 : Int)) ∧ ps[21]? = some (pU (xc4 : Int)) ∧ ps[22]? = some (pU (xc5 : Int)) ∧ ps[23]? = some (pU (xc6 : Int)) ∧ ps[24]? = some (pU (xc7 : Int)) ∧ ps[25]? = some (pU (xd0 : Int)) ∧ ps[26]? = some (pU (xd1 : Int)) ∧ ps[27]? = some (pU (xd2 : Int)) ∧ ps[28]? = some (pU (xd3 : Int)) ∧ ps[29]? = some (pU (xd4 : Int)) ∧ ps[30]? = some (pU (xd5 : Int)) ∧ ps[31]? = some (pU (xd6 : Int)) ∧ ps[32]? = some (pU (xd7 : Int)) ∧ ps[33]? = some (pU (xe0 : Int)) ∧ ps[34]? = some (pU (xe1 : Int)) ∧ ps[35]? = some (pU (xe2 : Int)) ∧ ps[36]? = some (pU (xe3 : Int)) ∧ ps[37]? = some (pU (xe4 : Int)) ∧ ps[38]? = some (pU (xe5 : Int)) ∧ ps[39]? = some (pU (xe6 : Int)) ∧ ps[40]? = some (pU (xe7 : Int)) ∧ ps[41]? = some (pRow encS M) ∧ ps[42]? = some (pRow encP []) ∧ ps[43]? = some (pI 0) ∧ ps[44]? = some (pB false) ∧ ps[45]? = some (pS (o0)) ∧ ps[46]? = some (pS (o1)) ∧ ps[47]? = some (pS (o2)) ∧ ps[48]? = some (pS (o3)) ∧ ps[49]? = some (pS (o4)) ∧ ps[50]? = some (pS (o5)) ∧ ps[51]? = some (pS (o6)) ∧ ps[52]? = some (pS (o7)) := by
  subst hlc
  subst hps
  exact ⟨rfl, rfl, rfl, rfl, rfl, rfl, rfl, rfl, rfl, rfl, rfl, rfl, rfl, rfl, rfl, rfl, rfl, rfl, rfl, rfl, rfl, rfl, rfl, rfl, rfl, rfl, rfl, rfl, rfl, rfl, rfl, rfl, rfl, rfl, rfl, rfl, rfl, rfl, rfl, rfl, rfl, rfl, rfl, rfl, rfl, rfl, rfl, rfl, rfl, rfl, rfl, rfl, rfl⟩
set_option maxHeartbeats 4000000 in
theorem atI {ps lc : List PV} {xa0 xa1 xa2 xa3 xa4 xa5 xa6 xa7 xb0 xb1 xb2 xb3 xb4 xb5 xb6 xb7 xc0 xc1 xc2 xc3 xc4 xc5 xc6 xc7 xd0 xd1 xd2 xd3 xd4 xd5 xd6 xd7 xe0 xe1 xe2 xe3 xe4 xe5 xe6 xe7 : Nat} {i k : Nat} {p : List jmt.Pt} {M X : List ByteArray} {o0 o1 o2 o3 o4 o5 o6 o7 : ByteArray} (hlc : lc = [pU (xa0 : Int), pU (xa1 : Int), pU (xa2 : Int), pU (xa3 : Int), pU (xa4 : Int), pU (xa5 : Int), pU (xa6 : Int), pU (xa7 : Int), pU (xb0 : Int), pU (xb1 : Int), pU (xb2 : Int), pU (xb3 : Int), pU (xb4 : Int), pU (xb5 : Int), pU (xb6 : Int), pU (xb7 : Int), pU (xc0 : Int), pU (xc1 : Int), pU (xc2 : Int), pU (xc3 : Int), pU (xc4 : Int), pU (xc5 : Int), pU (xc6 : Int), pU (xc7 : Int), pU (xd0 : Int), pU (xd1 : Int), pU (xd2 : Int), pU (xd3 : Int), pU (xd4 : Int), pU (xd5 : Int), pU (xd6 : Int), pU (xd7 : Int), pU (xe0 : Int), pU (xe1 : Int), pU (xe2 : Int), pU (xe3 : Int), pU (xe4 : Int), pU (xe5 : Int), pU (xe6 : Int), pU (xe7 : Int)]) (hps : ps = stI lc i p k M [o0, o1, o2, o3, o4, o5, o6, o7] X) :
    ps[0]? = some (pI (i : Int)) ∧ ps[1]? = some (pRow encP p) ∧ ps[2]? = some (pI (k : Int)) ∧ ps[3]? = some (pU (xa0 : Int)) ∧ ps[4]? = some (pU (xa1 : Int)) ∧ ps[5]? = some (pU (xa2 : Int)) ∧ ps[6]? = some (pU (xa3 : Int)) ∧ ps[7]? = some (pU (xa4 : Int)) ∧ ps[8]? = some (pU (xa5 : Int)) ∧ ps[9]? = some (pU (xa6 : Int)) ∧ ps[10]? = some (pU (xa7 : Int)) ∧ ps[11]? = some (pU (xb0 : Int)) ∧ ps[12]? = some (pU (xb1 : Int)) ∧ ps[13]? = some (pU (xb2 : Int)) ∧ ps[14]? = some (pU (xb3 : Int)) ∧ ps[15]? = some (pU (xb4 : Int)) ∧ ps[16]? = some (pU (xb5 : Int)) ∧ ps[17]? = some (pU (xb6 : Int)) ∧ ps[18]? = some (pU (xb7 : Int)) ∧ ps[19]? = some (pU (xc0 : Int)) ∧ ps[20]? = some (pU (xc1 : Int)) ∧ ps[21]? = some (pU (xc2 : Int)) ∧ ps[22]? = some (pU (xc3 : Int)) ∧ ps[23]? = some (pU (xc4 : Int)) ∧ ps[24]? = some (pU (xc5 : Int)) ∧ ps[25]? = some (pU (xc6 : Int)) ∧ ps[26]? = some (pU (xc7 : Int)) ∧ ps[27]? = some (pU (xd0 : Int)) ∧ ps[28]? = some (pU (xd1 : Int)) ∧ ps[29]? = some (pU (xd2 : Int)) ∧ ps[30]? = some (pU (xd3 : Int)) ∧ ps[31]? = some (pU (xd4 : Int)) ∧ ps[32]? = some (pU (xd5 : Int)) ∧ ps[33]? = some (pU (xd6 : Int)) ∧ ps[34]? = some (pU (xd7 : Int)) ∧ ps[35]? = some (pU (xe0 : Int)) ∧ ps[36]? = some (pU (xe1 : Int)) ∧ ps[37]? = some (pU (xe2 : Int)) ∧ ps[38]? = some (pU (xe3 : Int)) ∧ ps[39]? = some (pU (xe4 : Int)) ∧ ps[40]? = some (pU (xe5 : Int)) ∧ ps[41]? = some (pU (xe6 : Int)) ∧ ps[42]? = some (pU (xe7 : Int)) ∧ ps[43]? = some (pRow encS M) ∧ ps[44]? = some (pRow encP []) ∧ ps[45]? = some (pI 0) ∧ ps[46]? = some (pB false) ∧ ps[47]? = some (pS (o0)) ∧ ps[48]? = some (pS (o1)) ∧ ps[49]? = some (pS (o2)) ∧ ps[50]? = some (pS (o3)) ∧ ps[51]? = some (pS (o4)) ∧ ps[52]? = some (pS (o5)) ∧ ps[53]? = some (pS (o6)) ∧ ps[54]? = some (pS (o7)) ∧ ps[55]? = some (pRow encS X) ∧ ps[56]? = some (pRow encP []) ∧ ps[57]? = some (pI 0) ∧ ps[58]? = some (pB false) := by
  subst hlc
  subst hps
  exact ⟨rfl, rfl, rfl, rfl, rfl, rfl, rfl, rfl, rfl, rfl, rfl, rfl, rfl, rfl, rfl, rfl, rfl, rfl, rfl, rfl, rfl, rfl, rfl, rfl, rfl, rfl, rfl, rfl, rfl, rfl, rfl, rfl, rfl, rfl, rfl, rfl, rfl, rfl, rfl, rfl, rfl, rfl, rfl, rfl, rfl, rfl, rfl, rfl, rfl, rfl, rfl, rfl, rfl, rfl, rfl, rfl, rfl, rfl, rfl⟩
set_option maxHeartbeats 16000000 in
theorem told (k0 : Nat) : ToldF 6 (ELaw k0) (spec RL) := by
  refine told_by G _ (bodyOf Try.prog 6) Try.func6 (by kernel_rfl) shM (by kernel_rfl) ?_ ?_
  · intro ps qs h i hi
    obtain ⟨A, B, C, D, E, hA, hB, hC, hD, hE, _, rfl, rfl⟩ := of_spec h
    obtain ⟨xa0, xa1, xa2, xa3, xa4, xa5, xa6, xa7, rfl⟩ := len8 hA
    obtain ⟨xb0, xb1, xb2, xb3, xb4, xb5, xb6, xb7, rfl⟩ := len8 hB
    obtain ⟨xc0, xc1, xc2, xc3, xc4, xc5, xc6, xc7, rfl⟩ := len8 hC
    obtain ⟨xd0, xd1, xd2, xd3, xd4, xd5, xd6, xd7, rfl⟩ := len8 hD
    obtain ⟨xe0, xe1, xe2, xe3, xe4, xe5, xe6, xe7, rfl⟩ := len8 hE
    match i, hi with
    | 0, _ => exact ⟨_, rfl, rfl⟩
    | 1, _ => exact ⟨_, rfl, rfl⟩
    | 2, _ => exact ⟨_, rfl, rfl⟩
    | 3, _ => exact ⟨_, rfl, rfl⟩
    | 4, _ => exact ⟨_, rfl, rfl⟩
    | 5, _ => exact ⟨_, rfl, rfl⟩
    | 6, _ => exact ⟨_, rfl, rfl⟩
    | 7, _ => exact ⟨_, rfl, rfl⟩
    | 8, _ => exact ⟨_, rfl, rfl⟩
    | 9, _ => exact ⟨_, rfl, rfl⟩
    | 10, _ => exact ⟨_, rfl, rfl⟩
    | 11, _ => exact ⟨_, rfl, rfl⟩
    | 12, _ => exact ⟨_, rfl, rfl⟩
    | 13, _ => exact ⟨_, rfl, rfl⟩
    | 14, _ => exact ⟨_, rfl, rfl⟩
    | 15, _ => exact ⟨_, rfl, rfl⟩
    | 16, _ => exact ⟨_, rfl, rfl⟩
    | 17, _ => exact ⟨_, rfl, rfl⟩
    | 18, _ => exact ⟨_, rfl, rfl⟩
    | 19, _ => exact ⟨_, rfl, rfl⟩
    | 20, _ => exact ⟨_, rfl, rfl⟩
    | 21, _ => exact ⟨_, rfl, rfl⟩
    | 22, _ => exact ⟨_, rfl, rfl⟩
    | 23, _ => exact ⟨_, rfl, rfl⟩
    | 24, _ => exact ⟨_, rfl, rfl⟩
    | 25, _ => exact ⟨_, rfl, rfl⟩
    | 26, _ => exact ⟨_, rfl, rfl⟩
    | 27, _ => exact ⟨_, rfl, rfl⟩
    | 28, _ => exact ⟨_, rfl, rfl⟩
    | 29, _ => exact ⟨_, rfl, rfl⟩
    | 30, _ => exact ⟨_, rfl, rfl⟩
    | 31, _ => exact ⟨_, rfl, rfl⟩
    | 32, _ => exact ⟨_, rfl, rfl⟩
    | 33, _ => exact ⟨_, rfl, rfl⟩
    | 34, _ => exact ⟨_, rfl, rfl⟩
    | 35, _ => exact ⟨_, rfl, rfl⟩
    | 36, _ => exact ⟨_, rfl, rfl⟩
    | 37, _ => exact ⟨_, rfl, rfl⟩
    | 38, _ => exact ⟨_, rfl, rfl⟩
    | 39, _ => exact ⟨_, rfl, rfl⟩
    | i + 40, hi => simp [shM, nN] at hi
  · intro C ps qs hF h act w hin
    obtain ⟨A, B, C', D, E, hA, hB, hC, hD, hE, hb, rfl, rfl⟩ := of_spec h
    have f6A := G6 hA (fun z hz => hb z (by simp [hz]))
    have hpA := puts_of hA
    obtain ⟨mA, hpp⟩ : ∃ p, putsF SEC 0 A = p := ⟨_, rfl⟩
    rw [hpp] at f6A hpA
    clear hpp
    have f6B := G6 hB (fun z hz => hb z (by simp [hz]))
    have hpB := puts_of hB
    obtain ⟨mB, hpp⟩ : ∃ p, putsF SEC 0 B = p := ⟨_, rfl⟩
    rw [hpp] at f6B hpB
    clear hpp
    have f6C := G6 hC (fun z hz => hb z (by simp [hz]))
    have hpC := puts_of hC
    obtain ⟨mC, hpp⟩ : ∃ p, putsF SEC 0 C' = p := ⟨_, rfl⟩
    rw [hpp] at f6C hpC
    clear hpp
    have f6D := G6 hD (fun z hz => hb z (by simp [hz]))
    have hpD := puts_of hD
    obtain ⟨mD, hpp⟩ : ∃ p, putsF SEC 0 D = p := ⟨_, rfl⟩
    rw [hpp] at f6D hpD
    clear hpp
    have f6E := G6 hE (fun z hz => hb z (by simp [hz]))
    have hpE := puts_of hE
    obtain ⟨mE, hpp⟩ : ∃ p, putsF SEC 0 E = p := ⟨_, rfl⟩
    rw [hpp] at f6E hpE
    clear hpp
    obtain ⟨xa0, xa1, xa2, xa3, xa4, xa5, xa6, xa7, rfl⟩ := len8 hA
    obtain ⟨xb0, xb1, xb2, xb3, xb4, xb5, xb6, xb7, rfl⟩ := len8 hB
    obtain ⟨xc0, xc1, xc2, xc3, xc4, xc5, xc6, xc7, rfl⟩ := len8 hC
    obtain ⟨xd0, xd1, xd2, xd3, xd4, xd5, xd6, xd7, rfl⟩ := len8 hD
    obtain ⟨xe0, xe1, xe2, xe3, xe4, xe5, xe6, xe7, rfl⟩ := len8 hE
    clear hb hA hB hC hD hE h
    rw [← row8] at f6A
    rw [← row8] at f6B
    rw [← row8] at f6C
    rw [← row8] at f6D
    rw [← row8] at f6E
    obtain ⟨lc, hlc⟩ : ∃ lc : List PV, lc = [pU (xa0 : Int), pU (xa1 : Int), pU (xa2 : Int), pU (xa3 : Int), pU (xa4 : Int), pU (xa5 : Int), pU (xa6 : Int), pU (xa7 : Int), pU (xb0 : Int), pU (xb1 : Int), pU (xb2 : Int), pU (xb3 : Int), pU (xb4 : Int), pU (xb5 : Int), pU (xb6 : Int), pU (xb7 : Int), pU (xc0 : Int), pU (xc1 : Int), pU (xc2 : Int), pU (xc3 : Int), pU (xc4 : Int), pU (xc5 : Int), pU (xc6 : Int), pU (xc7 : Int), pU (xd0 : Int), pU (xd1 : Int), pU (xd2 : Int), pU (xd3 : Int), pU (xd4 : Int), pU (xd5 : Int), pU (xd6 : Int), pU (xd7 : Int), pU (xe0 : Int), pU (xe1 : Int), pU (xe2 : Int), pU (xe3 : Int), pU (xe4 : Int), pU (xe5 : Int), pU (xe6 : Int), pU (xe7 : Int)] := ⟨_, rfl⟩
    replace hin : InShape C shM lc act w := by rw [hlc]; exact hin
    show wpL Try.prog flM _ act w
    have inner : ∀ (i : Nat) (p : List jmt.Pt) (M : List ByteArray), i < 5 → (p = [] ∨ Puts p) → jmt.Calm M → ∀ X, jmt.Calm X → Same8 X (setAll M p) → Same8 (mended X) X → ∀ (QB : Exit → Act → World → Prop), (∀ a w, InShape C shO (stO lc i X (O8 X)) a w → QB .normal a w) → ∀ a w, InShape C shI (stI lc i p 0 M (O8 M) X) a w → wpL Try.prog (lpB.drop 5) QB a w := by
      intro i p M hi5 hp hcM X hcX hXs hXX QB hQB act w hin
      have hpl : p.length ≤ 8 := by
        rcases hp with rfl | hp
        · simp
        · exact hp.few
      have hlt8 : ∀ i (hi : i < p.length), p[i].1 < 8 := fun i hi => by
        rcases hp with rfl | hp
        · simp at hi
        · exact hp.lt _ (List.getElem_mem hi)
      have hOX : setAll (O8 M) p = O8 X := (o8_ext (by rw [setAll_len, o8_len]) fun i hi => by rw [hXs i hi, o8_set hcM p i hi]).symm
      have hOl := o8_len M
      generalize O8 M = OM at *
      rw [cutB]
      refine block_loop (fun m a w => ∃ k : Nat, k ≤ p.length ∧ m = p.length - k ∧ InShape C shI (stI lc i p k M (setAll OM (p.take k)) X) a w) ?_ (n := p.length) ⟨0, by omega, by omega, hin⟩
      clear hin
      rintro m act w ⟨k, hk, rfl, hin⟩
      show wpL Try.prog lpI _ act w
      rw [← List.append_nil lpI]
      by_cases hlt : k < p.length
      · obtain ⟨c0, c1⟩ := cellP p k hlt
        have x8 := hlt8 k hlt
        have v3 : IntKind.i64.wrap ((k : Int) + 1) = (k : Int) + 1 := wrapI _ (by omega) (by omega)
        have i1 := idxP_row encP p k 2 1 .i64 rfl hlt (by decide)
        have i2 := idxP_row encP p k 2 2 .i64 rfl hlt (by decide)
        have hWl : (setAll OM (p.take k)).length = 8 := by rw [setAll_len, hOl]
        have hst : setAll OM (p.take (k + 1)) = (setAll OM (p.take k)).set p[k].1 p[k].2 := by
          rw [List.take_add_one, List.getElem?_eq_getElem hlt, Option.toList_some, setAll_app]; rfl
        have again : ∀ j, p[k].1 = j → ∀ a1 w1, InShape C shI (stI lc i p (k + 1) M ((setAll OM (p.take k)).set j p[k].2) X) a1 w1 → ∃ n', n' < p.length - k ∧ ∃ k' : Nat, k' ≤ p.length ∧ n' = p.length - k' ∧ InShape C shI (stI lc i p k' M (setAll OM (p.take k')) X) a1 w1 := by
          rintro j rfl a1 w1 h
          rw [← hst] at h
          exact ⟨p.length - (k + 1), by omega, k + 1, by omega, rfl, h⟩
        clear hst
        generalize setAll OM (p.take k) = W at *
        obtain ⟨o0, o1, o2, o3, o4, o5, o6, o7, rfl⟩ := len8 hWl
        generalize p[k].2 = x2 at *
        generalize p[k].1 = x1 at *
        obtain ⟨ps, hps⟩ : ∃ ps : List PV, ps = stI lc i p k M [o0, o1, o2, o3, o4, o5, o6, o7] X := ⟨_, rfl⟩
        rw [← hps] at hin
        obtain ⟨s0, s1, s2, s3, s4, s5, s6, s7, s8, s9, s10, s11, s12, s13, s14, s15, s16, s17, s18, s19, s20, s21, s22, s23, s24, s25, s26, s27, s28, s29, s30, s31, s32, s33, s34, s35, s36, s37, s38, s39, s40, s41, s42, s43, s44, s45, s46, s47, s48, s49, s50, s51, s52, s53, s54, s55, s56, s57, s58⟩ := atI hlc hps
        clear hps
        match x1, (rfl : x1 = x1), x8 with
        | 0, hj, _ =>
          have c0' : cellPV (pRow encP p) (pI (k : Int)) 2 0 = some (pI 0) := by rw [c0]; rfl
          refine seg_ok eng.names_ok eng.mixed_ok (orcFn_ok _) n0 hin ?_ (fun qs a1 w1 hq h1 => ⟨fun _ => .inl ⟨rfl, again 0 hj a1 w1 ?_⟩, fun h => absurd rfl h⟩)
          · simp only [List.mem_cons, List.not_mem_nil, or_false, forall_eq_or_imp, forall_eq]
            simp [holds_idxP, holds_cellsP, Base.ev, SX.ev, evs, Value.oneCell', hF, lenPV_row, binPV, v3, hlt, i1, i2, c0', c1, s0, s1, s2, s3, s4, s5, s6, s7, s8, s9, s10, s11, s12, s13, s14, s15, s16, s17, s18, s19, s20, s21, s22, s23, s24, s25, s26, s27, s28, s29, s30, s31, s32, s33, s34, s35, s36, s37, s38, s39, s40, s41, s42, s43, s44, s45, s46, s47, s48, s49, s50, s51, s52, s53, s54, s55, s56, s57, s58]
          · simp [evs, SX.ev, binPV, v3, c1, s0, s1, s2, s3, s4, s5, s6, s7, s8, s9, s10, s11, s12, s13, s14, s15, s16, s17, s18, s19, s20, s21, s22, s23, s24, s25, s26, s27, s28, s29, s30, s31, s32, s33, s34, s35, s36, s37, s38, s39, s40, s41, s42, s43, s44, s45, s46, s47, s48, s49, s50, s51, s52, s53, s54, s55, s56, s57, s58] at hq
            subst hq
            rw [hlc]
            exact h1
        | 1, hj, _ =>
          have c0' : cellPV (pRow encP p) (pI (k : Int)) 2 0 = some (pI 1) := by rw [c0]; rfl
          refine seg_ok eng.names_ok eng.mixed_ok (orcFn_ok _) n1 hin ?_ (fun qs a1 w1 hq h1 => ⟨fun _ => .inl ⟨rfl, again 1 hj a1 w1 ?_⟩, fun h => absurd rfl h⟩)
          · simp only [List.mem_cons, List.not_mem_nil, or_false, forall_eq_or_imp, forall_eq]
            simp [holds_idxP, holds_cellsP, Base.ev, SX.ev, evs, Value.oneCell', hF, lenPV_row, binPV, v3, hlt, i1, i2, c0', c1, s0, s1, s2, s3, s4, s5, s6, s7, s8, s9, s10, s11, s12, s13, s14, s15, s16, s17, s18, s19, s20, s21, s22, s23, s24, s25, s26, s27, s28, s29, s30, s31, s32, s33, s34, s35, s36, s37, s38, s39, s40, s41, s42, s43, s44, s45, s46, s47, s48, s49, s50, s51, s52, s53, s54, s55, s56, s57, s58]
          · simp [evs, SX.ev, binPV, v3, c1, s0, s1, s2, s3, s4, s5, s6, s7, s8, s9, s10, s11, s12, s13, s14, s15, s16, s17, s18, s19, s20, s21, s22, s23, s24, s25, s26, s27, s28, s29, s30, s31, s32, s33, s34, s35, s36, s37, s38, s39, s40, s41, s42, s43, s44, s45, s46, s47, s48, s49, s50, s51, s52, s53, s54, s55, s56, s57, s58] at hq
            subst hq
            rw [hlc]
            exact h1
        | 2, hj, _ =>
          have c0' : cellPV (pRow encP p) (pI (k : Int)) 2 0 = some (pI 2) := by rw [c0]; rfl
          refine seg_ok eng.names_ok eng.mixed_ok (orcFn_ok _) n2 hin ?_ (fun qs a1 w1 hq h1 => ⟨fun _ => .inl ⟨rfl, again 2 hj a1 w1 ?_⟩, fun h => absurd rfl h⟩)
          · simp only [List.mem_cons, List.not_mem_nil, or_false, forall_eq_or_imp, forall_eq]
            simp [holds_idxP, holds_cellsP, Base.ev, SX.ev, evs, Value.oneCell', hF, lenPV_row, binPV, v3, hlt, i1, i2, c0', c1, s0, s1, s2, s3, s4, s5, s6, s7, s8, s9, s10, s11, s12, s13, s14, s15, s16, s17, s18, s19, s20, s21, s22, s23, s24, s25, s26, s27, s28, s29, s30, s31, s32, s33, s34, s35, s36, s37, s38, s39, s40, s41, s42, s43, s44, s45, s46, s47, s48, s49, s50, s51, s52, s53, s54, s55, s56, s57, s58]
          · simp [evs, SX.ev, binPV, v3, c1, s0, s1, s2, s3, s4, s5, s6, s7, s8, s9, s10, s11, s12, s13, s14, s15, s16, s17, s18, s19, s20, s21, s22, s23, s24, s25, s26, s27, s28, s29, s30, s31, s32, s33, s34, s35, s36, s37, s38, s39, s40, s41, s42, s43, s44, s45, s46, s47, s48, s49, s50, s51, s52, s53, s54, s55, s56, s57, s58] at hq
            subst hq
            rw [hlc]
            exact h1
        | 3, hj, _ =>
          have c0' : cellPV (pRow encP p) (pI (k : Int)) 2 0 = some (pI 3) := by rw [c0]; rfl
          refine seg_ok eng.names_ok eng.mixed_ok (orcFn_ok _) n3 hin ?_ (fun qs a1 w1 hq h1 => ⟨fun _ => .inl ⟨rfl, again 3 hj a1 w1 ?_⟩, fun h => absurd rfl h⟩)
          · simp only [List.mem_cons, List.not_mem_nil, or_false, forall_eq_or_imp, forall_eq]
            simp [holds_idxP, holds_cellsP, Base.ev, SX.ev, evs, Value.oneCell', hF, lenPV_row, binPV, v3, hlt, i1, i2, c0', c1, s0, s1, s2, s3, s4, s5, s6, s7, s8, s9, s10, s11, s12, s13, s14, s15, s16, s17, s18, s19, s20, s21, s22, s23, s24, s25, s26, s27, s28, s29, s30, s31, s32, s33, s34, s35, s36, s37, s38, s39, s40, s41, s42, s43, s44, s45, s46, s47, s48, s49, s50, s51, s52, s53, s54, s55, s56, s57, s58]
          · simp [evs, SX.ev, binPV, v3, c1, s0, s1, s2, s3, s4, s5, s6, s7, s8, s9, s10, s11, s12, s13, s14, s15, s16, s17, s18, s19, s20, s21, s22, s23, s24, s25, s26, s27, s28, s29, s30, s31, s32, s33, s34, s35, s36, s37, s38, s39, s40, s41, s42, s43, s44, s45, s46, s47, s48, s49, s50, s51, s52, s53, s54, s55, s56, s57, s58] at hq
            subst hq
            rw [hlc]
            exact h1
        | 4, hj, _ =>
          have c0' : cellPV (pRow encP p) (pI (k : Int)) 2 0 = some (pI 4) := by rw [c0]; rfl
          refine seg_ok eng.names_ok eng.mixed_ok (orcFn_ok _) n4 hin ?_ (fun qs a1 w1 hq h1 => ⟨fun _ => .inl ⟨rfl, again 4 hj a1 w1 ?_⟩, fun h => absurd rfl h⟩)
          · simp only [List.mem_cons, List.not_mem_nil, or_false, forall_eq_or_imp, forall_eq]
            simp [holds_idxP, holds_cellsP, Base.ev, SX.ev, evs, Value.oneCell', hF, lenPV_row, binPV, v3, hlt, i1, i2, c0', c1, s0, s1, s2, s3, s4, s5, s6, s7, s8, s9, s10, s11, s12, s13, s14, s15, s16, s17, s18, s19, s20, s21, s22, s23, s24, s25, s26, s27, s28, s29, s30, s31, s32, s33, s34, s35, s36, s37, s38, s39, s40, s41, s42, s43, s44, s45, s46, s47, s48, s49, s50, s51, s52, s53, s54, s55, s56, s57, s58]
          · simp [evs, SX.ev, binPV, v3, c1, s0, s1, s2, s3, s4, s5, s6, s7, s8, s9, s10, s11, s12, s13, s14, s15, s16, s17, s18, s19, s20, s21, s22, s23, s24, s25, s26, s27, s28, s29, s30, s31, s32, s33, s34, s35, s36, s37, s38, s39, s40, s41, s42, s43, s44, s45, s46, s47, s48, s49, s50, s51, s52, s53, s54, s55, s56, s57, s58] at hq
            subst hq
            rw [hlc]
            exact h1
        | 5, hj, _ =>
          have c0' : cellPV (pRow encP p) (pI (k : Int)) 2 0 = some (pI 5) := by rw [c0]; rfl
          refine seg_ok eng.names_ok eng.mixed_ok (orcFn_ok _) n5 hin ?_ (fun qs a1 w1 hq h1 => ⟨fun _ => .inl ⟨rfl, again 5 hj a1 w1 ?_⟩, fun h => absurd rfl h⟩)
          · simp only [List.mem_cons, List.not_mem_nil, or_false, forall_eq_or_imp, forall_eq]
            simp [holds_idxP, holds_cellsP, Base.ev, SX.ev, evs, Value.oneCell', hF, lenPV_row, binPV, v3, hlt, i1, i2, c0', c1, s0, s1, s2, s3, s4, s5, s6, s7, s8, s9, s10, s11, s12, s13, s14, s15, s16, s17, s18, s19, s20, s21, s22, s23, s24, s25, s26, s27, s28, s29, s30, s31, s32, s33, s34, s35, s36, s37, s38, s39, s40, s41, s42, s43, s44, s45, s46, s47, s48, s49, s50, s51, s52, s53, s54, s55, s56, s57, s58]
          · simp [evs, SX.ev, binPV, v3, c1, s0, s1, s2, s3, s4, s5, s6, s7, s8, s9, s10, s11, s12, s13, s14, s15, s16, s17, s18, s19, s20, s21, s22, s23, s24, s25, s26, s27, s28, s29, s30, s31, s32, s33, s34, s35, s36, s37, s38, s39, s40, s41, s42, s43, s44, s45, s46, s47, s48, s49, s50, s51, s52, s53, s54, s55, s56, s57, s58] at hq
            subst hq
            rw [hlc]
            exact h1
        | 6, hj, _ =>
          have c0' : cellPV (pRow encP p) (pI (k : Int)) 2 0 = some (pI 6) := by rw [c0]; rfl
          refine seg_ok eng.names_ok eng.mixed_ok (orcFn_ok _) n6 hin ?_ (fun qs a1 w1 hq h1 => ⟨fun _ => .inl ⟨rfl, again 6 hj a1 w1 ?_⟩, fun h => absurd rfl h⟩)
          · simp only [List.mem_cons, List.not_mem_nil, or_false, forall_eq_or_imp, forall_eq]
            simp [holds_idxP, holds_cellsP, Base.ev, SX.ev, evs, Value.oneCell', hF, lenPV_row, binPV, v3, hlt, i1, i2, c0', c1, s0, s1, s2, s3, s4, s5, s6, s7, s8, s9, s10, s11, s12, s13, s14, s15, s16, s17, s18, s19, s20, s21, s22, s23, s24, s25, s26, s27, s28, s29, s30, s31, s32, s33, s34, s35, s36, s37, s38, s39, s40, s41, s42, s43, s44, s45, s46, s47, s48, s49, s50, s51, s52, s53, s54, s55, s56, s57, s58]
          · simp [evs, SX.ev, binPV, v3, c1, s0, s1, s2, s3, s4, s5, s6, s7, s8, s9, s10, s11, s12, s13, s14, s15, s16, s17, s18, s19, s20, s21, s22, s23, s24, s25, s26, s27, s28, s29, s30, s31, s32, s33, s34, s35, s36, s37, s38, s39, s40, s41, s42, s43, s44, s45, s46, s47, s48, s49, s50, s51, s52, s53, s54, s55, s56, s57, s58] at hq
            subst hq
            rw [hlc]
            exact h1
        | 7, hj, _ =>
          have c0' : cellPV (pRow encP p) (pI (k : Int)) 2 0 = some (pI 7) := by rw [c0]; rfl
          refine seg_ok eng.names_ok eng.mixed_ok (orcFn_ok _) n7 hin ?_ (fun qs a1 w1 hq h1 => ⟨fun _ => .inl ⟨rfl, again 7 hj a1 w1 ?_⟩, fun h => absurd rfl h⟩)
          · simp only [List.mem_cons, List.not_mem_nil, or_false, forall_eq_or_imp, forall_eq]
            simp [holds_idxP, holds_cellsP, Base.ev, SX.ev, evs, Value.oneCell', hF, lenPV_row, binPV, v3, hlt, i1, i2, c0', c1, s0, s1, s2, s3, s4, s5, s6, s7, s8, s9, s10, s11, s12, s13, s14, s15, s16, s17, s18, s19, s20, s21, s22, s23, s24, s25, s26, s27, s28, s29, s30, s31, s32, s33, s34, s35, s36, s37, s38, s39, s40, s41, s42, s43, s44, s45, s46, s47, s48, s49, s50, s51, s52, s53, s54, s55, s56, s57, s58]
          · simp [evs, SX.ev, binPV, v3, c1, s0, s1, s2, s3, s4, s5, s6, s7, s8, s9, s10, s11, s12, s13, s14, s15, s16, s17, s18, s19, s20, s21, s22, s23, s24, s25, s26, s27, s28, s29, s30, s31, s32, s33, s34, s35, s36, s37, s38, s39, s40, s41, s42, s43, s44, s45, s46, s47, s48, s49, s50, s51, s52, s53, s54, s55, s56, s57, s58] at hq
            subst hq
            rw [hlc]
            exact h1
      · obtain rfl : k = p.length := by omega
        rw [List.take_of_length_le (Nat.le_refl _), hOX] at hin
        clear hOX
        simp only [O8] at hin hQB
        have f8 := G8f hcX
        have r0 : G 2 [pRow encS X, pRow encP [], pI 0, pB false, pI 0] = some [pS (X.getD 0 e0), pB true] := G20 (i := 0) hcX (by omega)
        have r1 : G 2 [pRow encS X, pRow encP [], pI 0, pB false, pI 1] = some [pS (X.getD 1 e0), pB true] := G20 (i := 1) hcX (by omega)
        have r2 : G 2 [pRow encS X, pRow encP [], pI 0, pB false, pI 2] = some [pS (X.getD 2 e0), pB true] := G20 (i := 2) hcX (by omega)
        have r3 : G 2 [pRow encS X, pRow encP [], pI 0, pB false, pI 3] = some [pS (X.getD 3 e0), pB true] := G20 (i := 3) hcX (by omega)
        have r4 : G 2 [pRow encS X, pRow encP [], pI 0, pB false, pI 4] = some [pS (X.getD 4 e0), pB true] := G20 (i := 4) hcX (by omega)
        have r5 : G 2 [pRow encS X, pRow encP [], pI 0, pB false, pI 5] = some [pS (X.getD 5 e0), pB true] := G20 (i := 5) hcX (by omega)
        have r6 : G 2 [pRow encS X, pRow encP [], pI 0, pB false, pI 6] = some [pS (X.getD 6 e0), pB true] := G20 (i := 6) hcX (by omega)
        have r7 : G 2 [pRow encS X, pRow encP [], pI 0, pB false, pI 7] = some [pS (X.getD 7 e0), pB true] := G20 (i := 7) hcX (by omega)
        have v0 : G 2 [pRow encS (mended X), pRow encP [], pI 0, pB false, pI 0] = some [pS (X.getD 0 e0), pB true] := by rw [← hXX 0 (by omega)]; exact G20 (i := 0) (mended_calm hcX) (by omega)
        have v1 : G 2 [pRow encS (mended X), pRow encP [], pI 0, pB false, pI 1] = some [pS (X.getD 1 e0), pB true] := by rw [← hXX 1 (by omega)]; exact G20 (i := 1) (mended_calm hcX) (by omega)
        have v2 : G 2 [pRow encS (mended X), pRow encP [], pI 0, pB false, pI 2] = some [pS (X.getD 2 e0), pB true] := by rw [← hXX 2 (by omega)]; exact G20 (i := 2) (mended_calm hcX) (by omega)
        have v3 : G 2 [pRow encS (mended X), pRow encP [], pI 0, pB false, pI 3] = some [pS (X.getD 3 e0), pB true] := by rw [← hXX 3 (by omega)]; exact G20 (i := 3) (mended_calm hcX) (by omega)
        have v4 : G 2 [pRow encS (mended X), pRow encP [], pI 0, pB false, pI 4] = some [pS (X.getD 4 e0), pB true] := by rw [← hXX 4 (by omega)]; exact G20 (i := 4) (mended_calm hcX) (by omega)
        have v5 : G 2 [pRow encS (mended X), pRow encP [], pI 0, pB false, pI 5] = some [pS (X.getD 5 e0), pB true] := by rw [← hXX 5 (by omega)]; exact G20 (i := 5) (mended_calm hcX) (by omega)
        have v6 : G 2 [pRow encS (mended X), pRow encP [], pI 0, pB false, pI 6] = some [pS (X.getD 6 e0), pB true] := by rw [← hXX 6 (by omega)]; exact G20 (i := 6) (mended_calm hcX) (by omega)
        have v7 : G 2 [pRow encS (mended X), pRow encP [], pI 0, pB false, pI 7] = some [pS (X.getD 7 e0), pB true] := by rw [← hXX 7 (by omega)]; exact G20 (i := 7) (mended_calm hcX) (by omega)
        generalize mended X = U at *
        generalize X.getD 0 e0 = o0 at *
        generalize X.getD 1 e0 = o1 at *
        generalize X.getD 2 e0 = o2 at *
        generalize X.getD 3 e0 = o3 at *
        generalize X.getD 4 e0 = o4 at *
        generalize X.getD 5 e0 = o5 at *
        generalize X.getD 6 e0 = o6 at *
        generalize X.getD 7 e0 = o7 at *
        have hin2 := hin
        obtain ⟨ps, hps⟩ : ∃ ps : List PV, ps = stI lc i p p.length M [o0, o1, o2, o3, o4, o5, o6, o7] X := ⟨_, rfl⟩
        rw [← hps] at hin
        obtain ⟨s0, s1, s2, s3, s4, s5, s6, s7, s8, s9, s10, s11, s12, s13, s14, s15, s16, s17, s18, s19, s20, s21, s22, s23, s24, s25, s26, s27, s28, s29, s30, s31, s32, s33, s34, s35, s36, s37, s38, s39, s40, s41, s42, s43, s44, s45, s46, s47, s48, s49, s50, s51, s52, s53, s54, s55, s56, s57, s58⟩ := atI hlc hps
        clear hps
        refine seg_ok eng.names_ok eng.mixed_ok (orcFn_ok _) iex hin ?_ ?_
        · simp only [List.mem_cons, List.not_mem_nil, or_false, forall_eq_or_imp, forall_eq]
          simp [holds_idxP, holds_cellsP, Base.ev, SX.ev, evs, Value.oneCell', lenPV_row, binPV, s0, s1, s2, s3, s4, s5, s6, s7, s8, s9, s10, s11, s12, s13, s14, s15, s16, s17, s18, s19, s20, s21, s22, s23, s24, s25, s26, s27, s28, s29, s30, s31, s32, s33, s34, s35, s36, s37, s38, s39, s40, s41, s42, s43, s44, s45, s46, s47, s48, s49, s50, s51, s52, s53, s54, s55, s56, s57, s58]
        intro qs a1 w1 hq h1
        refine ⟨fun h => (by cases h), fun _ => .inr (.inl ⟨by rw [show blockId (nth lpB 5) = 4 by kernel_rfl]; rfl, ?_⟩)⟩
        have hqs : qs = stI lc i p p.length M [o0, o1, o2, o3, o4, o5, o6, o7] X := by
          simp [evs, SX.ev, s0, s1, s2, s3, s4, s5, s6, s7, s8, s9, s10, s11, s12, s13, s14, s15, s16, s17, s18, s19, s20, s21, s22, s23, s24, s25, s26, s27, s28, s29, s30, s31, s32, s33, s34, s35, s36, s37, s38, s39, s40, s41, s42, s43, s44, s45, s46, s47, s48, s49, s50, s51, s52, s53, s54, s55, s56, s57, s58] at hq
          rw [← hq, hlc]
          rfl
        subst hqs
        clear hq hin2
        rw [← List.append_nil (lpB.drop 6)]
        replace hin := h1
        clear h1 s0 s1 s2 s3 s4 s5 s6 s7 s8 s9 s10 s11 s12 s13 s14 s15 s16 s17 s18 s19 s20 s21 s22 s23 s24 s25 s26 s27 s28 s29 s30 s31 s32 s33 s34 s35 s36 s37 s38 s39 s40 s41 s42 s43 s44 s45 s46 s47 s48 s49 s50 s51 s52 s53 s54 s55 s56 s57 s58
        obtain ⟨ps, hps⟩ : ∃ ps : List PV, ps = stI lc i p p.length M [o0, o1, o2, o3, o4, o5, o6, o7] X := ⟨_, rfl⟩
        rw [← hps] at hin
        obtain ⟨s0, s1, s2, s3, s4, s5, s6, s7, s8, s9, s10, s11, s12, s13, s14, s15, s16, s17, s18, s19, s20, s21, s22, s23, s24, s25, s26, s27, s28, s29, s30, s31, s32, s33, s34, s35, s36, s37, s38, s39, s40, s41, s42, s43, s44, s45, s46, s47, s48, s49, s50, s51, s52, s53, s54, s55, s56, s57, s58⟩ := atI hlc hps
        clear hps
        have y0 : evs (fun i => ps[i]?) G z6 = some [pRow encS U, pRow encP [], pI 0, pB false, pI 0] := by
          simp [z6, evs, SX.ev, f8, s0, s1, s2, s3, s4, s5, s6, s7, s8, s9, s10, s11, s12, s13, s14, s15, s16, s17, s18, s19, s20, s21, s22, s23, s24, s25, s26, s27, s28, s29, s30, s31, s32, s33, s34, s35, s36, s37, s38, s39, s40, s41, s42, s43, s44, s45, s46, s47, s48, s49, s50, s51, s52, s53, s54, s55, s56, s57, s58]
        have y1 : evs (fun i => ps[i]?) G z7 = some [pRow encS U, pRow encP [], pI 0, pB false, pI 1] := by
          simp [z7, evs, SX.ev, f8, s0, s1, s2, s3, s4, s5, s6, s7, s8, s9, s10, s11, s12, s13, s14, s15, s16, s17, s18, s19, s20, s21, s22, s23, s24, s25, s26, s27, s28, s29, s30, s31, s32, s33, s34, s35, s36, s37, s38, s39, s40, s41, s42, s43, s44, s45, s46, s47, s48, s49, s50, s51, s52, s53, s54, s55, s56, s57, s58]
        have y2 : evs (fun i => ps[i]?) G z8 = some [pRow encS U, pRow encP [], pI 0, pB false, pI 2] := by
          simp [z8, evs, SX.ev, f8, s0, s1, s2, s3, s4, s5, s6, s7, s8, s9, s10, s11, s12, s13, s14, s15, s16, s17, s18, s19, s20, s21, s22, s23, s24, s25, s26, s27, s28, s29, s30, s31, s32, s33, s34, s35, s36, s37, s38, s39, s40, s41, s42, s43, s44, s45, s46, s47, s48, s49, s50, s51, s52, s53, s54, s55, s56, s57, s58]
        have y3 : evs (fun i => ps[i]?) G z9 = some [pRow encS U, pRow encP [], pI 0, pB false, pI 3] := by
          simp [z9, evs, SX.ev, f8, s0, s1, s2, s3, s4, s5, s6, s7, s8, s9, s10, s11, s12, s13, s14, s15, s16, s17, s18, s19, s20, s21, s22, s23, s24, s25, s26, s27, s28, s29, s30, s31, s32, s33, s34, s35, s36, s37, s38, s39, s40, s41, s42, s43, s44, s45, s46, s47, s48, s49, s50, s51, s52, s53, s54, s55, s56, s57, s58]
        have y4 : evs (fun i => ps[i]?) G z10 = some [pRow encS U, pRow encP [], pI 0, pB false, pI 4] := by
          simp [z10, evs, SX.ev, f8, s0, s1, s2, s3, s4, s5, s6, s7, s8, s9, s10, s11, s12, s13, s14, s15, s16, s17, s18, s19, s20, s21, s22, s23, s24, s25, s26, s27, s28, s29, s30, s31, s32, s33, s34, s35, s36, s37, s38, s39, s40, s41, s42, s43, s44, s45, s46, s47, s48, s49, s50, s51, s52, s53, s54, s55, s56, s57, s58]
        have y5 : evs (fun i => ps[i]?) G z11 = some [pRow encS U, pRow encP [], pI 0, pB false, pI 5] := by
          simp [z11, evs, SX.ev, f8, s0, s1, s2, s3, s4, s5, s6, s7, s8, s9, s10, s11, s12, s13, s14, s15, s16, s17, s18, s19, s20, s21, s22, s23, s24, s25, s26, s27, s28, s29, s30, s31, s32, s33, s34, s35, s36, s37, s38, s39, s40, s41, s42, s43, s44, s45, s46, s47, s48, s49, s50, s51, s52, s53, s54, s55, s56, s57, s58]
        have y6 : evs (fun i => ps[i]?) G z12 = some [pRow encS U, pRow encP [], pI 0, pB false, pI 6] := by
          simp [z12, evs, SX.ev, f8, s0, s1, s2, s3, s4, s5, s6, s7, s8, s9, s10, s11, s12, s13, s14, s15, s16, s17, s18, s19, s20, s21, s22, s23, s24, s25, s26, s27, s28, s29, s30, s31, s32, s33, s34, s35, s36, s37, s38, s39, s40, s41, s42, s43, s44, s45, s46, s47, s48, s49, s50, s51, s52, s53, s54, s55, s56, s57, s58]
        have y7 : evs (fun i => ps[i]?) G z13 = some [pRow encS U, pRow encP [], pI 0, pB false, pI 7] := by
          simp [z13, evs, SX.ev, f8, s0, s1, s2, s3, s4, s5, s6, s7, s8, s9, s10, s11, s12, s13, s14, s15, s16, s17, s18, s19, s20, s21, s22, s23, s24, s25, s26, s27, s28, s29, s30, s31, s32, s33, s34, s35, s36, s37, s38, s39, s40, s41, s42, s43, s44, s45, s46, s47, s48, s49, s50, s51, s52, s53, s54, s55, s56, s57, s58]
        refine seg_ok eng.names_ok eng.mixed_ok (orcFn_ok _) rest hin ?_ ?_
        · simp only [List.mem_cons, List.not_mem_nil, or_false, forall_eq_or_imp, forall_eq]
          simp [holds_idxP, holds_cellsP, Base.ev, SX.ev, evs, Value.oneCell', hF, binPV, f8, u8, r0, r1, r2, r3, r4, r5, r6, r7, y0, y1, y2, y3, y4, y5, y6, y7, v0, v1, v2, v3, v4, v5, v6, v7, u2, s0, s1, s2, s3, s4, s5, s6, s7, s8, s9, s10, s11, s12, s13, s14, s15, s16, s17, s18, s19, s20, s21, s22, s23, s24, s25, s26, s27, s28, s29, s30, s31, s32, s33, s34, s35, s36, s37, s38, s39, s40, s41, s42, s43, s44, s45, s46, s47, s48, s49, s50, s51, s52, s53, s54, s55, s56, s57, s58]
        intro qs a2 w2 hq h2
        refine ⟨fun _ => hQB a2 w2 ?_, fun h => absurd rfl h⟩
        simp [evs, SX.ev, s0, s1, s2, s3, s4, s5, s6, s7, s8, s9, s10, s11, s12, s13, s14, s15, s16, s17, s18, s19, s20, s21, s22, s23, s24, s25, s26, s27, s28, s29, s30, s31, s32, s33, s34, s35, s36, s37, s38, s39, s40, s41, s42, s43, s44, s45, s46, s47, s48, s49, s50, s51, s52, s53, s54, s55, s56, s57, s58] at hq
        subst hq
        rw [hlc]
        exact h2
    have fin : ∀ qs a1 w1, qs = [pB true] → InShape C shMR qs a1 w1 → (AX.ret = .normal → wpL Try.prog [] (fun (e : Exit) (a' : Act) (w' : World) => (e = .normal ∨ e = .ret) ∧ ∃ sh' ps' es, InShape C sh' ps' a' w' ∧ resTo Try.prog Try.f6 sh' (ELaw k0) = some es ∧ evs (fun i => ps'[i]?) G es = some [pB true]) a1 w1) ∧ (AX.ret ≠ .normal → ((AX.ret.to = .normal ∨ AX.ret.to = .ret) ∧ ∃ sh' ps' es, InShape C sh' ps' a1 w1 ∧ resTo Try.prog Try.f6 sh' (ELaw k0) = some es ∧ evs (fun i => ps'[i]?) G es = some [pB true])) := by
      rintro qs a1 w1 rfl h1
      exact ⟨fun h => (by cases h), fun _ => ⟨.inr rfl, shMR, _, [SX.var 0], h1, by kernel_rfl, rfl⟩⟩
    rw [cutM]
    have out : ∀ a w, InShape C shO (stO lc 0 L0 (O8 L0)) a w → wpL Try.prog (.block (blockId (nth flM 8)) (.loop (loopBody (nth flM 8))) :: flM.drop 9) (fun (e : Exit) (a' : Act) (w' : World) => (e = .normal ∨ e = .ret) ∧ ∃ sh' ps' es, InShape C sh' ps' a' w' ∧ resTo Try.prog Try.f6 sh' (ELaw k0) = some es ∧ evs (fun i => ps'[i]?) G es = some [pB true]) a w := by
      intro act w hin
      refine block_loop (fun m a w => ∃ (i : Nat) (M : List ByteArray), i ≤ 5 ∧ m = 5 - i ∧ jmt.Calm M ∧ Same8 (mended M) M ∧ InShape C shO (stO lc i M (O8 M)) a w) ?_ (n := 5) ⟨0, L0, by omega, by omega, calm0, clean0, hin⟩
      clear hin
      rintro m act w ⟨i, M, hi, rfl, hcM, hMM, hin⟩
      show wpL Try.prog lpO _ act w
      have hin0 := hin
      obtain ⟨ps, hps⟩ : ∃ ps : List PV, ps = stO lc i M (O8 M) := ⟨_, rfl⟩
      rw [← hps] at hin
      obtain ⟨s0, s1, s2, s3, s4, s5, s6, s7, s8, s9, s10, s11, s12, s13, s14, s15, s16, s17, s18, s19, s20, s21, s22, s23, s24, s25, s26, s27, s28, s29, s30, s31, s32, s33, s34, s35, s36, s37, s38, s39, s40, s41, s42, s43, s44, s45, s46, s47, s48, s49, s50, s51, s52⟩ := atO hlc hps
      clear hps
      by_cases hlt : i < 5
      · have hlt' : (i : Int) < 5 := by omega
        rw [cutO]
        refine seg_ok eng.names_ok eng.mixed_ok (orcFn_ok _) oin hin ?_ ?_
        · simp only [List.mem_cons, List.not_mem_nil, or_false, forall_eq_or_imp, forall_eq]
          simp [holds_idxP, holds_cellsP, Base.ev, SX.ev, evs, Value.oneCell', binPV, hlt', s0, s1, s2, s3, s4, s5, s6, s7, s8, s9, s10, s11, s12, s13, s14, s15, s16, s17, s18, s19, s20, s21, s22, s23, s24, s25, s26, s27, s28, s29, s30, s31, s32, s33, s34, s35, s36, s37, s38, s39, s40, s41, s42, s43, s44, s45, s46, s47, s48, s49, s50, s51, s52]
        intro qs a1 w1 hq h1
        refine ⟨fun _ => ?_, fun h => absurd rfl h⟩
        have hqs : qs = stO lc i M (O8 M) := by
          simp [evs, SX.ev, s0, s1, s2, s3, s4, s5, s6, s7, s8, s9, s10, s11, s12, s13, s14, s15, s16, s17, s18, s19, s20, s21, s22, s23, s24, s25, s26, s27, s28, s29, s30, s31, s32, s33, s34, s35, s36, s37, s38, s39, s40, s41, s42, s43, s44, s45, s46, s47, s48, s49, s50, s51, s52] at hq
          rw [← hq, hlc]
          rfl
        subst hqs
        clear hq hin hin0
        replace hin := h1
        clear h1 s0 s1 s2 s3 s4 s5 s6 s7 s8 s9 s10 s11 s12 s13 s14 s15 s16 s17 s18 s19 s20 s21 s22 s23 s24 s25 s26 s27 s28 s29 s30 s31 s32 s33 s34 s35 s36 s37 s38 s39 s40 s41 s42 s43 s44 s45 s46 s47 s48 s49 s50 s51 s52
        clear ps
        have stC : ∀ (Y : List ByteArray) a w, jmt.Calm Y → Same8 (mended Y) Y → InShape C shO (stO lc i Y (O8 Y)) a w → wpL Try.prog (lpO.drop 3) (fun e a' w' => (e = .normal ∧ ∃ n', n' < 5 - i ∧ ∃ (i' : Nat) (M : List ByteArray), i' ≤ 5 ∧ n' = 5 - i' ∧ jmt.Calm M ∧ Same8 (mended M) M ∧ InShape C shO (stO lc i' M (O8 M)) a' w') ∨ (e = .exit (blockId (nth flM 8)) ∧ wpL Try.prog (flM.drop 9) (fun (e : Exit) (a' : Act) (w' : World) => (e = .normal ∨ e = .ret) ∧ ∃ sh' ps' es, InShape C sh' ps' a' w' ∧ resTo Try.prog Try.f6 sh' (ELaw k0) = some es ∧ evs (fun i => ps'[i]?) G es = some [pB true]) a' w') ∨ (e = .ret ∧ (fun (e : Exit) (a' : Act) (w' : World) => (e = .normal ∨ e = .ret) ∧ ∃ sh' ps' es, InShape C sh' ps' a' w' ∧ resTo Try.prog Try.f6 sh' (ELaw k0) = some es ∧ evs (fun i => ps'[i]?) G es = some [pB true]) .ret a' w')) a w := by
          intro Y act w hcY hYY hin
          obtain ⟨ps, hps⟩ : ∃ ps : List PV, ps = stO lc i Y (O8 Y) := ⟨_, rfl⟩
          rw [← hps] at hin
          obtain ⟨s0, s1, s2, s3, s4, s5, s6, s7, s8, s9, s10, s11, s12, s13, s14, s15, s16, s17, s18, s19, s20, s21, s22, s23, s24, s25, s26, s27, s28, s29, s30, s31, s32, s33, s34, s35, s36, s37, s38, s39, s40, s41, s42, s43, s44, s45, s46, s47, s48, s49, s50, s51, s52⟩ := atO hlc hps
          clear hps
          have v3 : IntKind.i64.wrap ((i : Int) + 1) = (i : Int) + 1 := wrapI _ (by omega) (by omega)
          rw [← List.append_nil (lpO.drop 3)]
          refine seg_ok eng.names_ok eng.mixed_ok (orcFn_ok _) stp hin ?_ ?_
          · simp only [List.mem_cons, List.not_mem_nil, or_false, forall_eq_or_imp, forall_eq]
            simp [holds_idxP, holds_cellsP, Base.ev, SX.ev, evs, Value.oneCell', binPV, v3, s0, s1, s2, s3, s4, s5, s6, s7, s8, s9, s10, s11, s12, s13, s14, s15, s16, s17, s18, s19, s20, s21, s22, s23, s24, s25, s26, s27, s28, s29, s30, s31, s32, s33, s34, s35, s36, s37, s38, s39, s40, s41, s42, s43, s44, s45, s46, s47, s48, s49, s50, s51, s52]
          intro qs a1 w1 hq h1
          refine ⟨fun _ => .inl ⟨rfl, 5 - (i + 1), by omega, i + 1, Y, by omega, rfl, hcY, hYY, ?_⟩, fun h => absurd rfl h⟩
          simp [evs, SX.ev, binPV, v3, s0, s1, s2, s3, s4, s5, s6, s7, s8, s9, s10, s11, s12, s13, s14, s15, s16, s17, s18, s19, s20, s21, s22, s23, s24, s25, s26, s27, s28, s29, s30, s31, s32, s33, s34, s35, s36, s37, s38, s39, s40, s41, s42, s43, s44, s45, s46, s47, s48, s49, s50, s51, s52] at hq
          subst hq
          rw [hlc]
          exact h1
        refine block_in ?_
        show wpL Try.prog lpB _ _ _
        match i, hin, hlt with
        | 0, hin, _ =>
          obtain ⟨Y, hcY, hY, hYs, hYY⟩ := commit_now hcM hpA hMM
          have f7 := G7now hcM hpA hY
          obtain ⟨ps, hps⟩ : ∃ ps : List PV, ps = stO lc 0 M (O8 M) := ⟨_, rfl⟩
          rw [← hps] at hin
          obtain ⟨s0, s1, s2, s3, s4, s5, s6, s7, s8, s9, s10, s11, s12, s13, s14, s15, s16, s17, s18, s19, s20, s21, s22, s23, s24, s25, s26, s27, s28, s29, s30, s31, s32, s33, s34, s35, s36, s37, s38, s39, s40, s41, s42, s43, s44, s45, s46, s47, s48, s49, s50, s51, s52⟩ := atO hlc hps
          clear hps
          have g1 : evs (fun i => ps[i]?) G z1 = some [pRow encS M, pRow encP [], pI 0, pB false, pI 8, pRow encP mA] := by
            simp [z1, evs, SX.ev, f6A, s0, s1, s2, s3, s4, s5, s6, s7, s8, s9, s10, s11, s12, s13, s14, s15, s16, s17, s18, s19, s20, s21, s22, s23, s24, s25, s26, s27, s28, s29, s30, s31, s32, s33, s34, s35, s36, s37, s38, s39, s40, s41, s42, s43, s44, s45, s46, s47, s48, s49, s50, s51, s52]
          rw [← List.take_append_drop 5 lpB]
          refine seg_ok eng.names_ok eng.mixed_ok (orcFn_ok _) b0 hin ?_ ?_
          · simp only [List.mem_cons, List.not_mem_nil, or_false, forall_eq_or_imp, forall_eq]
            simp [holds_idxP, holds_cellsP, Base.ev, SX.ev, evs, Value.oneCell', hF, f6A, u6, g1, f7, u7, s0, s1, s2, s3, s4, s5, s6, s7, s8, s9, s10, s11, s12, s13, s14, s15, s16, s17, s18, s19, s20, s21, s22, s23, s24, s25, s26, s27, s28, s29, s30, s31, s32, s33, s34, s35, s36, s37, s38, s39, s40, s41, s42, s43, s44, s45, s46, s47, s48, s49, s50, s51, s52]
          · intro qs a1 w1 hq h1
            refine ⟨fun _ => inner 0 mA M (by omega) hpA hcM Y hcY hYs hYY _ (fun a w h => .inl ⟨rfl, stC Y a w hcY hYY h⟩) a1 w1 ?_, fun h => absurd rfl h⟩
            simp [evs, SX.ev, hF, f6A, g1, f7, s0, s1, s2, s3, s4, s5, s6, s7, s8, s9, s10, s11, s12, s13, s14, s15, s16, s17, s18, s19, s20, s21, s22, s23, s24, s25, s26, s27, s28, s29, s30, s31, s32, s33, s34, s35, s36, s37, s38, s39, s40, s41, s42, s43, s44, s45, s46, s47, s48, s49, s50, s51, s52] at hq
            subst hq
            rw [hlc]
            exact h1
        | 1, hin, _ =>
          obtain ⟨Y, hcY, hY, hYs, hYY⟩ := commit_now hcM hpB hMM
          have f7 := G7now hcM hpB hY
          obtain ⟨ps, hps⟩ : ∃ ps : List PV, ps = stO lc 1 M (O8 M) := ⟨_, rfl⟩
          rw [← hps] at hin
          obtain ⟨s0, s1, s2, s3, s4, s5, s6, s7, s8, s9, s10, s11, s12, s13, s14, s15, s16, s17, s18, s19, s20, s21, s22, s23, s24, s25, s26, s27, s28, s29, s30, s31, s32, s33, s34, s35, s36, s37, s38, s39, s40, s41, s42, s43, s44, s45, s46, s47, s48, s49, s50, s51, s52⟩ := atO hlc hps
          clear hps
          have g1 : evs (fun i => ps[i]?) G z2 = some [pRow encS M, pRow encP [], pI 0, pB false, pI 8, pRow encP mB] := by
            simp [z2, evs, SX.ev, f6B, s0, s1, s2, s3, s4, s5, s6, s7, s8, s9, s10, s11, s12, s13, s14, s15, s16, s17, s18, s19, s20, s21, s22, s23, s24, s25, s26, s27, s28, s29, s30, s31, s32, s33, s34, s35, s36, s37, s38, s39, s40, s41, s42, s43, s44, s45, s46, s47, s48, s49, s50, s51, s52]
          rw [← List.take_append_drop 5 lpB]
          refine seg_ok eng.names_ok eng.mixed_ok (orcFn_ok _) b1 hin ?_ ?_
          · simp only [List.mem_cons, List.not_mem_nil, or_false, forall_eq_or_imp, forall_eq]
            simp [holds_idxP, holds_cellsP, Base.ev, SX.ev, evs, Value.oneCell', hF, f6B, u6, g1, f7, u7, s0, s1, s2, s3, s4, s5, s6, s7, s8, s9, s10, s11, s12, s13, s14, s15, s16, s17, s18, s19, s20, s21, s22, s23, s24, s25, s26, s27, s28, s29, s30, s31, s32, s33, s34, s35, s36, s37, s38, s39, s40, s41, s42, s43, s44, s45, s46, s47, s48, s49, s50, s51, s52]
          · intro qs a1 w1 hq h1
            refine ⟨fun _ => inner 1 mB M (by omega) hpB hcM Y hcY hYs hYY _ (fun a w h => .inl ⟨rfl, stC Y a w hcY hYY h⟩) a1 w1 ?_, fun h => absurd rfl h⟩
            simp [evs, SX.ev, hF, f6B, g1, f7, s0, s1, s2, s3, s4, s5, s6, s7, s8, s9, s10, s11, s12, s13, s14, s15, s16, s17, s18, s19, s20, s21, s22, s23, s24, s25, s26, s27, s28, s29, s30, s31, s32, s33, s34, s35, s36, s37, s38, s39, s40, s41, s42, s43, s44, s45, s46, s47, s48, s49, s50, s51, s52] at hq
            subst hq
            rw [hlc]
            exact h1
        | 2, hin, _ =>
          obtain ⟨Y, hcY, hY, hYs, hYY⟩ := commit_now hcM hpC hMM
          have f7 := G7now hcM hpC hY
          obtain ⟨ps, hps⟩ : ∃ ps : List PV, ps = stO lc 2 M (O8 M) := ⟨_, rfl⟩
          rw [← hps] at hin
          obtain ⟨s0, s1, s2, s3, s4, s5, s6, s7, s8, s9, s10, s11, s12, s13, s14, s15, s16, s17, s18, s19, s20, s21, s22, s23, s24, s25, s26, s27, s28, s29, s30, s31, s32, s33, s34, s35, s36, s37, s38, s39, s40, s41, s42, s43, s44, s45, s46, s47, s48, s49, s50, s51, s52⟩ := atO hlc hps
          clear hps
          have g1 : evs (fun i => ps[i]?) G z3 = some [pRow encS M, pRow encP [], pI 0, pB false, pI 8, pRow encP mC] := by
            simp [z3, evs, SX.ev, f6C, s0, s1, s2, s3, s4, s5, s6, s7, s8, s9, s10, s11, s12, s13, s14, s15, s16, s17, s18, s19, s20, s21, s22, s23, s24, s25, s26, s27, s28, s29, s30, s31, s32, s33, s34, s35, s36, s37, s38, s39, s40, s41, s42, s43, s44, s45, s46, s47, s48, s49, s50, s51, s52]
          rw [← List.take_append_drop 5 lpB]
          refine seg_ok eng.names_ok eng.mixed_ok (orcFn_ok _) b2 hin ?_ ?_
          · simp only [List.mem_cons, List.not_mem_nil, or_false, forall_eq_or_imp, forall_eq]
            simp [holds_idxP, holds_cellsP, Base.ev, SX.ev, evs, Value.oneCell', hF, f6C, u6, g1, f7, u7, s0, s1, s2, s3, s4, s5, s6, s7, s8, s9, s10, s11, s12, s13, s14, s15, s16, s17, s18, s19, s20, s21, s22, s23, s24, s25, s26, s27, s28, s29, s30, s31, s32, s33, s34, s35, s36, s37, s38, s39, s40, s41, s42, s43, s44, s45, s46, s47, s48, s49, s50, s51, s52]
          · intro qs a1 w1 hq h1
            refine ⟨fun _ => inner 2 mC M (by omega) hpC hcM Y hcY hYs hYY _ (fun a w h => .inl ⟨rfl, stC Y a w hcY hYY h⟩) a1 w1 ?_, fun h => absurd rfl h⟩
            simp [evs, SX.ev, hF, f6C, g1, f7, s0, s1, s2, s3, s4, s5, s6, s7, s8, s9, s10, s11, s12, s13, s14, s15, s16, s17, s18, s19, s20, s21, s22, s23, s24, s25, s26, s27, s28, s29, s30, s31, s32, s33, s34, s35, s36, s37, s38, s39, s40, s41, s42, s43, s44, s45, s46, s47, s48, s49, s50, s51, s52] at hq
            subst hq
            rw [hlc]
            exact h1
        | 3, hin, _ =>
          obtain ⟨Y, hcY, hY, hYs, hYY⟩ := commit_now hcM hpD hMM
          have f7 := G7now hcM hpD hY
          obtain ⟨ps, hps⟩ : ∃ ps : List PV, ps = stO lc 3 M (O8 M) := ⟨_, rfl⟩
          rw [← hps] at hin
          obtain ⟨s0, s1, s2, s3, s4, s5, s6, s7, s8, s9, s10, s11, s12, s13, s14, s15, s16, s17, s18, s19, s20, s21, s22, s23, s24, s25, s26, s27, s28, s29, s30, s31, s32, s33, s34, s35, s36, s37, s38, s39, s40, s41, s42, s43, s44, s45, s46, s47, s48, s49, s50, s51, s52⟩ := atO hlc hps
          clear hps
          have g1 : evs (fun i => ps[i]?) G z4 = some [pRow encS M, pRow encP [], pI 0, pB false, pI 8, pRow encP mD] := by
            simp [z4, evs, SX.ev, f6D, s0, s1, s2, s3, s4, s5, s6, s7, s8, s9, s10, s11, s12, s13, s14, s15, s16, s17, s18, s19, s20, s21, s22, s23, s24, s25, s26, s27, s28, s29, s30, s31, s32, s33, s34, s35, s36, s37, s38, s39, s40, s41, s42, s43, s44, s45, s46, s47, s48, s49, s50, s51, s52]
          rw [← List.take_append_drop 5 lpB]
          refine seg_ok eng.names_ok eng.mixed_ok (orcFn_ok _) b3 hin ?_ ?_
          · simp only [List.mem_cons, List.not_mem_nil, or_false, forall_eq_or_imp, forall_eq]
            simp [holds_idxP, holds_cellsP, Base.ev, SX.ev, evs, Value.oneCell', hF, f6D, u6, g1, f7, u7, s0, s1, s2, s3, s4, s5, s6, s7, s8, s9, s10, s11, s12, s13, s14, s15, s16, s17, s18, s19, s20, s21, s22, s23, s24, s25, s26, s27, s28, s29, s30, s31, s32, s33, s34, s35, s36, s37, s38, s39, s40, s41, s42, s43, s44, s45, s46, s47, s48, s49, s50, s51, s52]
          · intro qs a1 w1 hq h1
            refine ⟨fun _ => inner 3 mD M (by omega) hpD hcM Y hcY hYs hYY _ (fun a w h => .inl ⟨rfl, stC Y a w hcY hYY h⟩) a1 w1 ?_, fun h => absurd rfl h⟩
            simp [evs, SX.ev, hF, f6D, g1, f7, s0, s1, s2, s3, s4, s5, s6, s7, s8, s9, s10, s11, s12, s13, s14, s15, s16, s17, s18, s19, s20, s21, s22, s23, s24, s25, s26, s27, s28, s29, s30, s31, s32, s33, s34, s35, s36, s37, s38, s39, s40, s41, s42, s43, s44, s45, s46, s47, s48, s49, s50, s51, s52] at hq
            subst hq
            rw [hlc]
            exact h1
        | 4, hin, _ =>
          obtain ⟨Y, hcY, hY, hYs, hYY⟩ := commit_now hcM hpE hMM
          have f7 := G7now hcM hpE hY
          obtain ⟨ps, hps⟩ : ∃ ps : List PV, ps = stO lc 4 M (O8 M) := ⟨_, rfl⟩
          rw [← hps] at hin
          obtain ⟨s0, s1, s2, s3, s4, s5, s6, s7, s8, s9, s10, s11, s12, s13, s14, s15, s16, s17, s18, s19, s20, s21, s22, s23, s24, s25, s26, s27, s28, s29, s30, s31, s32, s33, s34, s35, s36, s37, s38, s39, s40, s41, s42, s43, s44, s45, s46, s47, s48, s49, s50, s51, s52⟩ := atO hlc hps
          clear hps
          have g1 : evs (fun i => ps[i]?) G z5 = some [pRow encS M, pRow encP [], pI 0, pB false, pI 8, pRow encP mE] := by
            simp [z5, evs, SX.ev, f6E, s0, s1, s2, s3, s4, s5, s6, s7, s8, s9, s10, s11, s12, s13, s14, s15, s16, s17, s18, s19, s20, s21, s22, s23, s24, s25, s26, s27, s28, s29, s30, s31, s32, s33, s34, s35, s36, s37, s38, s39, s40, s41, s42, s43, s44, s45, s46, s47, s48, s49, s50, s51, s52]
          rw [← List.take_append_drop 5 lpB]
          refine seg_ok eng.names_ok eng.mixed_ok (orcFn_ok _) b4 hin ?_ ?_
          · simp only [List.mem_cons, List.not_mem_nil, or_false, forall_eq_or_imp, forall_eq]
            simp [holds_idxP, holds_cellsP, Base.ev, SX.ev, evs, Value.oneCell', hF, f6E, u6, g1, f7, u7, s0, s1, s2, s3, s4, s5, s6, s7, s8, s9, s10, s11, s12, s13, s14, s15, s16, s17, s18, s19, s20, s21, s22, s23, s24, s25, s26, s27, s28, s29, s30, s31, s32, s33, s34, s35, s36, s37, s38, s39, s40, s41, s42, s43, s44, s45, s46, s47, s48, s49, s50, s51, s52]
          · intro qs a1 w1 hq h1
            refine ⟨fun _ => inner 4 mE M (by omega) hpE hcM Y hcY hYs hYY _ (fun a w h => .inl ⟨rfl, stC Y a w hcY hYY h⟩) a1 w1 ?_, fun h => absurd rfl h⟩
            simp [evs, SX.ev, hF, f6E, g1, f7, s0, s1, s2, s3, s4, s5, s6, s7, s8, s9, s10, s11, s12, s13, s14, s15, s16, s17, s18, s19, s20, s21, s22, s23, s24, s25, s26, s27, s28, s29, s30, s31, s32, s33, s34, s35, s36, s37, s38, s39, s40, s41, s42, s43, s44, s45, s46, s47, s48, s49, s50, s51, s52] at hq
            subst hq
            rw [hlc]
            exact h1
      · obtain rfl : i = 5 := by omega
        rw [← List.append_nil lpO]
        refine seg_ok eng.names_ok eng.mixed_ok (orcFn_ok _) oex hin ?_ ?_
        · simp only [List.mem_cons, List.not_mem_nil, or_false, forall_eq_or_imp, forall_eq]
          simp [holds_idxP, holds_cellsP, Base.ev, SX.ev, evs, Value.oneCell', binPV, s0, s1, s2, s3, s4, s5, s6, s7, s8, s9, s10, s11, s12, s13, s14, s15, s16, s17, s18, s19, s20, s21, s22, s23, s24, s25, s26, s27, s28, s29, s30, s31, s32, s33, s34, s35, s36, s37, s38, s39, s40, s41, s42, s43, s44, s45, s46, s47, s48, s49, s50, s51, s52]
        intro qs a1 w1 hq h1
        refine ⟨fun h => (by cases h), fun _ => .inr (.inl ⟨by rw [show blockId (nth flM 8) = 2 by kernel_rfl]; rfl, ?_⟩)⟩
        have hqs : qs = stO lc 5 M (O8 M) := by
          simp [evs, SX.ev, s0, s1, s2, s3, s4, s5, s6, s7, s8, s9, s10, s11, s12, s13, s14, s15, s16, s17, s18, s19, s20, s21, s22, s23, s24, s25, s26, s27, s28, s29, s30, s31, s32, s33, s34, s35, s36, s37, s38, s39, s40, s41, s42, s43, s44, s45, s46, s47, s48, s49, s50, s51, s52] at hq
          rw [← hq, hlc]
          rfl
        subst hqs
        clear hq hin hin0
        replace hin := h1
        clear h1 s0 s1 s2 s3 s4 s5 s6 s7 s8 s9 s10 s11 s12 s13 s14 s15 s16 s17 s18 s19 s20 s21 s22 s23 s24 s25 s26 s27 s28 s29 s30 s31 s32 s33 s34 s35 s36 s37 s38 s39 s40 s41 s42 s43 s44 s45 s46 s47 s48 s49 s50 s51 s52
        clear ps
        obtain ⟨ps, hps⟩ : ∃ ps : List PV, ps = stO lc 5 M (O8 M) := ⟨_, rfl⟩
        rw [← hps] at hin
        obtain ⟨s0, s1, s2, s3, s4, s5, s6, s7, s8, s9, s10, s11, s12, s13, s14, s15, s16, s17, s18, s19, s20, s21, s22, s23, s24, s25, s26, s27, s28, s29, s30, s31, s32, s33, s34, s35, s36, s37, s38, s39, s40, s41, s42, s43, s44, s45, s46, s47, s48, s49, s50, s51, s52⟩ := atO hlc hps
        clear hps
        rw [← List.append_nil (flM.drop 9)]
        refine seg_ok eng.names_ok eng.mixed_ok (orcFn_ok _) fn hin ?_ (fun qs a1 w1 hq h1 => fin qs a1 w1 (by simp [evs, SX.ev, lenPV_row, binPV, s0, s1, s2, s3, s4, s5, s6, s7, s8, s9, s10, s11, s12, s13, s14, s15, s16, s17, s18, s19, s20, s21, s22, s23, s24, s25, s26, s27, s28, s29, s30, s31, s32, s33, s34, s35, s36, s37, s38, s39, s40, s41, s42, s43, s44, s45, s46, s47, s48, s49, s50, s51, s52] at hq; exact hq.symm) h1)
        simp only [List.mem_cons, List.not_mem_nil, or_false, forall_eq_or_imp, forall_eq]
        simp [holds_idxP, holds_cellsP, Base.ev, SX.ev, evs, Value.oneCell', lenPV_row, binPV, s0, s1, s2, s3, s4, s5, s6, s7, s8, s9, s10, s11, s12, s13, s14, s15, s16, s17, s18, s19, s20, s21, s22, s23, s24, s25, s26, s27, s28, s29, s30, s31, s32, s33, s34, s35, s36, s37, s38, s39, s40, s41, s42, s43, s44, s45, s46, s47, s48, s49, s50, s51, s52]
    have s0 : lc[0]? = some (pU (xa0 : Int)) := by rw [hlc]; rfl
    have s1 : lc[1]? = some (pU (xa1 : Int)) := by rw [hlc]; rfl
    have s2 : lc[2]? = some (pU (xa2 : Int)) := by rw [hlc]; rfl
    have s3 : lc[3]? = some (pU (xa3 : Int)) := by rw [hlc]; rfl
    have s4 : lc[4]? = some (pU (xa4 : Int)) := by rw [hlc]; rfl
    have s5 : lc[5]? = some (pU (xa5 : Int)) := by rw [hlc]; rfl
    have s6 : lc[6]? = some (pU (xa6 : Int)) := by rw [hlc]; rfl
    have s7 : lc[7]? = some (pU (xa7 : Int)) := by rw [hlc]; rfl
    have s8 : lc[8]? = some (pU (xb0 : Int)) := by rw [hlc]; rfl
    have s9 : lc[9]? = some (pU (xb1 : Int)) := by rw [hlc]; rfl
    have s10 : lc[10]? = some (pU (xb2 : Int)) := by rw [hlc]; rfl
    have s11 : lc[11]? = some (pU (xb3 : Int)) := by rw [hlc]; rfl
    have s12 : lc[12]? = some (pU (xb4 : Int)) := by rw [hlc]; rfl
    have s13 : lc[13]? = some (pU (xb5 : Int)) := by rw [hlc]; rfl
    have s14 : lc[14]? = some (pU (xb6 : Int)) := by rw [hlc]; rfl
    have s15 : lc[15]? = some (pU (xb7 : Int)) := by rw [hlc]; rfl
    have s16 : lc[16]? = some (pU (xc0 : Int)) := by rw [hlc]; rfl
    have s17 : lc[17]? = some (pU (xc1 : Int)) := by rw [hlc]; rfl
    have s18 : lc[18]? = some (pU (xc2 : Int)) := by rw [hlc]; rfl
    have s19 : lc[19]? = some (pU (xc3 : Int)) := by rw [hlc]; rfl
    have s20 : lc[20]? = some (pU (xc4 : Int)) := by rw [hlc]; rfl
    have s21 : lc[21]? = some (pU (xc5 : Int)) := by rw [hlc]; rfl
    have s22 : lc[22]? = some (pU (xc6 : Int)) := by rw [hlc]; rfl
    have s23 : lc[23]? = some (pU (xc7 : Int)) := by rw [hlc]; rfl
    have s24 : lc[24]? = some (pU (xd0 : Int)) := by rw [hlc]; rfl
    have s25 : lc[25]? = some (pU (xd1 : Int)) := by rw [hlc]; rfl
    have s26 : lc[26]? = some (pU (xd2 : Int)) := by rw [hlc]; rfl
    have s27 : lc[27]? = some (pU (xd3 : Int)) := by rw [hlc]; rfl
    have s28 : lc[28]? = some (pU (xd4 : Int)) := by rw [hlc]; rfl
    have s29 : lc[29]? = some (pU (xd5 : Int)) := by rw [hlc]; rfl
    have s30 : lc[30]? = some (pU (xd6 : Int)) := by rw [hlc]; rfl
    have s31 : lc[31]? = some (pU (xd7 : Int)) := by rw [hlc]; rfl
    have s32 : lc[32]? = some (pU (xe0 : Int)) := by rw [hlc]; rfl
    have s33 : lc[33]? = some (pU (xe1 : Int)) := by rw [hlc]; rfl
    have s34 : lc[34]? = some (pU (xe2 : Int)) := by rw [hlc]; rfl
    have s35 : lc[35]? = some (pU (xe3 : Int)) := by rw [hlc]; rfl
    have s36 : lc[36]? = some (pU (xe4 : Int)) := by rw [hlc]; rfl
    have s37 : lc[37]? = some (pU (xe5 : Int)) := by rw [hlc]; rfl
    have s38 : lc[38]? = some (pU (xe6 : Int)) := by rw [hlc]; rfl
    have s39 : lc[39]? = some (pU (xe7 : Int)) := by rw [hlc]; rfl
    refine seg_ok eng.names_ok eng.mixed_ok (orcFn_ok _) pre hin ?_ ?_
    · simp only [List.mem_cons, List.not_mem_nil, or_false, forall_eq_or_imp, forall_eq]
      simp [holds_idxP, holds_cellsP, Base.ev, SX.ev, evs, Value.oneCell', hF, G5, u5, G1, u1, s0, s1, s2, s3, s4, s5, s6, s7, s8, s9, s10, s11, s12, s13, s14, s15, s16, s17, s18, s19, s20, s21, s22, s23, s24, s25, s26, s27, s28, s29, s30, s31, s32, s33, s34, s35, s36, s37, s38, s39]
    intro qs a1 w1 hq h1
    refine ⟨fun _ => out a1 w1 ?_, fun h => absurd rfl h⟩
    simp [evs, SX.ev, hF, G1, s0, s1, s2, s3, s4, s5, s6, s7, s8, s9, s10, s11, s12, s13, s14, s15, s16, s17, s18, s19, s20, s21, s22, s23, s24, s25, s26, s27, s28, s29, s30, s31, s32, s33, s34, s35, s36, s37, s38, s39] at hq
    subst hq
    rw [hlc]
    exact h1
theorem natsK {k : Nat} {z : List Int} (n : z.length = k) (w : ∀ x ∈ z, (Lit.int .u8 x).wf = true) : ∃ l : List Nat, l.length = k ∧ (∀ x ∈ l, x < 256) ∧ z = l.map fun (x : Nat) => (x : Int) := by
  have hb : ∀ x ∈ z, 0 ≤ x ∧ x < 256 := fun x hx => by
    have := bounds_u8 (w x hx)
    omega
  refine ⟨z.map Int.toNat, by simpa using n, fun x hx => ?_, ?_⟩
  · obtain ⟨y, hy, rfl⟩ := List.mem_map.1 hx
    have := hb y hy
    omega
  · rw [List.map_map]
    apply List.ext_getElem (by simp)
    intro i h1 h2
    have := hb z[i] (List.getElem_mem h1)
    simp
    omega
theorem split40 {l : List Nat} (h : l.length = 40) : ∃ A B C D E : List Nat, A.length = 8 ∧ B.length = 8 ∧ C.length = 8 ∧ D.length = 8 ∧ E.length = 8 ∧ l = A ++ (B ++ (C ++ (D ++ E))) :=
  ⟨l.take 8, (l.drop 8).take 8, ((l.drop 8).drop 8).take 8, (((l.drop 8).drop 8).drop 8).take 8, (((l.drop 8).drop 8).drop 8).drop 8, by simp; omega, by simp; omega, by simp; omega, by simp; omega, by simp; omega, by rw [List.take_append_drop, List.take_append_drop, List.take_append_drop, List.take_append_drop]⟩
theorem walk (w : World) (z0 : List Int) (n0 : z0.length = 5 * 8) (w0 : ∀ z ∈ z0, (Lit.int .u8 z).wf = true) :
    Calls Try.prog 6 #[.agg (z0.map (Value.int .u8)).toArray] w fun e w' => e = .returned (.bool true) ∧ Ex w w' := by
  obtain ⟨l, hl, hb, rfl⟩ := natsK n0 w0
  have hl' : l.length = 40 := hl
  obtain ⟨us, hus⟩ : ∃ us, (l.map fun (x : Nat) => (x : Int)).map (Value.int .u8) = us := ⟨_, rfl⟩
  have hsp : spec RL (lu l) = some [pB true] := by
    obtain ⟨A, B, C, D, E, hA, hB, hC, hD, hE, he⟩ := split40 hl'
    refine spec_of fL ⟨A, B, C, D, E, hA, hB, hC, hD, hE, ?_, ?_, rfl⟩
    · rw [← he]; exact hb
    · rw [he]; simp [lu]
  have hul : us.length = 40 := by rw [← hus]; simpa using hl'
  rw [hus]
  have hargs : (#[.agg us.toArray] : Array Value) = (assemble (ELaw 0).ins us).toArray := by
    simp only [ELaw, assemble]
    rw [List.take_of_length_le (by omega)]
  rw [hargs]
  refine told_true (told 0) rfl hsp (by rw [hul]; simp [lu, hl']) (by show (lu l).length = 40; simp [lu, hl']) (fun i p u hp hu => ?_)
  rw [← hus] at hu
  simp only [lu, List.getElem?_map, Option.map_eq_some_iff] at hp hu
  obtain ⟨x, hx, rfl⟩ := hp
  obtain ⟨y, ⟨y', hy', rfl⟩, rfl⟩ := hu
  rw [hx] at hy'
  cases hy'
  exact plainReads rfl
end Go.Proofs.Ytegfdigljpnhcaa.jrnlMany
