/- What lasts behind each deed (package state): flushed. -/
import Derived.Test.YtnelcjofgpplgaaSop
namespace Go.Proofs.Ytnelcjofgpplgaa.sta
open Go Go.RowKit eng SX Fact fil fileFronts dirs pck may
open fileFronts
open pck hiding F F20 F21
open dirs hiding shR shRl shRR flR lpR cutR f0 f1 f2 f3 m0 m1 m2 x2 x3 n1
open may hiding m1 m2 m3 m4 r1 r2 r3 r4 r5
set_option linter.unusedVariables false
set_option linter.unusedSimpArgs false
set_option maxRecDepth 1000000

@[simp] def zSfl1 : SX := rop (ROp.upd 3 1) [rop (ROp.upd 3 2) [.fn 13 [.var 0, .var 1, .var 2] 0, .bin .sub (.var 5) (.con (.int .i64 1)), .fn 11 [.cell (.fn 13 [.var 0, .var 1, .var 2] 0) (.bin .sub (.var 5) (.con (.int .i64 1))) 3 2, .var 6] 0], .bin .sub (.var 5) (.con (.int .i64 1)), .bin .add (rop ROp.min2 [.cell (.fn 13 [.var 0, .var 1, .var 2] 0) (.bin .sub (.var 5) (.con (.int .i64 1))) 3 1, .con (.int .i64 1073741823)]) (.con (.int .i64 1))]
@[simp] def zSfl2 : List SX := [.var 0, .var 1, .var 2]
@[simp] def zSfl3 : SX := .bin .sub (.var 5) (.con (.int .i64 1))
@[simp] def zSfl4 : SX := .con (.int .i64 1)
@[simp] def zSfl5 : SX := .con (.int .i64 0)
@[simp] def zSfl6 : SX := .bin .eql (.cell (.fn 13 zSfl2 0) zSfl3 3 0) (.con (.string { data := { toList := [] } }))
@[simp] def zSfl7 : SX := .fn 13 zSfl2 0
@[simp] def zSfl8 : Fact := same (.len (.fn 13 zSfl2 1)) (.len (.fn 13 zSfl2 1))
@[simp] def zSfl9 : SX := .len (.var 6)
@[simp] def zSfl10 : List SX := [.var 4, zSfl4, .con (.int .i64 1073741824)]
@[simp] def zSfl11 : Fact := Fact.fx 51 (EMb 5) ([pvS1, pvS2, pvS3]) [zSfl7, .fn 13 zSfl2 1, .fn 13 zSfl2 2]
@[simp] def zSfl12 : List SX := [.cell (.var 6) zSfl5 2 0, .cell (.var 6) zSfl5 2 1]
@[simp] def zSfl13 : Fact := .is (.fn 5 [zSfl7, .fn 13 zSfl2 1, .fn 13 zSfl2 2] 0) (.int .i64 0)
@[simp] def zSfl14 : SX := .con (.int .i64 3)
@[simp] def zSfl15 : SX := .con (.int .i64 2)
@[simp] def zSfl16 : List SX := [.cell (.var 6) zSfl4 2 0, .cell (.var 6) zSfl4 2 1]
@[simp] def zSfl17 : SX := .bin .gtr (.var 5) (.len zSfl7)
@[simp] def zSfl18 : List SX := [zSfl7, .fn 9 [.fn 13 zSfl2 1, .var 3, .var 4, zSfl4, zSfl5, zSfl5] 0, .fn 13 zSfl2 2, .var 4, zSfl4, zSfl5, zSfl5]
@[simp] def zSfl19 : Fact := Fact.fx 73 (EFr 2) ([pvS3]) [.var 3, zSfl4, zSfl14]
@[simp] def zSfl20 : Fact := .is (.fn 2 [.var 3, zSfl4, zSfl14] 0) (.int .i64 0)
@[simp] def zSfl21 : SX := .bin .gtr zSfl9 (.con (.int .i64 5))
@[simp] def zSfl22 : Fact := same (.len zSfl7) (.len zSfl7)
@[simp] def zSfl23 : List SX := [.fn 13 zSfl2 1, .var 3, .var 4, zSfl5, .var 5, .cell zSfl1 zSfl3 3 1]
@[simp] def zSfl24 : SX := rop ROp.min2 [.cell zSfl7 zSfl3 3 1, .con (.int .i64 1073741823)]
@[simp] def zSfl25 : List SX := [.cell (.var 6) zSfl15 2 0, .cell (.var 6) zSfl15 2 1]
@[simp] def zSfl26 : SX := .bin .lss (.var 5) zSfl4
@[simp] def zSfl27 : Fact := Fact.fx 73 (EFr 2) ([pvS3]) zSfl10
@[simp] def zSfl28 : Fact := .is (.fn 2 zSfl10 0) (.int .i64 0)
@[simp] def zSfl29 : Fact := rng zSfl3 (.len zSfl7)
@[simp] def zSfl30 : Fact := .fn 60 (EPutM 9) [.fn 13 zSfl2 1, .var 3, .var 4, zSfl4, zSfl5, zSfl5]
@[simp] def zSfl31 : Fact := .is (.bin .lss zSfl9 zSfl4) (.bool false)
@[simp] def zSfl32 : List SX := [.cell zSfl7 zSfl3 3 2, .var 6]
@[simp] def zSfl33 : List SX := [.cell (.var 6) zSfl14 2 0, .cell (.var 6) zSfl14 2 1]
@[simp] def zSfl34 : Fact := .idx (.var 6) zSfl5 2 2
@[simp] def zSfl35 : List SX := [zSfl1, .fn 9 zSfl23 0, .fn 13 zSfl2 2, .var 4, zSfl5, .var 5, .cell zSfl1 zSfl3 3 1]
@[simp] def zSfl36 : Fact := .is (.bin .lss zSfl5 zSfl9) (.bool true)
@[simp] def zSfl37 : SX := .bin .lss zSfl4 zSfl9
@[simp] def zSfl38 : Fact := .idx (.var 6) zSfl4 2 2
@[simp] def zSfl39 : SX := .con (.int .i64 4)
@[simp] def zSfl40 : List SX := [.fn 13 zSfl2 1, .var 3, .var 4, zSfl15, zSfl5, zSfl5]
@[simp] def zSfl41 : Fact := .idx (rop (ROp.upd 3 2) [zSfl7, zSfl3, .fn 11 zSfl32 0]) zSfl3 3 2
@[simp] def zSfl42 : Fact := .is zSfl26 (.bool false)
@[simp] def zSfl43 : Fact := .ok (.bin .lss zSfl9 zSfl4)
@[simp] def zSfl44 : Fact := .is (.fn 10 zSfl12 0) (.bool true)
@[simp] def zSfl45 : Fact := .is zSfl17 (.bool false)
@[simp] def zSfl46 : Fact := .ok (.cell (.var 6) zSfl5 2 0)
@[simp] def zSfl47 : Fact := .ok (.cell (.var 6) zSfl5 2 1)
@[simp] def zSfl48 : Fact := .fn 47 (ECp 13) zSfl2
@[simp] def zSfl49 : SX := .bin .lss zSfl15 zSfl9
@[simp] def zSfl50 : Fact := .idx (.var 6) zSfl15 2 2
@[simp] def zSfl51 : Fact := .ok (.fn 13 zSfl2 2)
@[simp] def zSfl52 : Fact := .ok (.bin .lss zSfl5 zSfl9)
@[simp] def zSfl53 : Fact := .is zSfl6 (.bool false)
@[simp] def zSfl54 : Fact := .idx zSfl7 zSfl3 3 1
@[simp] def zSfl55 : Fact := .ok (.cell (.var 6) zSfl4 2 0)
@[simp] def zSfl56 : Fact := .ok (.cell (.var 6) zSfl4 2 1)
@[simp] def zSfl57 : Fact := .is (.fn 10 zSfl16 0) (.bool true)
@[simp] def zSfl58 : Fact := .is zSfl21 (.bool false)
@[simp] def zSfl59 : Fact := .fn 65 (EMay 10) zSfl12
@[simp] def zSfl60 : SX := .bin .lss zSfl14 zSfl9
@[simp] def zSfl61 : List SX := [.cell (.var 6) zSfl39 2 0, .cell (.var 6) zSfl39 2 1]
@[simp] def zSfl62 : List SX := [zSfl7, .fn 9 zSfl40 0, .fn 13 zSfl2 2, .var 4, zSfl15, zSfl5, zSfl5]
@[simp] def zSfl63 : Fact := .idx (.var 6) zSfl14 2 2
@[simp] def zSfl64 : Fact := .idx zSfl7 zSfl3 3 3
@[simp] def zSfl65 : Fact := .ok (.cell (.var 6) zSfl15 2 0)
@[simp] def zSfl66 : Fact := .ok (.cell (.var 6) zSfl15 2 1)
@[simp] def zSfl67 : Fact := .is zSfl37 (.bool true)
@[simp] def zSfl68 : Fact := .fn 65 (EMay 10) zSfl16
@[simp] def zSfl69 : Fact := .is (.fn 10 zSfl25 0) (.bool true)
@[simp] def zSfl70 : Fact := .ok zSfl9
@[simp] def zSfl71 : Fact := same (.len zSfl7) (.len zSfl1)
@[simp] def zSfl72 : Fact := .ok (.bin .add zSfl24 zSfl4)
@[simp] def zSfl73 : Fact := .is zSfl49 (.bool true)
@[simp] def zSfl74 : Fact := .fn 65 (EMay 10) zSfl25
@[simp] def zSfl75 : Fact := .ok (.var 2)
@[simp] def zSfl76 : Fact := .ok (.var 3)
@[simp] def zSfl77 : Fact := .ok (.var 4)
@[simp] def zSfl78 : Fact := .ok (.var 5)
@[simp] def zSfl79 : SX := .bin .lss zSfl39 zSfl9
@[simp] def zSfl80 : Fact := .ok (.cell (.var 6) zSfl14 2 0)
@[simp] def zSfl81 : Fact := .ok (.cell (.var 6) zSfl14 2 1)
@[simp] def zSfl82 : Fact := .ok zSfl3
@[simp] def zSfl83 : Fact := .fn 66 (EAll 11) zSfl32
@[simp] def zSfl84 : Fact := .fn 60 (EPutM 9) zSfl23
@[simp] def zSfl85 : Fact := .ok (.fn 11 zSfl32 0)
@[simp] def zSfl86 : Fact := .ok zSfl26
@[simp] def zSfl87 : Fact := .is (.fn 10 zSfl33 0) (.bool true)
@[simp] def zSfl88 : Fact := .idx zSfl7 zSfl3 3 2
@[simp] def zSfl89 : Fact := .idx zSfl1 zSfl3 3 2
@[simp] def zSfl90 : Fact := .idx (.var 6) zSfl39 2 2
@[simp] def zSfl91 : Fact := .ok zSfl17
@[simp] def zSfl92 : Fact := .is zSfl60 (.bool true)
@[simp] def zSfl93 : Fact := .fn 65 (EMay 10) zSfl33
theorem un1 : runTo Try.prog orcO 10000 16 (EFlush 14) [.row, .row, .num, .num, .num, .num, .row] [0, 0, 0, 1] hApp = some ([zSfl75, zSfl76, zSfl77, zSfl78, zSfl48, zSfl51, zSfl11, zSfl13, zSfl22, zSfl8, zSfl19, zSfl20, zSfl27, zSfl28, zSfl86, .is zSfl26 (.bool true), .fn 60 (EPutM 9) zSfl40, zSfl8, zSfl22], zSfl62) := by kernel_rfl
theorem un2 : runTo Try.prog orcO 10000 16 (EFlush 14) [.row, .row, .num, .num, .num, .num, .row] [0, 0, 0, 0, 1] hApp = some ([zSfl75, zSfl76, zSfl77, zSfl78, zSfl48, zSfl51, zSfl11, zSfl13, zSfl22, zSfl8, zSfl19, zSfl20, zSfl27, zSfl28, zSfl86, zSfl42, zSfl91, .is zSfl17 (.bool true), .fn 60 (EPutM 9) zSfl40, zSfl8, zSfl22], zSfl62) := by kernel_rfl
theorem un3 : runTo Try.prog orcO 10000 16 (EFlush 14) [.row, .row, .num, .num, .num, .num, .row] [0, 0, 0, 0, 0, 1] hApp = some ([zSfl75, zSfl76, zSfl77, zSfl78, zSfl48, zSfl51, zSfl11, zSfl13, zSfl22, zSfl8, zSfl19, zSfl20, zSfl27, zSfl28, zSfl86, zSfl42, zSfl91, zSfl45, zSfl82, zSfl29, zSfl54, .ok zSfl6, .is zSfl6 (.bool true), .fn 60 (EPutM 9) zSfl40, zSfl8, zSfl22], zSfl62) := by kernel_rfl
theorem ul1 : runTo Try.prog orcO 10000 16 (EFlush 14) [.row, .row, .num, .num, .num, .num, .row] [0, 0, 0, 0, 0, 0, 1] hApp = some ([zSfl75, zSfl76, zSfl77, zSfl78, zSfl48, zSfl51, zSfl11, zSfl13, zSfl22, zSfl8, zSfl19, zSfl20, zSfl27, zSfl28, zSfl86, zSfl42, zSfl91, zSfl45, zSfl82, zSfl29, zSfl54, .ok zSfl6, zSfl53, zSfl82, zSfl29, zSfl70, zSfl43, .is (.bin .lss zSfl9 zSfl4) (.bool true), zSfl30, zSfl8, zSfl22], zSfl18) := by kernel_rfl
theorem ul2 : runTo Try.prog orcO 10000 16 (EFlush 14) [.row, .row, .num, .num, .num, .num, .row] [0, 0, 0, 0, 0, 0, 0, 1] hApp = some ([zSfl75, zSfl76, zSfl77, zSfl78, zSfl48, zSfl51, zSfl11, zSfl13, zSfl22, zSfl8, zSfl19, zSfl20, zSfl27, zSfl28, zSfl86, zSfl42, zSfl91, zSfl45, zSfl82, zSfl29, zSfl54, .ok zSfl6, zSfl53, zSfl82, zSfl29, zSfl70, zSfl43, zSfl31, zSfl70, .ok zSfl21, .is zSfl21 (.bool true), zSfl30, zSfl8, zSfl22], zSfl18) := by kernel_rfl
theorem ub0 : runTo Try.prog orcO 10000 16 (EFlush 14) [.row, .row, .num, .num, .num, .num, .row] [0, 0, 0, 0, 0, 0, 0, 0, 1, 0] hApp = some ([zSfl75, zSfl76, zSfl77, zSfl78, zSfl48, zSfl51, zSfl11, zSfl13, zSfl22, zSfl8, zSfl19, zSfl20, zSfl27, zSfl28, zSfl86, zSfl42, zSfl91, zSfl45, zSfl82, zSfl29, zSfl54, .ok zSfl6, zSfl53, zSfl82, zSfl29, zSfl70, zSfl43, zSfl31, zSfl70, .ok zSfl21, zSfl58, zSfl70, zSfl52, zSfl36, zSfl34, zSfl34, zSfl46, zSfl47, zSfl59, .is (.fn 10 zSfl12 0) (.bool false), zSfl30, zSfl8, zSfl22], zSfl18) := by kernel_rfl
theorem ub1 : runTo Try.prog orcO 10000 16 (EFlush 14) [.row, .row, .num, .num, .num, .num, .row] [0, 0, 0, 0, 0, 0, 0, 0, 1, 1, 1, 0] hApp = some ([zSfl75, zSfl76, zSfl77, zSfl78, zSfl48, zSfl51, zSfl11, zSfl13, zSfl22, zSfl8, zSfl19, zSfl20, zSfl27, zSfl28, zSfl86, zSfl42, zSfl91, zSfl45, zSfl82, zSfl29, zSfl54, .ok zSfl6, zSfl53, zSfl82, zSfl29, zSfl70, zSfl43, zSfl31, zSfl70, .ok zSfl21, zSfl58, zSfl70, zSfl52, zSfl36, zSfl34, zSfl34, zSfl46, zSfl47, zSfl59, zSfl44, .ok zSfl37, zSfl67, zSfl38, zSfl38, zSfl55, zSfl56, zSfl68, .is (.fn 10 zSfl16 0) (.bool false), zSfl30, zSfl8, zSfl22], zSfl18) := by kernel_rfl
theorem ub2 : runTo Try.prog orcO 10000 16 (EFlush 14) [.row, .row, .num, .num, .num, .num, .row] [0, 0, 0, 0, 0, 0, 0, 0, 1, 1, 1, 1, 1, 0] hApp = some ([zSfl75, zSfl76, zSfl77, zSfl78, zSfl48, zSfl51, zSfl11, zSfl13, zSfl22, zSfl8, zSfl19, zSfl20, zSfl27, zSfl28, zSfl86, zSfl42, zSfl91, zSfl45, zSfl82, zSfl29, zSfl54, .ok zSfl6, zSfl53, zSfl82, zSfl29, zSfl70, zSfl43, zSfl31, zSfl70, .ok zSfl21, zSfl58, zSfl70, zSfl52, zSfl36, zSfl34, zSfl34, zSfl46, zSfl47, zSfl59, zSfl44, .ok zSfl37, zSfl67, zSfl38, zSfl38, zSfl55, zSfl56, zSfl68, zSfl57, .ok zSfl49, zSfl73, zSfl50, zSfl50, zSfl65, zSfl66, zSfl74, .is (.fn 10 zSfl25 0) (.bool false), zSfl30, zSfl8, zSfl22], zSfl18) := by kernel_rfl
theorem ub3 : runTo Try.prog orcO 10000 16 (EFlush 14) [.row, .row, .num, .num, .num, .num, .row] [0, 0, 0, 0, 0, 0, 0, 0, 1, 1, 1, 1, 1, 1, 1, 0] hApp = some ([zSfl75, zSfl76, zSfl77, zSfl78, zSfl48, zSfl51, zSfl11, zSfl13, zSfl22, zSfl8, zSfl19, zSfl20, zSfl27, zSfl28, zSfl86, zSfl42, zSfl91, zSfl45, zSfl82, zSfl29, zSfl54, .ok zSfl6, zSfl53, zSfl82, zSfl29, zSfl70, zSfl43, zSfl31, zSfl70, .ok zSfl21, zSfl58, zSfl70, zSfl52, zSfl36, zSfl34, zSfl34, zSfl46, zSfl47, zSfl59, zSfl44, .ok zSfl37, zSfl67, zSfl38, zSfl38, zSfl55, zSfl56, zSfl68, zSfl57, .ok zSfl49, zSfl73, zSfl50, zSfl50, zSfl65, zSfl66, zSfl74, zSfl69, .ok zSfl60, zSfl92, zSfl63, zSfl63, zSfl80, zSfl81, zSfl93, .is (.fn 10 zSfl33 0) (.bool false), zSfl30, zSfl8, zSfl22], zSfl18) := by kernel_rfl
theorem ub4 : runTo Try.prog orcO 10000 16 (EFlush 14) [.row, .row, .num, .num, .num, .num, .row] [0, 0, 0, 0, 0, 0, 0, 0, 1, 1, 1, 1, 1, 1, 1, 1, 1, 0] hApp = some ([zSfl75, zSfl76, zSfl77, zSfl78, zSfl48, zSfl51, zSfl11, zSfl13, zSfl22, zSfl8, zSfl19, zSfl20, zSfl27, zSfl28, zSfl86, zSfl42, zSfl91, zSfl45, zSfl82, zSfl29, zSfl54, .ok zSfl6, zSfl53, zSfl82, zSfl29, zSfl70, zSfl43, zSfl31, zSfl70, .ok zSfl21, zSfl58, zSfl70, zSfl52, zSfl36, zSfl34, zSfl34, zSfl46, zSfl47, zSfl59, zSfl44, .ok zSfl37, zSfl67, zSfl38, zSfl38, zSfl55, zSfl56, zSfl68, zSfl57, .ok zSfl49, zSfl73, zSfl50, zSfl50, zSfl65, zSfl66, zSfl74, zSfl69, .ok zSfl60, zSfl92, zSfl63, zSfl63, zSfl80, zSfl81, zSfl93, zSfl87, .ok zSfl79, .is zSfl79 (.bool true), zSfl90, zSfl90, .ok (.cell (.var 6) zSfl39 2 0), .ok (.cell (.var 6) zSfl39 2 1), .fn 65 (EMay 10) zSfl61, .is (.fn 10 zSfl61 0) (.bool false), zSfl30, zSfl8, zSfl22], zSfl18) := by kernel_rfl
theorem uy1 : runTo Try.prog orcO 10000 16 (EFlush 14) [.row, .row, .num, .num, .num, .num, .row] [0, 0, 0, 0, 0, 0, 0, 0, 1, 1, 0] hApp = some ([zSfl75, zSfl76, zSfl77, zSfl78, zSfl48, zSfl51, zSfl11, zSfl13, zSfl22, zSfl8, zSfl19, zSfl20, zSfl27, zSfl28, zSfl86, zSfl42, zSfl91, zSfl45, zSfl82, zSfl29, zSfl54, .ok zSfl6, zSfl53, zSfl82, zSfl29, zSfl70, zSfl43, zSfl31, zSfl70, .ok zSfl21, zSfl58, zSfl70, zSfl52, zSfl36, zSfl34, zSfl34, zSfl46, zSfl47, zSfl59, zSfl44, .ok zSfl37, .is zSfl37 (.bool false), zSfl64, zSfl83, zSfl85, zSfl88, .ok zSfl24, zSfl72, zSfl64, zSfl41, zSfl89, zSfl84, zSfl8, zSfl71], zSfl35) := by kernel_rfl
theorem uy2 : runTo Try.prog orcO 10000 16 (EFlush 14) [.row, .row, .num, .num, .num, .num, .row] [0, 0, 0, 0, 0, 0, 0, 0, 1, 1, 1, 1, 0] hApp = some ([zSfl75, zSfl76, zSfl77, zSfl78, zSfl48, zSfl51, zSfl11, zSfl13, zSfl22, zSfl8, zSfl19, zSfl20, zSfl27, zSfl28, zSfl86, zSfl42, zSfl91, zSfl45, zSfl82, zSfl29, zSfl54, .ok zSfl6, zSfl53, zSfl82, zSfl29, zSfl70, zSfl43, zSfl31, zSfl70, .ok zSfl21, zSfl58, zSfl70, zSfl52, zSfl36, zSfl34, zSfl34, zSfl46, zSfl47, zSfl59, zSfl44, .ok zSfl37, zSfl67, zSfl38, zSfl38, zSfl55, zSfl56, zSfl68, zSfl57, .ok zSfl49, .is zSfl49 (.bool false), zSfl64, zSfl83, zSfl85, zSfl88, .ok zSfl24, zSfl72, zSfl64, zSfl41, zSfl89, zSfl84, zSfl8, zSfl71], zSfl35) := by kernel_rfl
theorem uy3 : runTo Try.prog orcO 10000 16 (EFlush 14) [.row, .row, .num, .num, .num, .num, .row] [0, 0, 0, 0, 0, 0, 0, 0, 1, 1, 1, 1, 1, 1, 0] hApp = some ([zSfl75, zSfl76, zSfl77, zSfl78, zSfl48, zSfl51, zSfl11, zSfl13, zSfl22, zSfl8, zSfl19, zSfl20, zSfl27, zSfl28, zSfl86, zSfl42, zSfl91, zSfl45, zSfl82, zSfl29, zSfl54, .ok zSfl6, zSfl53, zSfl82, zSfl29, zSfl70, zSfl43, zSfl31, zSfl70, .ok zSfl21, zSfl58, zSfl70, zSfl52, zSfl36, zSfl34, zSfl34, zSfl46, zSfl47, zSfl59, zSfl44, .ok zSfl37, zSfl67, zSfl38, zSfl38, zSfl55, zSfl56, zSfl68, zSfl57, .ok zSfl49, zSfl73, zSfl50, zSfl50, zSfl65, zSfl66, zSfl74, zSfl69, .ok zSfl60, .is zSfl60 (.bool false), zSfl64, zSfl83, zSfl85, zSfl88, .ok zSfl24, zSfl72, zSfl64, zSfl41, zSfl89, zSfl84, zSfl8, zSfl71], zSfl35) := by kernel_rfl
theorem uy4 : runTo Try.prog orcO 10000 16 (EFlush 14) [.row, .row, .num, .num, .num, .num, .row] [0, 0, 0, 0, 0, 0, 0, 0, 1, 1, 1, 1, 1, 1, 1, 1, 0] hApp = some ([zSfl75, zSfl76, zSfl77, zSfl78, zSfl48, zSfl51, zSfl11, zSfl13, zSfl22, zSfl8, zSfl19, zSfl20, zSfl27, zSfl28, zSfl86, zSfl42, zSfl91, zSfl45, zSfl82, zSfl29, zSfl54, .ok zSfl6, zSfl53, zSfl82, zSfl29, zSfl70, zSfl43, zSfl31, zSfl70, .ok zSfl21, zSfl58, zSfl70, zSfl52, zSfl36, zSfl34, zSfl34, zSfl46, zSfl47, zSfl59, zSfl44, .ok zSfl37, zSfl67, zSfl38, zSfl38, zSfl55, zSfl56, zSfl68, zSfl57, .ok zSfl49, zSfl73, zSfl50, zSfl50, zSfl65, zSfl66, zSfl74, zSfl69, .ok zSfl60, zSfl92, zSfl63, zSfl63, zSfl80, zSfl81, zSfl93, zSfl87, .ok zSfl79, .is zSfl79 (.bool false), zSfl64, zSfl83, zSfl85, zSfl88, .ok zSfl24, zSfl72, zSfl64, zSfl41, zSfl89, zSfl84, zSfl8, zSfl71], zSfl35) := by kernel_rfl
theorem uy5 : runTo Try.prog orcO 10000 16 (EFlush 14) [.row, .row, .num, .num, .num, .num, .row] [0, 0, 0, 0, 0, 0, 0, 0, 1, 1, 1, 1, 1, 1, 1, 1, 1, 1, 0] hApp = some ([zSfl75, zSfl76, zSfl77, zSfl78, zSfl48, zSfl51, zSfl11, zSfl13, zSfl22, zSfl8, zSfl19, zSfl20, zSfl27, zSfl28, zSfl86, zSfl42, zSfl91, zSfl45, zSfl82, zSfl29, zSfl54, .ok zSfl6, zSfl53, zSfl82, zSfl29, zSfl70, zSfl43, zSfl31, zSfl70, .ok zSfl21, zSfl58, zSfl70, zSfl52, zSfl36, zSfl34, zSfl34, zSfl46, zSfl47, zSfl59, zSfl44, .ok zSfl37, zSfl67, zSfl38, zSfl38, zSfl55, zSfl56, zSfl68, zSfl57, .ok zSfl49, zSfl73, zSfl50, zSfl50, zSfl65, zSfl66, zSfl74, zSfl69, .ok zSfl60, zSfl92, zSfl63, zSfl63, zSfl80, zSfl81, zSfl93, zSfl87, .ok zSfl79, .is zSfl79 (.bool true), zSfl90, zSfl90, .ok (.cell (.var 6) zSfl39 2 0), .ok (.cell (.var 6) zSfl39 2 1), .fn 65 (EMay 10) zSfl61, .is (.fn 10 zSfl61 0) (.bool true), .ok (.bin .lss (.con (.int .i64 5)) zSfl9), .is (.bin .lss (.con (.int .i64 5)) zSfl9) (.bool false), zSfl64, zSfl83, zSfl85, zSfl88, .ok zSfl24, zSfl72, zSfl64, zSfl41, zSfl89, zSfl84, zSfl8, zSfl71], zSfl35) := by kernel_rfl

theorem r_updPart {α : Type} (E : Enc α) (xs : List α) (i : Nat) (k : IntKind) (x : α) (sub : Nat) (ps : List Value) (h : i < xs.length) (hx : E.enc x = (E.enc xs[i]).take sub ++ ps ++ (E.enc xs[i]).drop (sub + ps.length)) (hs : sub + ps.length ≤ E.sz) :
    ropPV (.upd E.sz sub) (pRow E xs :: .v (.int k (i : Int)) :: ps.map .v) = some (pRow E (xs.set i x)) := by
  have h0 : (0 : Int) ≤ (i : Int) := by omega
  have h1 : (i : Int) < (xs.length : Int) := by omega
  have hl : (E.all (xs.take i)).length = i * E.sz := by rw [all_len, List.length_take, Nat.min_eq_left (by omega)]
  have hm : (E.enc xs[i]).length = E.sz := E.len _
  have hp : putPV ((E.all xs).map PV.v) (i * E.sz + sub) (ps.map PV.v) = (E.all (xs.set i x)).map PV.v := by
    rw [set_split xs i x h, Enc.all_append, Enc.all_cons, all_split' E xs i h, hx]
    generalize E.all (xs.take i) = A at *
    generalize E.enc xs[i] = M at *
    generalize E.all (xs.drop (i + 1)) = B
    simp only [putPV, List.length_map, ← hl, List.map_append, List.append_assoc]
    rw [List.take_append, List.drop_append]
    simp only [List.length_map]
    rw [List.take_of_length_le (l := A.map PV.v) (by simp), show A.length + sub - A.length = sub by omega, List.take_append, List.drop_of_length_le (l := A.map PV.v) (by simp; omega), show A.length + sub + ps.length - A.length = sub + ps.length by omega, List.drop_append]
    simp only [List.length_map]
    rw [show sub - M.length = 0 by omega, show sub + ps.length - M.length = 0 by omega]
    simp [List.map_take, List.map_drop]
  have hd : decide (sub + ps.length ≤ E.sz) = true := by simpa using hs
  simp [ropPV, pRow, h1, hs, hp]
@[simp] theorem ex_six : (∃ z : Nat, (6 : Int) = (z : Int)) ↔ True := ⟨fun _ => trivial, fun _ => ⟨6, rfl⟩⟩
@[simp] theorem ex_three : (∃ z : Nat, (3 : Int) = (z : Int)) ↔ True := ⟨fun _ => trivial, fun _ => ⟨3, rfl⟩⟩
def RFlushP (ps qs : List PV) : Prop := ∃ (s : StM) (c seq file : Int) (l : List (Int × ByteArray)), MayS s ∧ 1 ≤ c ∧ c ≤ 3 ∧ 1 ≤ seq ∧ seq ≤ 1073741824 ∧ -9223372036854775808 ≤ file ∧ file ≤ 9223372036854775807 ∧ l.length ≤ 1000000 ∧ (∀ w ∈ l, -9223372036854775808 ≤ w.1 ∧ w.1 ≤ 9223372036854775807 ∧ w.2.size ≤ 1000000) ∧ ps = pSt s ++ [pI c, pI seq, pI file, pRow encW l] ∧ qs = pSt (flushS s c seq file l).1 ++ pMk (flushS s c seq file l).2
theorem fFlushP : ∀ ps q1 q2, RFlushP ps q1 → RFlushP ps q2 → q1 = q2 := by
  rintro ps q1 q2 ⟨s, c, seq, file, l, _, _, _, _, _, _, _, _, _, rfl, rfl⟩ ⟨s', c', seq', file', l', _, _, _, _, _, _, _, _, _, h, rfl⟩
  simp only [List.cons_append, List.nil_append, List.cons.injEq, PV.v.injEq, Value.int.injEq, Value.string.injEq, true_and, and_true] at h
  obtain ⟨h1, h2, h3, rfl, rfl, rfl, h4⟩ := h
  rw [pSt_inj h1 h2 h3, fil.pRow_inj encW_inj h4]
theorem FP10 {w : Int × ByteArray} (h : -9223372036854775808 ≤ w.1 ∧ w.1 ≤ 9223372036854775807 ∧ w.2.size ≤ 1000000) : FP 10 [pI w.1, pS w.2] = some [pB (mayW w)] := spec_of fMay ⟨w.1, w.2, h.1, h.2.1, by omega, rfl, rfl⟩
theorem FP11 {b : ByteArray} {ws : List (Int × ByteArray)} (h1 : b.size ≤ 1000) (h2 : ws.length ≤ 1000) (h3 : ∀ w ∈ ws, -9223372036854775808 ≤ w.1 ∧ w.1 ≤ 9223372036854775807 ∧ w.2.size ≤ 1000000) : FP 11 [pS b, pRow encW ws] = some [pS (bs (allW b.data.toList ws))] := spec_of fAll ⟨b, ws, h1, h2, h3, rfl, rfl⟩
theorem first_bad {l : List (Int × ByteArray)} (h : l.all mayW = false) : ∃ k, ∃ hk : k < l.length, mayW l[k] = false ∧ ∀ j (hj : j < l.length), j < k → mayW l[j] = true := by
  induction l with
  | nil => simp at h
  | cons x r ih =>
    cases hx : mayW x with
    | false => exact ⟨0, by simp, hx, fun j _ hj => absurd hj (by omega)⟩
    | true =>
      rw [List.all_cons, hx, Bool.true_and] at h
      obtain ⟨k, hk, h1, h2⟩ := ih h
      refine ⟨k + 1, by simpa using hk, by simpa using h1, fun j hj hjk => ?_⟩
      cases j with
      | zero => exact hx
      | succ j => simpa using h2 j (by simpa using hj) (by omega)
set_option maxHeartbeats 4000000 in
theorem toldFlushP (k : Nat) : ToldF 16 (EFlush k) (spec RFlushP) := by
  refine told_of mixed_ok names_ok FP [.row, .row, .num, .num, .num, .num, .row] ?_
  intro ps qs h _
  obtain ⟨⟨fs, ms, ep⟩, c, seq, file, l, hm, hc1, hc2, hs1, hs2, hf1, hf2, hll, hwf, rfl, rfl⟩ := of_spec h
  have hfl : fs.length = 6 := hm.fl
  have hml : ms.length = 3 := hm.ml
  have g13 := FP13 hm
  have g5 := FP5 hm
  have gc : FP 2 [pI c, pI 1, pI 3] = some [pI 0] := FP2 hc1 hc2
  have gs : FP 2 [pI seq, pI 1, pI 1073741824] = some [pI 0] := FP2 hs1 hs2
  simp only at g13 g5
  have hLf : lenPV (pRow encF fs) = some (pI 6) := by rw [lenPV_row, hfl]; rfl
  have hLm : lenPV (pRow encM ms) = some (pI 3) := by rw [lenPV_row, hml]; rfl
  have hqn : isF ⟨fs, ms, ep⟩ file = false → flushS ⟨fs, ms, ep⟩ c seq file l = (⟨fs, putMk ms c (seq, 2, 0, 0), ep⟩, (seq, 2, 0, 0)) := fun h => by simp [flushS, h, marked]
  have e4 : FP 9 [pRow encM ms, pI c, pI seq, pI 2, pI 0, pI 0] = some [pRow encM (putMk ms c (seq, 2, 0, 0))] := FP9 hm hc1 hc2
  by_cases d1 : 1 ≤ file
  · by_cases d2 : file ≤ fs.length
    · obtain ⟨j, hj, rfl, hg, hFj⟩ := isF_yes (ms := ms) (ep := ep) d1 d2
      obtain ⟨cn, cv, cb⟩ := cellF fs j hj
      have w1 : IntKind.i64.wrap (j : Int) = (j : Int) := wrapI _ (by omega) (by omega)
      have i1 := idxP_row encF fs j 3 3 .i64 rfl hj (by decide)
      have i2 := idxP_row encF fs j 3 1 .i64 rfl hj (by decide)
      have i3 := idxP_row encF fs j 3 2 .i64 rfl hj (by decide)
      by_cases hn : fs[j].1.toList = []
      · have hq := hqn (by rw [hFj, hn]; simp [e0])
        rw [hq]
        generalize putMk ms c (seq, 2, 0, 0) = ms' at *
        generalize fs[j].1 = nm at *
        refine ⟨_, _, _, _, _, _, orcO_ok, un3, fun w FP => ?_, ?_⟩
        · simp only [List.mem_cons, List.not_mem_nil, or_false, forall_eq_or_imp, forall_eq]
          simp [-holds_idx, holds_idxP, holds_cellsP, Base.ev, SX.ev, evs, Value.oneCell', g13, g5, gc, gs, e4, binPV, w1, i1, i2, cn, hn, hLf, hLm, pp2, pp5, pp9, pp13]
          all_goals omega
        · simp [evs, SX.ev, g13, e4]
      · have hF' : isF ⟨fs, ms, ep⟩ ((j : Int) + 1) = true := by
          rw [hFj]
          simpa [e0] using hn
        have hx : ((j : Int) + 1).toNat - 1 = j := by omega
        have hy : (0 : Int) < (j : Int) + 1 := by omega
        have hqb : okWs l = false → flushS ⟨fs, ms, ep⟩ c seq ((j : Int) + 1) l = (⟨fs, putMk ms c (seq, 1, 0, 0), ep⟩, (seq, 1, 0, 0)) := fun h => by simp [flushS, hF', h, marked]
        have e5 : FP 9 [pRow encM ms, pI c, pI seq, pI 1, pI 0, pI 0] = some [pRow encM (putMk ms c (seq, 1, 0, 0))] := FP9 hm hc1 hc2
        have hLl : lenPV (pRow encW l) = some (pI (l.length : Int)) := lenPV_row ..
        by_cases hl1 : l.length < 1
        · have hq := hqb (by simp [okWs, show ¬ 1 ≤ l.length by omega])
          rw [hq]
          obtain ⟨L, hL⟩ : ∃ L : Int, L = (l.length : Int) := ⟨_, rfl⟩
          rw [← hL] at hLl
          generalize putMk ms c (seq, 1, 0, 0) = ms' at *
          generalize fs[j].1 = nm at *
          refine ⟨_, _, _, _, _, _, orcO_ok, ul1, fun w FP => ?_, ?_⟩
          · simp only [List.mem_cons, List.not_mem_nil, or_false, forall_eq_or_imp, forall_eq]
            simp [-holds_idx, holds_idxP, holds_cellsP, Base.ev, SX.ev, evs, Value.oneCell', g13, g5, gc, gs, e5, binPV, w1, i1, i2, cn, hn, hLf, hLm, hLl, pp2, pp5, pp9, pp13]
            all_goals omega
          · simp [evs, SX.ev, g13, e5]
        by_cases hl5 : 5 < l.length
        · have hq := hqb (by simp [okWs, show ¬ l.length ≤ 5 by omega])
          rw [hq]
          obtain ⟨L, hL⟩ : ∃ L : Int, L = (l.length : Int) := ⟨_, rfl⟩
          rw [← hL] at hLl
          generalize putMk ms c (seq, 1, 0, 0) = ms' at *
          generalize fs[j].1 = nm at *
          refine ⟨_, _, _, _, _, _, orcO_ok, ul2, fun w FP => ?_, ?_⟩
          · simp only [List.mem_cons, List.not_mem_nil, or_false, forall_eq_or_imp, forall_eq]
            simp [-holds_idx, holds_idxP, holds_cellsP, Base.ev, SX.ev, evs, Value.oneCell', g13, g5, gc, gs, e5, binPV, w1, i1, i2, cn, hn, hLf, hLm, hLl, pp2, pp5, pp9, pp13]
            all_goals omega
          · simp [evs, SX.ev, g13, e5]
        cases hall : l.all mayW with
        | false =>
          have hq := hqb (by simp [okWs, hall])
          rw [hq]
          obtain ⟨k0, hk0, hbad, hgood⟩ := first_bad hall
          clear hall hqb hqn
          generalize putMk ms c (seq, 1, 0, 0) = ms' at *
          generalize fs[j].1 = nm at *
          have hk5 : k0 < 5 := by omega
          match k0, hk5 with
          | 0, _ =>
            have h0 : 0 < l.length := by omega
            have a0 : cellPV (pRow encW l) (pI 0) 2 0 = some (pI l[0].1) := (cellW2 l 0 h0).1
            have b0 : cellPV (pRow encW l) (pI 0) 2 1 = some (pS l[0].2) := (cellW2 l 0 h0).2
            have x0 : IdxP (some (pRow encW l)) (some (pI 0)) 2 2 := idxP_row encW l 0 2 2 .i64 rfl h0 (by decide)
            have y0 := FP10 (hwf _ (List.getElem_mem h0))
            rw [hbad] at y0
            have hkk : 0 < l.length := hk0
            clear hgood hbad hk0
            generalize l[0] = z0 at *
            obtain ⟨L, hL⟩ : ∃ L : Int, L = (l.length : Int) := ⟨_, rfl⟩
            rw [← hL] at hLl
            refine ⟨_, _, _, _, _, _, orcO_ok, ub0, fun w FP => ?_, ?_⟩
            · simp only [List.mem_cons, List.not_mem_nil, or_false, forall_eq_or_imp, forall_eq]
              simp [-holds_idx, holds_idxP, holds_cellsP, Base.ev, SX.ev, evs, Value.oneCell', g13, g5, gc, gs, e5, binPV, w1, i1, i2, cn, hn, hLf, hLm, hLl, a0, b0, x0, y0, pp2, pp5, pp9, pp10, pp13]
              all_goals omega
            · simp [evs, SX.ev, g13, e5]
          | 1, _ =>
            have h0 : 0 < l.length := by omega
            have a0 : cellPV (pRow encW l) (pI 0) 2 0 = some (pI l[0].1) := (cellW2 l 0 h0).1
            have b0 : cellPV (pRow encW l) (pI 0) 2 1 = some (pS l[0].2) := (cellW2 l 0 h0).2
            have x0 : IdxP (some (pRow encW l)) (some (pI 0)) 2 2 := idxP_row encW l 0 2 2 .i64 rfl h0 (by decide)
            have y0 := FP10 (hwf _ (List.getElem_mem h0))
            rw [hgood 0 h0 (by omega)] at y0
            have h1 : 1 < l.length := by omega
            have a1 : cellPV (pRow encW l) (pI 1) 2 0 = some (pI l[1].1) := (cellW2 l 1 h1).1
            have b1 : cellPV (pRow encW l) (pI 1) 2 1 = some (pS l[1].2) := (cellW2 l 1 h1).2
            have x1 : IdxP (some (pRow encW l)) (some (pI 1)) 2 2 := idxP_row encW l 1 2 2 .i64 rfl h1 (by decide)
            have y1 := FP10 (hwf _ (List.getElem_mem h1))
            rw [hbad] at y1
            have hkk : 1 < l.length := hk0
            clear hgood hbad hk0
            generalize l[0] = z0 at *
            generalize l[1] = z1 at *
            obtain ⟨L, hL⟩ : ∃ L : Int, L = (l.length : Int) := ⟨_, rfl⟩
            rw [← hL] at hLl
            refine ⟨_, _, _, _, _, _, orcO_ok, ub1, fun w FP => ?_, ?_⟩
            · simp only [List.mem_cons, List.not_mem_nil, or_false, forall_eq_or_imp, forall_eq]
              simp [-holds_idx, holds_idxP, holds_cellsP, Base.ev, SX.ev, evs, Value.oneCell', g13, g5, gc, gs, e5, binPV, w1, i1, i2, cn, hn, hLf, hLm, hLl, a0, b0, x0, y0, a1, b1, x1, y1, pp2, pp5, pp9, pp10, pp13]
              all_goals omega
            · simp [evs, SX.ev, g13, e5]
          | 2, _ =>
            have h0 : 0 < l.length := by omega
            have a0 : cellPV (pRow encW l) (pI 0) 2 0 = some (pI l[0].1) := (cellW2 l 0 h0).1
            have b0 : cellPV (pRow encW l) (pI 0) 2 1 = some (pS l[0].2) := (cellW2 l 0 h0).2
            have x0 : IdxP (some (pRow encW l)) (some (pI 0)) 2 2 := idxP_row encW l 0 2 2 .i64 rfl h0 (by decide)
            have y0 := FP10 (hwf _ (List.getElem_mem h0))
            rw [hgood 0 h0 (by omega)] at y0
            have h1 : 1 < l.length := by omega
            have a1 : cellPV (pRow encW l) (pI 1) 2 0 = some (pI l[1].1) := (cellW2 l 1 h1).1
            have b1 : cellPV (pRow encW l) (pI 1) 2 1 = some (pS l[1].2) := (cellW2 l 1 h1).2
            have x1 : IdxP (some (pRow encW l)) (some (pI 1)) 2 2 := idxP_row encW l 1 2 2 .i64 rfl h1 (by decide)
            have y1 := FP10 (hwf _ (List.getElem_mem h1))
            rw [hgood 1 h1 (by omega)] at y1
            have h2 : 2 < l.length := by omega
            have a2 : cellPV (pRow encW l) (pI 2) 2 0 = some (pI l[2].1) := (cellW2 l 2 h2).1
            have b2 : cellPV (pRow encW l) (pI 2) 2 1 = some (pS l[2].2) := (cellW2 l 2 h2).2
            have x2 : IdxP (some (pRow encW l)) (some (pI 2)) 2 2 := idxP_row encW l 2 2 2 .i64 rfl h2 (by decide)
            have y2 := FP10 (hwf _ (List.getElem_mem h2))
            rw [hbad] at y2
            have hkk : 2 < l.length := hk0
            clear hgood hbad hk0
            generalize l[0] = z0 at *
            generalize l[1] = z1 at *
            generalize l[2] = z2 at *
            obtain ⟨L, hL⟩ : ∃ L : Int, L = (l.length : Int) := ⟨_, rfl⟩
            rw [← hL] at hLl
            refine ⟨_, _, _, _, _, _, orcO_ok, ub2, fun w FP => ?_, ?_⟩
            · simp only [List.mem_cons, List.not_mem_nil, or_false, forall_eq_or_imp, forall_eq]
              simp [-holds_idx, holds_idxP, holds_cellsP, Base.ev, SX.ev, evs, Value.oneCell', g13, g5, gc, gs, e5, binPV, w1, i1, i2, cn, hn, hLf, hLm, hLl, a0, b0, x0, y0, a1, b1, x1, y1, a2, b2, x2, y2, pp2, pp5, pp9, pp10, pp13]
              all_goals omega
            · simp [evs, SX.ev, g13, e5]
          | 3, _ =>
            have h0 : 0 < l.length := by omega
            have a0 : cellPV (pRow encW l) (pI 0) 2 0 = some (pI l[0].1) := (cellW2 l 0 h0).1
            have b0 : cellPV (pRow encW l) (pI 0) 2 1 = some (pS l[0].2) := (cellW2 l 0 h0).2
            have x0 : IdxP (some (pRow encW l)) (some (pI 0)) 2 2 := idxP_row encW l 0 2 2 .i64 rfl h0 (by decide)
            have y0 := FP10 (hwf _ (List.getElem_mem h0))
            rw [hgood 0 h0 (by omega)] at y0
            have h1 : 1 < l.length := by omega
            have a1 : cellPV (pRow encW l) (pI 1) 2 0 = some (pI l[1].1) := (cellW2 l 1 h1).1
            have b1 : cellPV (pRow encW l) (pI 1) 2 1 = some (pS l[1].2) := (cellW2 l 1 h1).2
            have x1 : IdxP (some (pRow encW l)) (some (pI 1)) 2 2 := idxP_row encW l 1 2 2 .i64 rfl h1 (by decide)
            have y1 := FP10 (hwf _ (List.getElem_mem h1))
            rw [hgood 1 h1 (by omega)] at y1
            have h2 : 2 < l.length := by omega
            have a2 : cellPV (pRow encW l) (pI 2) 2 0 = some (pI l[2].1) := (cellW2 l 2 h2).1
            have b2 : cellPV (pRow encW l) (pI 2) 2 1 = some (pS l[2].2) := (cellW2 l 2 h2).2
            have x2 : IdxP (some (pRow encW l)) (some (pI 2)) 2 2 := idxP_row encW l 2 2 2 .i64 rfl h2 (by decide)
            have y2 := FP10 (hwf _ (List.getElem_mem h2))
            rw [hgood 2 h2 (by omega)] at y2
            have h3 : 3 < l.length := by omega
            have a3 : cellPV (pRow encW l) (pI 3) 2 0 = some (pI l[3].1) := (cellW2 l 3 h3).1
            have b3 : cellPV (pRow encW l) (pI 3) 2 1 = some (pS l[3].2) := (cellW2 l 3 h3).2
            have x3 : IdxP (some (pRow encW l)) (some (pI 3)) 2 2 := idxP_row encW l 3 2 2 .i64 rfl h3 (by decide)
            have y3 := FP10 (hwf _ (List.getElem_mem h3))
            rw [hbad] at y3
            have hkk : 3 < l.length := hk0
            clear hgood hbad hk0
            generalize l[0] = z0 at *
            generalize l[1] = z1 at *
            generalize l[2] = z2 at *
            generalize l[3] = z3 at *
            obtain ⟨L, hL⟩ : ∃ L : Int, L = (l.length : Int) := ⟨_, rfl⟩
            rw [← hL] at hLl
            refine ⟨_, _, _, _, _, _, orcO_ok, ub3, fun w FP => ?_, ?_⟩
            · simp only [List.mem_cons, List.not_mem_nil, or_false, forall_eq_or_imp, forall_eq]
              simp [-holds_idx, holds_idxP, holds_cellsP, Base.ev, SX.ev, evs, Value.oneCell', g13, g5, gc, gs, e5, binPV, w1, i1, i2, cn, hn, hLf, hLm, hLl, a0, b0, x0, y0, a1, b1, x1, y1, a2, b2, x2, y2, a3, b3, x3, y3, pp2, pp5, pp9, pp10, pp13]
              all_goals omega
            · simp [evs, SX.ev, g13, e5]
          | 4, _ =>
            have h0 : 0 < l.length := by omega
            have a0 : cellPV (pRow encW l) (pI 0) 2 0 = some (pI l[0].1) := (cellW2 l 0 h0).1
            have b0 : cellPV (pRow encW l) (pI 0) 2 1 = some (pS l[0].2) := (cellW2 l 0 h0).2
            have x0 : IdxP (some (pRow encW l)) (some (pI 0)) 2 2 := idxP_row encW l 0 2 2 .i64 rfl h0 (by decide)
            have y0 := FP10 (hwf _ (List.getElem_mem h0))
            rw [hgood 0 h0 (by omega)] at y0
            have h1 : 1 < l.length := by omega
            have a1 : cellPV (pRow encW l) (pI 1) 2 0 = some (pI l[1].1) := (cellW2 l 1 h1).1
            have b1 : cellPV (pRow encW l) (pI 1) 2 1 = some (pS l[1].2) := (cellW2 l 1 h1).2
            have x1 : IdxP (some (pRow encW l)) (some (pI 1)) 2 2 := idxP_row encW l 1 2 2 .i64 rfl h1 (by decide)
            have y1 := FP10 (hwf _ (List.getElem_mem h1))
            rw [hgood 1 h1 (by omega)] at y1
            have h2 : 2 < l.length := by omega
            have a2 : cellPV (pRow encW l) (pI 2) 2 0 = some (pI l[2].1) := (cellW2 l 2 h2).1
            have b2 : cellPV (pRow encW l) (pI 2) 2 1 = some (pS l[2].2) := (cellW2 l 2 h2).2
            have x2 : IdxP (some (pRow encW l)) (some (pI 2)) 2 2 := idxP_row encW l 2 2 2 .i64 rfl h2 (by decide)
            have y2 := FP10 (hwf _ (List.getElem_mem h2))
            rw [hgood 2 h2 (by omega)] at y2
            have h3 : 3 < l.length := by omega
            have a3 : cellPV (pRow encW l) (pI 3) 2 0 = some (pI l[3].1) := (cellW2 l 3 h3).1
            have b3 : cellPV (pRow encW l) (pI 3) 2 1 = some (pS l[3].2) := (cellW2 l 3 h3).2
            have x3 : IdxP (some (pRow encW l)) (some (pI 3)) 2 2 := idxP_row encW l 3 2 2 .i64 rfl h3 (by decide)
            have y3 := FP10 (hwf _ (List.getElem_mem h3))
            rw [hgood 3 h3 (by omega)] at y3
            have h4 : 4 < l.length := by omega
            have a4 : cellPV (pRow encW l) (pI 4) 2 0 = some (pI l[4].1) := (cellW2 l 4 h4).1
            have b4 : cellPV (pRow encW l) (pI 4) 2 1 = some (pS l[4].2) := (cellW2 l 4 h4).2
            have x4 : IdxP (some (pRow encW l)) (some (pI 4)) 2 2 := idxP_row encW l 4 2 2 .i64 rfl h4 (by decide)
            have y4 := FP10 (hwf _ (List.getElem_mem h4))
            rw [hbad] at y4
            have hkk : 4 < l.length := hk0
            clear hgood hbad hk0
            generalize l[0] = z0 at *
            generalize l[1] = z1 at *
            generalize l[2] = z2 at *
            generalize l[3] = z3 at *
            generalize l[4] = z4 at *
            obtain ⟨L, hL⟩ : ∃ L : Int, L = (l.length : Int) := ⟨_, rfl⟩
            rw [← hL] at hLl
            refine ⟨_, _, _, _, _, _, orcO_ok, ub4, fun w FP => ?_, ?_⟩
            · simp only [List.mem_cons, List.not_mem_nil, or_false, forall_eq_or_imp, forall_eq]
              simp [-holds_idx, holds_idxP, holds_cellsP, Base.ev, SX.ev, evs, Value.oneCell', g13, g5, gc, gs, e5, binPV, w1, i1, i2, cn, hn, hLf, hLm, hLl, a0, b0, x0, y0, a1, b1, x1, y1, a2, b2, x2, y2, a3, b3, x3, y3, a4, b4, x4, y4, pp2, pp5, pp9, pp10, pp13]
              all_goals omega
            · simp [evs, SX.ev, g13, e5]
        | true =>
          have hok : okWs l = true := by simp [okWs, hall]; omega
          obtain ⟨f, hf⟩ : ∃ f, f = fs[j] := ⟨_, rfl⟩
          have hv := hm.st.fv _ (List.getElem_mem hj)
          have hv0 : 0 ≤ fs[j].2.1 ∧ fs[j].2.1 ≤ 1073741824 := by
            rcases hm.fv j hj with h0 | h1
            · have h0 : isE0 fs[j] = true := h0
              rw [isE0_eq h0]; simp [f00]
            · have h1 : _ ∧ 1 ≤ fs[j].2.1 ∧ fs[j].2.1 ≤ 1073741824 ∧ _ := h1
              omega
          rw [← hf] at cn cv cb hn hg hv hv0
          have hw : written f l = (f.1, min f.2.1 1073741823 + 1, bs (allW f.2.2.data.toList l)) := by
            simp only [written]
            rw [show min (f.2.1 + 1) 1073741824 = min f.2.1 1073741823 + 1 by omega]
          have hq : flushS ⟨fs, ms, ep⟩ c seq ((j : Int) + 1) l = (⟨fs.set j (f.1, min f.2.1 1073741823 + 1, bs (allW f.2.2.data.toList l)), putMk ms c (seq, 0, (j : Int) + 1, min f.2.1 1073741823 + 1), ep⟩, (seq, 0, (j : Int) + 1, min f.2.1 1073741823 + 1)) := by
            simp only [flushS, hF', if_true, hok, hg, hw]
            simp [marked, hx, hy]
          have e6 : FP 9 [pRow encM ms, pI c, pI seq, pI 0, pI ((j : Int) + 1), pI (min f.2.1 1073741823 + 1)] = some [pRow encM (putMk ms c (seq, 0, (j : Int) + 1, min f.2.1 1073741823 + 1))] := FP9 hm hc1 hc2
          have e7 := FP11 (b := f.2.2) (ws := l) (by omega) (by omega) hwf
          have w2 : IntKind.i64.wrap (min f.2.1 1073741823 + 1) = min f.2.1 1073741823 + 1 := wrapI _ (by omega) (by omega)
          have rm := r_min f.2.1 1073741823
          have u1 : ropPV (.upd 3 2) [pRow encF fs, pI (j : Int), pS (bs (allW f.2.2.data.toList l))] = some (pRow encF (fs.set j (f.1, f.2.1, bs (allW f.2.2.data.toList l)))) := r_updPart encF fs j .i64 (f.1, f.2.1, bs (allW f.2.2.data.toList l)) 2 [.string (bs (allW f.2.2.data.toList l))] hj (by rw [← hf]; rfl) (show (2 + 1 : Nat) ≤ 3 by omega)
          generalize bs (allW f.2.2.data.toList l) = body at *
          have hj1 : j < (fs.set j (f.1, f.2.1, body)).length := by simpa using hj
          have u2 : ropPV (.upd 3 1) [pRow encF (fs.set j (f.1, f.2.1, body)), pI (j : Int), pI (min f.2.1 1073741823 + 1)] = some (pRow encF (fs.set j (f.1, min f.2.1 1073741823 + 1, body))) := by
            have := r_updPart encF (fs.set j (f.1, f.2.1, body)) j .i64 (f.1, min f.2.1 1073741823 + 1, body) 1 [.int .i64 (min f.2.1 1073741823 + 1)] hj1 (by rw [List.getElem_set_self]; rfl) (show (1 + 1 : Nat) ≤ 3 by omega)
            rw [List.set_set] at this
            exact this
          generalize min f.2.1 1073741823 = mv at *
          have hj2 : j < (fs.set j (f.1, mv + 1, body)).length := by simpa using hj
          have i4 := idxP_row encF (fs.set j (f.1, f.2.1, body)) j 3 2 .i64 rfl hj1 (by decide)
          have i5 := idxP_row encF (fs.set j (f.1, mv + 1, body)) j 3 2 .i64 rfl hj2 (by decide)
          have c5 := (cellF (fs.set j (f.1, mv + 1, body)) j hj2).2.1
          rw [List.getElem_set_self] at c5
          have hL2 : lenPV (pRow encF (fs.set j (f.1, mv + 1, body))) = some (pI 6) := by rw [lenPV_row, List.length_set, hfl]; rfl
          rw [hq]
          clear hq hqn hqb e4 e5 hg hw hFj hF'
          generalize putMk ms c (seq, 0, (j : Int) + 1, mv + 1) = ms' at *
          generalize fs.set j (f.1, mv + 1, body) = l2 at *
          generalize fs.set j (f.1, f.2.1, body) = l1 at *
          generalize f.2.1 = ver at *
          generalize f.2.2 = bd at *
          generalize f.1 = nm at *
          rw [List.all_eq_true] at hall
          have hln : l.length = 1 ∨ l.length = 2 ∨ l.length = 3 ∨ l.length = 4 ∨ l.length = 5 := by omega
          rcases hln with hln | hln | hln | hln | hln
          · have hLl : lenPV (pRow encW l) = some (pI 1) := by rw [hLl, hln]; rfl
            have h0 : 0 < l.length := by omega
            have a0 : cellPV (pRow encW l) (pI 0) 2 0 = some (pI l[0].1) := (cellW2 l 0 h0).1
            have b0 : cellPV (pRow encW l) (pI 0) 2 1 = some (pS l[0].2) := (cellW2 l 0 h0).2
            have x0 : IdxP (some (pRow encW l)) (some (pI 0)) 2 2 := idxP_row encW l 0 2 2 .i64 rfl h0 (by decide)
            have y0 := FP10 (hwf _ (List.getElem_mem h0))
            rw [hall _ (List.getElem_mem h0)] at y0
            generalize l[0] = z0 at *
            refine ⟨_, _, _, _, _, _, orcO_ok, uy1, fun w FP => ?_, ?_⟩
            · simp only [List.mem_cons, List.not_mem_nil, or_false, forall_eq_or_imp, forall_eq]
              simp [-holds_idx, holds_idxP, holds_cellsP, Base.ev, SX.ev, evs, Value.oneCell', g13, g5, gc, gs, e6, e7, binPV, w1, w2, rm, u1, u2, i1, i2, i3, i4, i5, c5, cn, cv, cb, hn, hLf, hL2, hLm, hLl, a0, b0, x0, y0, pp2, pp5, pp9, pp10, pp11, pp13]
              all_goals omega
            · simp [evs, SX.ev, g13, e6, e7, binPV, w1, w2, rm, u1, u2, cv, cb, c5]
          · have hLl : lenPV (pRow encW l) = some (pI 2) := by rw [hLl, hln]; rfl
            have h0 : 0 < l.length := by omega
            have a0 : cellPV (pRow encW l) (pI 0) 2 0 = some (pI l[0].1) := (cellW2 l 0 h0).1
            have b0 : cellPV (pRow encW l) (pI 0) 2 1 = some (pS l[0].2) := (cellW2 l 0 h0).2
            have x0 : IdxP (some (pRow encW l)) (some (pI 0)) 2 2 := idxP_row encW l 0 2 2 .i64 rfl h0 (by decide)
            have y0 := FP10 (hwf _ (List.getElem_mem h0))
            rw [hall _ (List.getElem_mem h0)] at y0
            have h1 : 1 < l.length := by omega
            have a1 : cellPV (pRow encW l) (pI 1) 2 0 = some (pI l[1].1) := (cellW2 l 1 h1).1
            have b1 : cellPV (pRow encW l) (pI 1) 2 1 = some (pS l[1].2) := (cellW2 l 1 h1).2
            have x1 : IdxP (some (pRow encW l)) (some (pI 1)) 2 2 := idxP_row encW l 1 2 2 .i64 rfl h1 (by decide)
            have y1 := FP10 (hwf _ (List.getElem_mem h1))
            rw [hall _ (List.getElem_mem h1)] at y1
            generalize l[0] = z0 at *
            generalize l[1] = z1 at *
            refine ⟨_, _, _, _, _, _, orcO_ok, uy2, fun w FP => ?_, ?_⟩
            · simp only [List.mem_cons, List.not_mem_nil, or_false, forall_eq_or_imp, forall_eq]
              simp [-holds_idx, holds_idxP, holds_cellsP, Base.ev, SX.ev, evs, Value.oneCell', g13, g5, gc, gs, e6, e7, binPV, w1, w2, rm, u1, u2, i1, i2, i3, i4, i5, c5, cn, cv, cb, hn, hLf, hL2, hLm, hLl, a0, b0, x0, y0, a1, b1, x1, y1, pp2, pp5, pp9, pp10, pp11, pp13]
              all_goals omega
            · simp [evs, SX.ev, g13, e6, e7, binPV, w1, w2, rm, u1, u2, cv, cb, c5]
          · have hLl : lenPV (pRow encW l) = some (pI 3) := by rw [hLl, hln]; rfl
            have h0 : 0 < l.length := by omega
            have a0 : cellPV (pRow encW l) (pI 0) 2 0 = some (pI l[0].1) := (cellW2 l 0 h0).1
            have b0 : cellPV (pRow encW l) (pI 0) 2 1 = some (pS l[0].2) := (cellW2 l 0 h0).2
            have x0 : IdxP (some (pRow encW l)) (some (pI 0)) 2 2 := idxP_row encW l 0 2 2 .i64 rfl h0 (by decide)
            have y0 := FP10 (hwf _ (List.getElem_mem h0))
            rw [hall _ (List.getElem_mem h0)] at y0
            have h1 : 1 < l.length := by omega
            have a1 : cellPV (pRow encW l) (pI 1) 2 0 = some (pI l[1].1) := (cellW2 l 1 h1).1
            have b1 : cellPV (pRow encW l) (pI 1) 2 1 = some (pS l[1].2) := (cellW2 l 1 h1).2
            have x1 : IdxP (some (pRow encW l)) (some (pI 1)) 2 2 := idxP_row encW l 1 2 2 .i64 rfl h1 (by decide)
            have y1 := FP10 (hwf _ (List.getElem_mem h1))
            rw [hall _ (List.getElem_mem h1)] at y1
            have h2 : 2 < l.length := by omega
            have a2 : cellPV (pRow encW l) (pI 2) 2 0 = some (pI l[2].1) := (cellW2 l 2 h2).1
            have b2 : cellPV (pRow encW l) (pI 2) 2 1 = some (pS l[2].2) := (cellW2 l 2 h2).2
            have x2 : IdxP (some (pRow encW l)) (some (pI 2)) 2 2 := idxP_row encW l 2 2 2 .i64 rfl h2 (by decide)
            have y2 := FP10 (hwf _ (List.getElem_mem h2))
            rw [hall _ (List.getElem_mem h2)] at y2
            generalize l[0] = z0 at *
            generalize l[1] = z1 at *
            generalize l[2] = z2 at *
            refine ⟨_, _, _, _, _, _, orcO_ok, uy3, fun w FP => ?_, ?_⟩
            · simp only [List.mem_cons, List.not_mem_nil, or_false, forall_eq_or_imp, forall_eq]
              simp [-holds_idx, holds_idxP, holds_cellsP, Base.ev, SX.ev, evs, Value.oneCell', g13, g5, gc, gs, e6, e7, binPV, w1, w2, rm, u1, u2, i1, i2, i3, i4, i5, c5, cn, cv, cb, hn, hLf, hL2, hLm, hLl, a0, b0, x0, y0, a1, b1, x1, y1, a2, b2, x2, y2, pp2, pp5, pp9, pp10, pp11, pp13]
              all_goals omega
            · simp [evs, SX.ev, g13, e6, e7, binPV, w1, w2, rm, u1, u2, cv, cb, c5]
          · have hLl : lenPV (pRow encW l) = some (pI 4) := by rw [hLl, hln]; rfl
            have h0 : 0 < l.length := by omega
            have a0 : cellPV (pRow encW l) (pI 0) 2 0 = some (pI l[0].1) := (cellW2 l 0 h0).1
            have b0 : cellPV (pRow encW l) (pI 0) 2 1 = some (pS l[0].2) := (cellW2 l 0 h0).2
            have x0 : IdxP (some (pRow encW l)) (some (pI 0)) 2 2 := idxP_row encW l 0 2 2 .i64 rfl h0 (by decide)
            have y0 := FP10 (hwf _ (List.getElem_mem h0))
            rw [hall _ (List.getElem_mem h0)] at y0
            have h1 : 1 < l.length := by omega
            have a1 : cellPV (pRow encW l) (pI 1) 2 0 = some (pI l[1].1) := (cellW2 l 1 h1).1
            have b1 : cellPV (pRow encW l) (pI 1) 2 1 = some (pS l[1].2) := (cellW2 l 1 h1).2
            have x1 : IdxP (some (pRow encW l)) (some (pI 1)) 2 2 := idxP_row encW l 1 2 2 .i64 rfl h1 (by decide)
            have y1 := FP10 (hwf _ (List.getElem_mem h1))
            rw [hall _ (List.getElem_mem h1)] at y1
            have h2 : 2 < l.length := by omega
            have a2 : cellPV (pRow encW l) (pI 2) 2 0 = some (pI l[2].1) := (cellW2 l 2 h2).1
            have b2 : cellPV (pRow encW l) (pI 2) 2 1 = some (pS l[2].2) := (cellW2 l 2 h2).2
            have x2 : IdxP (some (pRow encW l)) (some (pI 2)) 2 2 := idxP_row encW l 2 2 2 .i64 rfl h2 (by decide)
            have y2 := FP10 (hwf _ (List.getElem_mem h2))
            rw [hall _ (List.getElem_mem h2)] at y2
            have h3 : 3 < l.length := by omega
            have a3 : cellPV (pRow encW l) (pI 3) 2 0 = some (pI l[3].1) := (cellW2 l 3 h3).1
            have b3 : cellPV (pRow encW l) (pI 3) 2 1 = some (pS l[3].2) := (cellW2 l 3 h3).2
            have x3 : IdxP (some (pRow encW l)) (some (pI 3)) 2 2 := idxP_row encW l 3 2 2 .i64 rfl h3 (by decide)
            have y3 := FP10 (hwf _ (List.getElem_mem h3))
            rw [hall _ (List.getElem_mem h3)] at y3
            generalize l[0] = z0 at *
            generalize l[1] = z1 at *
            generalize l[2] = z2 at *
            generalize l[3] = z3 at *
            refine ⟨_, _, _, _, _, _, orcO_ok, uy4, fun w FP => ?_, ?_⟩
            · simp only [List.mem_cons, List.not_mem_nil, or_false, forall_eq_or_imp, forall_eq]
              simp [-holds_idx, holds_idxP, holds_cellsP, Base.ev, SX.ev, evs, Value.oneCell', g13, g5, gc, gs, e6, e7, binPV, w1, w2, rm, u1, u2, i1, i2, i3, i4, i5, c5, cn, cv, cb, hn, hLf, hL2, hLm, hLl, a0, b0, x0, y0, a1, b1, x1, y1, a2, b2, x2, y2, a3, b3, x3, y3, pp2, pp5, pp9, pp10, pp11, pp13]
              all_goals omega
            · simp [evs, SX.ev, g13, e6, e7, binPV, w1, w2, rm, u1, u2, cv, cb, c5]
          · have hLl : lenPV (pRow encW l) = some (pI 5) := by rw [hLl, hln]; rfl
            have h0 : 0 < l.length := by omega
            have a0 : cellPV (pRow encW l) (pI 0) 2 0 = some (pI l[0].1) := (cellW2 l 0 h0).1
            have b0 : cellPV (pRow encW l) (pI 0) 2 1 = some (pS l[0].2) := (cellW2 l 0 h0).2
            have x0 : IdxP (some (pRow encW l)) (some (pI 0)) 2 2 := idxP_row encW l 0 2 2 .i64 rfl h0 (by decide)
            have y0 := FP10 (hwf _ (List.getElem_mem h0))
            rw [hall _ (List.getElem_mem h0)] at y0
            have h1 : 1 < l.length := by omega
            have a1 : cellPV (pRow encW l) (pI 1) 2 0 = some (pI l[1].1) := (cellW2 l 1 h1).1
            have b1 : cellPV (pRow encW l) (pI 1) 2 1 = some (pS l[1].2) := (cellW2 l 1 h1).2
            have x1 : IdxP (some (pRow encW l)) (some (pI 1)) 2 2 := idxP_row encW l 1 2 2 .i64 rfl h1 (by decide)
            have y1 := FP10 (hwf _ (List.getElem_mem h1))
            rw [hall _ (List.getElem_mem h1)] at y1
            have h2 : 2 < l.length := by omega
            have a2 : cellPV (pRow encW l) (pI 2) 2 0 = some (pI l[2].1) := (cellW2 l 2 h2).1
            have b2 : cellPV (pRow encW l) (pI 2) 2 1 = some (pS l[2].2) := (cellW2 l 2 h2).2
            have x2 : IdxP (some (pRow encW l)) (some (pI 2)) 2 2 := idxP_row encW l 2 2 2 .i64 rfl h2 (by decide)
            have y2 := FP10 (hwf _ (List.getElem_mem h2))
            rw [hall _ (List.getElem_mem h2)] at y2
            have h3 : 3 < l.length := by omega
            have a3 : cellPV (pRow encW l) (pI 3) 2 0 = some (pI l[3].1) := (cellW2 l 3 h3).1
            have b3 : cellPV (pRow encW l) (pI 3) 2 1 = some (pS l[3].2) := (cellW2 l 3 h3).2
            have x3 : IdxP (some (pRow encW l)) (some (pI 3)) 2 2 := idxP_row encW l 3 2 2 .i64 rfl h3 (by decide)
            have y3 := FP10 (hwf _ (List.getElem_mem h3))
            rw [hall _ (List.getElem_mem h3)] at y3
            have h4 : 4 < l.length := by omega
            have a4 : cellPV (pRow encW l) (pI 4) 2 0 = some (pI l[4].1) := (cellW2 l 4 h4).1
            have b4 : cellPV (pRow encW l) (pI 4) 2 1 = some (pS l[4].2) := (cellW2 l 4 h4).2
            have x4 : IdxP (some (pRow encW l)) (some (pI 4)) 2 2 := idxP_row encW l 4 2 2 .i64 rfl h4 (by decide)
            have y4 := FP10 (hwf _ (List.getElem_mem h4))
            rw [hall _ (List.getElem_mem h4)] at y4
            generalize l[0] = z0 at *
            generalize l[1] = z1 at *
            generalize l[2] = z2 at *
            generalize l[3] = z3 at *
            generalize l[4] = z4 at *
            refine ⟨_, _, _, _, _, _, orcO_ok, uy5, fun w FP => ?_, ?_⟩
            · simp only [List.mem_cons, List.not_mem_nil, or_false, forall_eq_or_imp, forall_eq]
              simp [-holds_idx, holds_idxP, holds_cellsP, Base.ev, SX.ev, evs, Value.oneCell', g13, g5, gc, gs, e6, e7, binPV, w1, w2, rm, u1, u2, i1, i2, i3, i4, i5, c5, cn, cv, cb, hn, hLf, hL2, hLm, hLl, a0, b0, x0, y0, a1, b1, x1, y1, a2, b2, x2, y2, a3, b3, x3, y3, a4, b4, x4, y4, pp2, pp5, pp9, pp10, pp11, pp13]
              all_goals omega
            · simp [evs, SX.ev, g13, e6, e7, binPV, w1, w2, rm, u1, u2, cv, cb, c5]
    · have hq := hqn (by simp [isF, d2])
      rw [hq]
      generalize putMk ms c (seq, 2, 0, 0) = ms' at *
      refine ⟨_, _, _, _, _, _, orcO_ok, un2, fun w FP => ?_, ?_⟩
      · simp only [List.mem_cons, List.not_mem_nil, or_false, forall_eq_or_imp, forall_eq]
        simp [-holds_idx, holds_idxP, holds_cellsP, Base.ev, SX.ev, evs, Value.oneCell', g13, g5, gc, gs, e4, binPV, hLf, hLm, pp2, pp5, pp9, pp13]
        all_goals omega
      · simp [evs, SX.ev, g13, e4]
  · have hq := hqn (by simp [isF, d1])
    rw [hq]
    generalize putMk ms c (seq, 2, 0, 0) = ms' at *
    refine ⟨_, _, _, _, _, _, orcO_ok, un1, fun w FP => ?_, ?_⟩
    · simp only [List.mem_cons, List.not_mem_nil, or_false, forall_eq_or_imp, forall_eq]
      simp [-holds_idx, holds_idxP, holds_cellsP, Base.ev, SX.ev, evs, Value.oneCell', g13, g5, gc, gs, e4, binPV, hLf, hLm, pp2, pp5, pp9, pp13]
      all_goals omega
    · simp [evs, SX.ev, g13, e4]
end Go.Proofs.Ytnelcjofgpplgaa.sta
