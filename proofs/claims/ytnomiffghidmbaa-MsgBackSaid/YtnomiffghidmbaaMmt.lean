/- Package msg's mustBeTell, told: it panics where nothing may be told so. -/
import Derived.Test.YtnomiffghidmbaaMmw
import Derived.Test.YtnomiffghidmbaaMtt
namespace Go.Proofs.Ytnomiffghidmbaa.mmt
open Go Go.RowKit eng SX Fact fil ima msm
open fileFronts (Zac)
open myt (TOk tP Zh5 eqI_v eqS_v all9 e0_l i64)
set_option linter.unusedVariables false
set_option linter.unusedSimpArgs false
set_option maxRecDepth 1000000
def hNe (_:FuncId) (o:Oper):Option Hint:=match o.op with | .binOp .neq 27 _ _ _=>some .parts | _=>none
def ETb (k:Nat):FnE:={ k:=k,ins:=[some 9],leaks:=[false,false,false,false,false,false,false,false,false],outs:=[],kinds:=[] }
noncomputable def flT:=flat (Zam Try.prog 45)
def shT:Shape:=⟨[(0,.agg 9)],[],[none,none,none,none,none,none,none,none,none],38,45⟩
def shT0:Shape:=⟨[],[],[],38,45⟩
@[simp] def zMmt1:SX:=.con (.int .i64 0)
@[simp] def zMmt2:SX:=.bin .gtr (.var 2) (.con (.int .i64 1073741824))
@[simp] def zMmt3:SX:=.bin .lss (.var 1) (.con (.int .i64 1))
@[simp] def zMmt4:SX:=.bin .gtr (.var 1) (.con (.int .i64 3))
@[simp] def zMmt5:SX:=.bin .eql (.var 0) (.con (.int .i64 1))
@[simp] def zMmt6:SX:=rop ROp.notB [rop ROp.allB [rop ROp.eqI [.var 0,.var 0],rop ROp.eqI [.var 1,.var 1],rop ROp.eqI [.var 2,.var 2],rop ROp.eqI [.var 3,zMmt1],rop ROp.eqI [.var 4,zMmt1],rop ROp.eqI [.var 5,.var 5],rop ROp.eqI [.var 6,zMmt1],rop ROp.eqI [.var 7,zMmt1],rop ROp.eqS [.var 8,.con (.string { data:={ toList:=[] } })]]]
@[simp] def zMmt7:SX:=rop ROp.notB [rop ROp.allB [rop ROp.eqI [.var 0,.var 0],rop ROp.eqI [.var 1,.var 1],rop ROp.eqI [.var 2,.var 2],rop ROp.eqI [.var 3,zMmt1],rop ROp.eqI [.var 4,zMmt1],rop ROp.eqI [.var 5,zMmt1],rop ROp.eqI [.var 6,zMmt1],rop ROp.eqI [.var 7,zMmt1],rop ROp.eqS [.var 8,.con (.string { data:={ toList:=[] } })]]]
@[simp] def zMmt8:SX:=.bin .gtr (.var 3) (.con (.int .i64 1073741824))
@[simp] def zMmt9:SX:=.bin .lss (.var 3) (.con (.int .i64 1))
@[simp] def Zva:SX:=.bin .lss (.var 2) zMmt1
@[simp] def Zgq:SX:=.bin .gtr (.var 5) (.con (.int .i64 6))
@[simp] def Zhy:SX:=.bin .gtr (.var 4) (.con (.int .i64 7))
@[simp] def Zhx:SX:=.bin .eql (.var 0) (.con (.int .i64 2))
@[simp] def Zcx:Fact:=.is zMmt3 (.bool false)
@[simp] def Zdr:Fact:=.is Zva (.bool false)
@[simp] def Zhi:SX:=.bin .lss (.var 4) zMmt1
@[simp] def Zdc:Fact:=.is zMmt4 (.bool false)
@[simp] def Zd1:Fact:=.is zMmt2 (.bool false)
@[simp] def Zna:SX:=.bin .gtr (.var 6) (.con (.int .i64 2))
@[simp] def zMmt20:SX:=rop ROp.notB [rop ROp.allB [rop ROp.eqI [.var 0,.var 0],rop ROp.eqI [.var 1,.var 1],rop ROp.eqI [.var 2,.var 2],rop ROp.eqI [.var 3,.var 3],rop ROp.eqI [.var 4,.var 4],rop ROp.eqI [.var 5,.var 5],rop ROp.eqI [.var 6,.var 6],rop ROp.eqI [.var 7,.var 7],rop ROp.eqS [.var 8,.var 8]]]
@[simp] def Zjd:SX:=.bin .lss (.var 5) zMmt1
@[simp] def Zme:SX:=.bin .lss (.var 5) (.con (.int .i64 1))
@[simp] def Zol:SX:=.bin .gtr (.var 7) (.con (.int .i64 1073741824))
@[simp] def Zmd:SX:=.bin .lss (.var 6) zMmt1
@[simp] def Zhh:Fact:=.is zMmt5 (.bool true)
@[simp] def Zhw:Fact:=.is zMmt9 (.bool false)
@[simp] def Zok:SX:=.bin .eql (.var 0) (.con (.int .i64 3))
@[simp] def Zjc:Fact:=.is zMmt8 (.bool false)
@[simp] def Zkg:Fact:=.is Zhi (.bool false)
@[simp] def Zmc:Fact:=.is Zhy (.bool false)
@[simp] def Zmb:Fact:=.is Zgq (.bool false)
@[simp] def Zma:SX:=.bin .lss (.var 7) zMmt1
@[simp] def Zs5:SX:=.bin .gtr (.slen (.var 8)) (.con (.int .i64 24))
@[simp] def Zm9:Fact:=.is Zjd (.bool false)
@[simp] def Zm8:Fact:=.is zMmt5 (.bool false)
@[simp] def Zdb:Fact:=.ok Zva
@[simp] def Zs4:SX:=.bin .lss (.slen (.var 8)) zMmt1
@[simp] def Zq2:Fact:=.is Zmd (.bool false)
@[simp] def Zcl:Fact:=.ok zMmt3
@[simp] def Zcw:Fact:=.ok zMmt4
@[simp] def Zdq:Fact:=.ok zMmt2
@[simp] def Zd0:Fact:=.ok zMmt5
@[simp] def Zs3:Fact:=.is Zna (.bool false)
@[simp] def Zs2:Fact:=.is Zhx (.bool true)
theorem n1:segTo Try.prog fil.noOrc 10000 flT shT [1] shT0 [] hNe=some (.panic (.iface 9 (.string { data:={ toList:=[UInt8.ofNat 109,UInt8.ofNat 115,UInt8.ofNat 103,UInt8.ofNat 58,UInt8.ofNat 32,UInt8.ofNat 97,UInt8.ofNat 32,UInt8.ofNat 110,UInt8.ofNat 117,UInt8.ofNat 109,UInt8.ofNat 98,UInt8.ofNat 101,UInt8.ofNat 114,UInt8.ofNat 32,UInt8.ofNat 116,UInt8.ofNat 104,UInt8.ofNat 97,UInt8.ofNat 116,UInt8.ofNat 32,UInt8.ofNat 109,UInt8.ofNat 97,UInt8.ofNat 121,UInt8.ofNat 32,UInt8.ofNat 110,UInt8.ofNat 111,UInt8.ofNat 116,UInt8.ofNat 32,UInt8.ofNat 98,UInt8.ofNat 101] } })),[Zcl,.is zMmt3 (.bool true)],[]):=by kernel_rfl
theorem n2:segTo Try.prog fil.noOrc 10000 flT shT [0,1] shT0 [] hNe=some (.panic (.iface 9 (.string { data:={ toList:=[UInt8.ofNat 109,UInt8.ofNat 115,UInt8.ofNat 103,UInt8.ofNat 58,UInt8.ofNat 32,UInt8.ofNat 97,UInt8.ofNat 32,UInt8.ofNat 110,UInt8.ofNat 117,UInt8.ofNat 109,UInt8.ofNat 98,UInt8.ofNat 101,UInt8.ofNat 114,UInt8.ofNat 32,UInt8.ofNat 116,UInt8.ofNat 104,UInt8.ofNat 97,UInt8.ofNat 116,UInt8.ofNat 32,UInt8.ofNat 109,UInt8.ofNat 97,UInt8.ofNat 121,UInt8.ofNat 32,UInt8.ofNat 110,UInt8.ofNat 111,UInt8.ofNat 116,UInt8.ofNat 32,UInt8.ofNat 98,UInt8.ofNat 101] } })),[Zcl,Zcx,Zcw,.is zMmt4 (.bool true)],[]):=by kernel_rfl
theorem n3:segTo Try.prog fil.noOrc 10000 flT shT [0,0,1] shT0 [] hNe=some (.panic (.iface 9 (.string { data:={ toList:=[UInt8.ofNat 109,UInt8.ofNat 115,UInt8.ofNat 103,UInt8.ofNat 58,UInt8.ofNat 32,UInt8.ofNat 97,UInt8.ofNat 32,UInt8.ofNat 110,UInt8.ofNat 117,UInt8.ofNat 109,UInt8.ofNat 98,UInt8.ofNat 101,UInt8.ofNat 114,UInt8.ofNat 32,UInt8.ofNat 116,UInt8.ofNat 104,UInt8.ofNat 97,UInt8.ofNat 116,UInt8.ofNat 32,UInt8.ofNat 109,UInt8.ofNat 97,UInt8.ofNat 121,UInt8.ofNat 32,UInt8.ofNat 110,UInt8.ofNat 111,UInt8.ofNat 116,UInt8.ofNat 32,UInt8.ofNat 98,UInt8.ofNat 101] } })),[Zcl,Zcx,Zcw,Zdc,Zdb,.is Zva (.bool true)],[]):=by kernel_rfl
theorem n4:segTo Try.prog fil.noOrc 10000 flT shT [0,0,0,1] shT0 [] hNe=some (.panic (.iface 9 (.string { data:={ toList:=[UInt8.ofNat 109,UInt8.ofNat 115,UInt8.ofNat 103,UInt8.ofNat 58,UInt8.ofNat 32,UInt8.ofNat 97,UInt8.ofNat 32,UInt8.ofNat 110,UInt8.ofNat 117,UInt8.ofNat 109,UInt8.ofNat 98,UInt8.ofNat 101,UInt8.ofNat 114,UInt8.ofNat 32,UInt8.ofNat 116,UInt8.ofNat 104,UInt8.ofNat 97,UInt8.ofNat 116,UInt8.ofNat 32,UInt8.ofNat 109,UInt8.ofNat 97,UInt8.ofNat 121,UInt8.ofNat 32,UInt8.ofNat 110,UInt8.ofNat 111,UInt8.ofNat 116,UInt8.ofNat 32,UInt8.ofNat 98,UInt8.ofNat 101] } })),[Zcl,Zcx,Zcw,Zdc,Zdb,Zdr,Zdq,.is zMmt2 (.bool true)],[]):=by kernel_rfl
theorem d0l:segTo Try.prog fil.noOrc 10000 flT shT [0,0,0,0,1,1] shT0 [] hNe=some (.panic (.iface 9 (.string { data:={ toList:=[UInt8.ofNat 109,UInt8.ofNat 115,UInt8.ofNat 103,UInt8.ofNat 58,UInt8.ofNat 32,UInt8.ofNat 97,UInt8.ofNat 32,UInt8.ofNat 110,UInt8.ofNat 117,UInt8.ofNat 109,UInt8.ofNat 98,UInt8.ofNat 101,UInt8.ofNat 114,UInt8.ofNat 32,UInt8.ofNat 116,UInt8.ofNat 104,UInt8.ofNat 97,UInt8.ofNat 116,UInt8.ofNat 32,UInt8.ofNat 109,UInt8.ofNat 97,UInt8.ofNat 121,UInt8.ofNat 32,UInt8.ofNat 110,UInt8.ofNat 111,UInt8.ofNat 116,UInt8.ofNat 32,UInt8.ofNat 98,UInt8.ofNat 101] } })),[Zcl,Zcx,Zcw,Zdc,Zdb,Zdr,Zdq,Zd1,Zd0,Zhh,.ok zMmt9,.is zMmt9 (.bool true)],[]):=by kernel_rfl
theorem d0u:segTo Try.prog fil.noOrc 10000 flT shT [0,0,0,0,1,0,1] shT0 [] hNe=some (.panic (.iface 9 (.string { data:={ toList:=[UInt8.ofNat 109,UInt8.ofNat 115,UInt8.ofNat 103,UInt8.ofNat 58,UInt8.ofNat 32,UInt8.ofNat 97,UInt8.ofNat 32,UInt8.ofNat 110,UInt8.ofNat 117,UInt8.ofNat 109,UInt8.ofNat 98,UInt8.ofNat 101,UInt8.ofNat 114,UInt8.ofNat 32,UInt8.ofNat 116,UInt8.ofNat 104,UInt8.ofNat 97,UInt8.ofNat 116,UInt8.ofNat 32,UInt8.ofNat 109,UInt8.ofNat 97,UInt8.ofNat 121,UInt8.ofNat 32,UInt8.ofNat 110,UInt8.ofNat 111,UInt8.ofNat 116,UInt8.ofNat 32,UInt8.ofNat 98,UInt8.ofNat 101] } })),[Zcl,Zcx,Zcw,Zdc,Zdb,Zdr,Zdq,Zd1,Zd0,Zhh,.ok zMmt9,Zhw,.ok zMmt8,.is zMmt8 (.bool true)],[]):=by kernel_rfl
theorem d1l:segTo Try.prog fil.noOrc 10000 flT shT [0,0,0,0,1,0,0,1] shT0 [] hNe=some (.panic (.iface 9 (.string { data:={ toList:=[UInt8.ofNat 109,UInt8.ofNat 115,UInt8.ofNat 103,UInt8.ofNat 58,UInt8.ofNat 32,UInt8.ofNat 97,UInt8.ofNat 32,UInt8.ofNat 110,UInt8.ofNat 117,UInt8.ofNat 109,UInt8.ofNat 98,UInt8.ofNat 101,UInt8.ofNat 114,UInt8.ofNat 32,UInt8.ofNat 116,UInt8.ofNat 104,UInt8.ofNat 97,UInt8.ofNat 116,UInt8.ofNat 32,UInt8.ofNat 109,UInt8.ofNat 97,UInt8.ofNat 121,UInt8.ofNat 32,UInt8.ofNat 110,UInt8.ofNat 111,UInt8.ofNat 116,UInt8.ofNat 32,UInt8.ofNat 98,UInt8.ofNat 101] } })),[Zcl,Zcx,Zcw,Zdc,Zdb,Zdr,Zdq,Zd1,Zd0,Zhh,.ok zMmt9,Zhw,.ok zMmt8,Zjc,.ok Zhi,.is Zhi (.bool true)],[]):=by kernel_rfl
theorem d1u:segTo Try.prog fil.noOrc 10000 flT shT [0,0,0,0,1,0,0,0,1] shT0 [] hNe=some (.panic (.iface 9 (.string { data:={ toList:=[UInt8.ofNat 109,UInt8.ofNat 115,UInt8.ofNat 103,UInt8.ofNat 58,UInt8.ofNat 32,UInt8.ofNat 97,UInt8.ofNat 32,UInt8.ofNat 110,UInt8.ofNat 117,UInt8.ofNat 109,UInt8.ofNat 98,UInt8.ofNat 101,UInt8.ofNat 114,UInt8.ofNat 32,UInt8.ofNat 116,UInt8.ofNat 104,UInt8.ofNat 97,UInt8.ofNat 116,UInt8.ofNat 32,UInt8.ofNat 109,UInt8.ofNat 97,UInt8.ofNat 121,UInt8.ofNat 32,UInt8.ofNat 110,UInt8.ofNat 111,UInt8.ofNat 116,UInt8.ofNat 32,UInt8.ofNat 98,UInt8.ofNat 101] } })),[Zcl,Zcx,Zcw,Zdc,Zdb,Zdr,Zdq,Zd1,Zd0,Zhh,.ok zMmt9,Zhw,.ok zMmt8,Zjc,.ok Zhi,Zkg,.ok Zhy,.is Zhy (.bool true)],[]):=by kernel_rfl
theorem d2l:segTo Try.prog fil.noOrc 10000 flT shT [0,0,0,0,1,0,0,0,0,1] shT0 [] hNe=some (.panic (.iface 9 (.string { data:={ toList:=[UInt8.ofNat 109,UInt8.ofNat 115,UInt8.ofNat 103,UInt8.ofNat 58,UInt8.ofNat 32,UInt8.ofNat 97,UInt8.ofNat 32,UInt8.ofNat 110,UInt8.ofNat 117,UInt8.ofNat 109,UInt8.ofNat 98,UInt8.ofNat 101,UInt8.ofNat 114,UInt8.ofNat 32,UInt8.ofNat 116,UInt8.ofNat 104,UInt8.ofNat 97,UInt8.ofNat 116,UInt8.ofNat 32,UInt8.ofNat 109,UInt8.ofNat 97,UInt8.ofNat 121,UInt8.ofNat 32,UInt8.ofNat 110,UInt8.ofNat 111,UInt8.ofNat 116,UInt8.ofNat 32,UInt8.ofNat 98,UInt8.ofNat 101] } })),[Zcl,Zcx,Zcw,Zdc,Zdb,Zdr,Zdq,Zd1,Zd0,Zhh,.ok zMmt9,Zhw,.ok zMmt8,Zjc,.ok Zhi,Zkg,.ok Zhy,Zmc,.ok Zjd,.is Zjd (.bool true)],[]):=by kernel_rfl
theorem d2u:segTo Try.prog fil.noOrc 10000 flT shT [0,0,0,0,1,0,0,0,0,0,1] shT0 [] hNe=some (.panic (.iface 9 (.string { data:={ toList:=[UInt8.ofNat 109,UInt8.ofNat 115,UInt8.ofNat 103,UInt8.ofNat 58,UInt8.ofNat 32,UInt8.ofNat 97,UInt8.ofNat 32,UInt8.ofNat 110,UInt8.ofNat 117,UInt8.ofNat 109,UInt8.ofNat 98,UInt8.ofNat 101,UInt8.ofNat 114,UInt8.ofNat 32,UInt8.ofNat 116,UInt8.ofNat 104,UInt8.ofNat 97,UInt8.ofNat 116,UInt8.ofNat 32,UInt8.ofNat 109,UInt8.ofNat 97,UInt8.ofNat 121,UInt8.ofNat 32,UInt8.ofNat 110,UInt8.ofNat 111,UInt8.ofNat 116,UInt8.ofNat 32,UInt8.ofNat 98,UInt8.ofNat 101] } })),[Zcl,Zcx,Zcw,Zdc,Zdb,Zdr,Zdq,Zd1,Zd0,Zhh,.ok zMmt9,Zhw,.ok zMmt8,Zjc,.ok Zhi,Zkg,.ok Zhy,Zmc,.ok Zjd,Zm9,.ok Zgq,.is Zgq (.bool true)],[]):=by kernel_rfl
theorem d3l:segTo Try.prog fil.noOrc 10000 flT shT [0,0,0,0,1,0,0,0,0,0,0,1] shT0 [] hNe=some (.panic (.iface 9 (.string { data:={ toList:=[UInt8.ofNat 109,UInt8.ofNat 115,UInt8.ofNat 103,UInt8.ofNat 58,UInt8.ofNat 32,UInt8.ofNat 97,UInt8.ofNat 32,UInt8.ofNat 110,UInt8.ofNat 117,UInt8.ofNat 109,UInt8.ofNat 98,UInt8.ofNat 101,UInt8.ofNat 114,UInt8.ofNat 32,UInt8.ofNat 116,UInt8.ofNat 104,UInt8.ofNat 97,UInt8.ofNat 116,UInt8.ofNat 32,UInt8.ofNat 109,UInt8.ofNat 97,UInt8.ofNat 121,UInt8.ofNat 32,UInt8.ofNat 110,UInt8.ofNat 111,UInt8.ofNat 116,UInt8.ofNat 32,UInt8.ofNat 98,UInt8.ofNat 101] } })),[Zcl,Zcx,Zcw,Zdc,Zdb,Zdr,Zdq,Zd1,Zd0,Zhh,.ok zMmt9,Zhw,.ok zMmt8,Zjc,.ok Zhi,Zkg,.ok Zhy,Zmc,.ok Zjd,Zm9,.ok Zgq,Zmb,.ok Zmd,.is Zmd (.bool true)],[]):=by kernel_rfl
theorem d3u:segTo Try.prog fil.noOrc 10000 flT shT [0,0,0,0,1,0,0,0,0,0,0,0,1] shT0 [] hNe=some (.panic (.iface 9 (.string { data:={ toList:=[UInt8.ofNat 109,UInt8.ofNat 115,UInt8.ofNat 103,UInt8.ofNat 58,UInt8.ofNat 32,UInt8.ofNat 97,UInt8.ofNat 32,UInt8.ofNat 110,UInt8.ofNat 117,UInt8.ofNat 109,UInt8.ofNat 98,UInt8.ofNat 101,UInt8.ofNat 114,UInt8.ofNat 32,UInt8.ofNat 116,UInt8.ofNat 104,UInt8.ofNat 97,UInt8.ofNat 116,UInt8.ofNat 32,UInt8.ofNat 109,UInt8.ofNat 97,UInt8.ofNat 121,UInt8.ofNat 32,UInt8.ofNat 110,UInt8.ofNat 111,UInt8.ofNat 116,UInt8.ofNat 32,UInt8.ofNat 98,UInt8.ofNat 101] } })),[Zcl,Zcx,Zcw,Zdc,Zdb,Zdr,Zdq,Zd1,Zd0,Zhh,.ok zMmt9,Zhw,.ok zMmt8,Zjc,.ok Zhi,Zkg,.ok Zhy,Zmc,.ok Zjd,Zm9,.ok Zgq,Zmb,.ok Zmd,Zq2,.ok Zna,.is Zna (.bool true)],[]):=by kernel_rfl
theorem d4l:segTo Try.prog fil.noOrc 10000 flT shT [0,0,0,0,1,0,0,0,0,0,0,0,0,1] shT0 [] hNe=some (.panic (.iface 9 (.string { data:={ toList:=[UInt8.ofNat 109,UInt8.ofNat 115,UInt8.ofNat 103,UInt8.ofNat 58,UInt8.ofNat 32,UInt8.ofNat 97,UInt8.ofNat 32,UInt8.ofNat 110,UInt8.ofNat 117,UInt8.ofNat 109,UInt8.ofNat 98,UInt8.ofNat 101,UInt8.ofNat 114,UInt8.ofNat 32,UInt8.ofNat 116,UInt8.ofNat 104,UInt8.ofNat 97,UInt8.ofNat 116,UInt8.ofNat 32,UInt8.ofNat 109,UInt8.ofNat 97,UInt8.ofNat 121,UInt8.ofNat 32,UInt8.ofNat 110,UInt8.ofNat 111,UInt8.ofNat 116,UInt8.ofNat 32,UInt8.ofNat 98,UInt8.ofNat 101] } })),[Zcl,Zcx,Zcw,Zdc,Zdb,Zdr,Zdq,Zd1,Zd0,Zhh,.ok zMmt9,Zhw,.ok zMmt8,Zjc,.ok Zhi,Zkg,.ok Zhy,Zmc,.ok Zjd,Zm9,.ok Zgq,Zmb,.ok Zmd,Zq2,.ok Zna,Zs3,.ok Zma,.is Zma (.bool true)],[]):=by kernel_rfl
theorem d4u:segTo Try.prog fil.noOrc 10000 flT shT [0,0,0,0,1,0,0,0,0,0,0,0,0,0,1] shT0 [] hNe=some (.panic (.iface 9 (.string { data:={ toList:=[UInt8.ofNat 109,UInt8.ofNat 115,UInt8.ofNat 103,UInt8.ofNat 58,UInt8.ofNat 32,UInt8.ofNat 97,UInt8.ofNat 32,UInt8.ofNat 110,UInt8.ofNat 117,UInt8.ofNat 109,UInt8.ofNat 98,UInt8.ofNat 101,UInt8.ofNat 114,UInt8.ofNat 32,UInt8.ofNat 116,UInt8.ofNat 104,UInt8.ofNat 97,UInt8.ofNat 116,UInt8.ofNat 32,UInt8.ofNat 109,UInt8.ofNat 97,UInt8.ofNat 121,UInt8.ofNat 32,UInt8.ofNat 110,UInt8.ofNat 111,UInt8.ofNat 116,UInt8.ofNat 32,UInt8.ofNat 98,UInt8.ofNat 101] } })),[Zcl,Zcx,Zcw,Zdc,Zdb,Zdr,Zdq,Zd1,Zd0,Zhh,.ok zMmt9,Zhw,.ok zMmt8,Zjc,.ok Zhi,Zkg,.ok Zhy,Zmc,.ok Zjd,Zm9,.ok Zgq,Zmb,.ok Zmd,Zq2,.ok Zna,Zs3,.ok Zma,.is Zma (.bool false),.ok Zol,.is Zol (.bool true)],[]):=by kernel_rfl
theorem d5u:segTo Try.prog fil.noOrc 10000 flT shT [0,0,0,0,1,0,0,0,0,0,0,0,0,0,0,0,1] shT0 [] hNe=some (.panic (.iface 9 (.string { data:={ toList:=[UInt8.ofNat 109,UInt8.ofNat 115,UInt8.ofNat 103,UInt8.ofNat 58,UInt8.ofNat 32,UInt8.ofNat 97,UInt8.ofNat 32,UInt8.ofNat 110,UInt8.ofNat 117,UInt8.ofNat 109,UInt8.ofNat 98,UInt8.ofNat 101,UInt8.ofNat 114,UInt8.ofNat 32,UInt8.ofNat 116,UInt8.ofNat 104,UInt8.ofNat 97,UInt8.ofNat 116,UInt8.ofNat 32,UInt8.ofNat 109,UInt8.ofNat 97,UInt8.ofNat 121,UInt8.ofNat 32,UInt8.ofNat 110,UInt8.ofNat 111,UInt8.ofNat 116,UInt8.ofNat 32,UInt8.ofNat 98,UInt8.ofNat 101] } })),[Zcl,Zcx,Zcw,Zdc,Zdb,Zdr,Zdq,Zd1,Zd0,Zhh,.ok zMmt9,Zhw,.ok zMmt8,Zjc,.ok Zhi,Zkg,.ok Zhy,Zmc,.ok Zjd,Zm9,.ok Zgq,Zmb,.ok Zmd,Zq2,.ok Zna,Zs3,.ok Zma,.is Zma (.bool false),.ok Zol,.is Zol (.bool false),.ok (.slen (.var 8)),.ok Zs4,.is Zs4 (.bool false),.ok Zs5,.is Zs5 (.bool true)],[]):=by kernel_rfl
theorem dy:segTo Try.prog fil.noOrc 10000 flT shT [0,0,0,0,1,0,0,0,0,0,0,0,0,0,0,0,0,0] shT0 [] hNe=some (.normal,[Zcl,Zcx,Zcw,Zdc,Zdb,Zdr,Zdq,Zd1,Zd0,Zhh,.ok zMmt9,Zhw,.ok zMmt8,Zjc,.ok Zhi,Zkg,.ok Zhy,Zmc,.ok Zjd,Zm9,.ok Zgq,Zmb,.ok Zmd,Zq2,.ok Zna,Zs3,.ok Zma,.is Zma (.bool false),.ok Zol,.is Zol (.bool false),.ok (.slen (.var 8)),.ok Zs4,.is Zs4 (.bool false),.ok Zs5,.is Zs5 (.bool false),.ok zMmt20,.is zMmt20 (.bool false)],[]):=by kernel_rfl
theorem r1:segTo Try.prog fil.noOrc 10000 flT shT [0,0,0,0,0,1,1] shT0 [] hNe=some (.panic (.iface 9 (.string { data:={ toList:=[UInt8.ofNat 109,UInt8.ofNat 115,UInt8.ofNat 103,UInt8.ofNat 58,UInt8.ofNat 32,UInt8.ofNat 97,UInt8.ofNat 32,UInt8.ofNat 110,UInt8.ofNat 117,UInt8.ofNat 109,UInt8.ofNat 98,UInt8.ofNat 101,UInt8.ofNat 114,UInt8.ofNat 32,UInt8.ofNat 116,UInt8.ofNat 104,UInt8.ofNat 97,UInt8.ofNat 116,UInt8.ofNat 32,UInt8.ofNat 109,UInt8.ofNat 97,UInt8.ofNat 121,UInt8.ofNat 32,UInt8.ofNat 110,UInt8.ofNat 111,UInt8.ofNat 116,UInt8.ofNat 32,UInt8.ofNat 98,UInt8.ofNat 101] } })),[Zcl,Zcx,Zcw,Zdc,Zdb,Zdr,Zdq,Zd1,Zd0,Zm8,.ok Zhx,Zs2,.ok Zme,.is Zme (.bool true)],[]):=by kernel_rfl
theorem r2:segTo Try.prog fil.noOrc 10000 flT shT [0,0,0,0,0,1,0,1] shT0 [] hNe=some (.panic (.iface 9 (.string { data:={ toList:=[UInt8.ofNat 109,UInt8.ofNat 115,UInt8.ofNat 103,UInt8.ofNat 58,UInt8.ofNat 32,UInt8.ofNat 97,UInt8.ofNat 32,UInt8.ofNat 110,UInt8.ofNat 117,UInt8.ofNat 109,UInt8.ofNat 98,UInt8.ofNat 101,UInt8.ofNat 114,UInt8.ofNat 32,UInt8.ofNat 116,UInt8.ofNat 104,UInt8.ofNat 97,UInt8.ofNat 116,UInt8.ofNat 32,UInt8.ofNat 109,UInt8.ofNat 97,UInt8.ofNat 121,UInt8.ofNat 32,UInt8.ofNat 110,UInt8.ofNat 111,UInt8.ofNat 116,UInt8.ofNat 32,UInt8.ofNat 98,UInt8.ofNat 101] } })),[Zcl,Zcx,Zcw,Zdc,Zdb,Zdr,Zdq,Zd1,Zd0,Zm8,.ok Zhx,Zs2,.ok Zme,.is Zme (.bool false),.ok Zgq,.is Zgq (.bool true)],[]):=by kernel_rfl
theorem ry:segTo Try.prog fil.noOrc 10000 flT shT [0,0,0,0,0,1,0,0,0] shT0 [] hNe=some (.normal,[Zcl,Zcx,Zcw,Zdc,Zdb,Zdr,Zdq,Zd1,Zd0,Zm8,.ok Zhx,Zs2,.ok Zme,.is Zme (.bool false),.ok Zgq,Zmb,.ok zMmt6,.is zMmt6 (.bool false)],[]):=by kernel_rfl
theorem rd:segTo Try.prog fil.noOrc 10000 flT shT [0,0,0,0,0,1,0,0,1] shT0 [] hNe=some (.panic (.iface 9 (.string { data:={ toList:=[UInt8.ofNat 109,UInt8.ofNat 115,UInt8.ofNat 103,UInt8.ofNat 58,UInt8.ofNat 32,UInt8.ofNat 116,UInt8.ofNat 104,UInt8.ofNat 101,UInt8.ofNat 114,UInt8.ofNat 101,UInt8.ofNat 32,UInt8.ofNat 105,UInt8.ofNat 115,UInt8.ofNat 32,UInt8.ofNat 109,UInt8.ofNat 111,UInt8.ofNat 114,UInt8.ofNat 101,UInt8.ofNat 32,UInt8.ofNat 105,UInt8.ofNat 110,UInt8.ofNat 32,UInt8.ofNat 105,UInt8.ofNat 116,UInt8.ofNat 32,UInt8.ofNat 116,UInt8.ofNat 104,UInt8.ofNat 97,UInt8.ofNat 110,UInt8.ofNat 32,UInt8.ofNat 105,UInt8.ofNat 115,UInt8.ofNat 32,UInt8.ofNat 116,UInt8.ofNat 111,UInt8.ofNat 108,UInt8.ofNat 100,UInt8.ofNat 32,UInt8.ofNat 105,UInt8.ofNat 110,UInt8.ofNat 32,UInt8.ofNat 105,UInt8.ofNat 116,UInt8.ofNat 115,UInt8.ofNat 32,UInt8.ofNat 107,UInt8.ofNat 105,UInt8.ofNat 110,UInt8.ofNat 100] } })),[Zcl,Zcx,Zcw,Zdc,Zdb,Zdr,Zdq,Zd1,Zd0,Zm8,.ok Zhx,Zs2,.ok Zme,.is Zme (.bool false),.ok Zgq,Zmb,.ok zMmt6,.is zMmt6 (.bool true)],[]):=by kernel_rfl
theorem ey:segTo Try.prog fil.noOrc 10000 flT shT [0,0,0,0,0,0,1,0] shT0 [] hNe=some (.normal,[Zcl,Zcx,Zcw,Zdc,Zdb,Zdr,Zdq,Zd1,Zd0,Zm8,.ok Zhx,.is Zhx (.bool false),.ok Zok,.is Zok (.bool true),.ok zMmt7,.is zMmt7 (.bool false)],[]):=by kernel_rfl
theorem ed:segTo Try.prog fil.noOrc 10000 flT shT [0,0,0,0,0,0,1,1] shT0 [] hNe=some (.panic (.iface 9 (.string { data:={ toList:=[UInt8.ofNat 109,UInt8.ofNat 115,UInt8.ofNat 103,UInt8.ofNat 58,UInt8.ofNat 32,UInt8.ofNat 116,UInt8.ofNat 104,UInt8.ofNat 101,UInt8.ofNat 114,UInt8.ofNat 101,UInt8.ofNat 32,UInt8.ofNat 105,UInt8.ofNat 115,UInt8.ofNat 32,UInt8.ofNat 109,UInt8.ofNat 111,UInt8.ofNat 114,UInt8.ofNat 101,UInt8.ofNat 32,UInt8.ofNat 105,UInt8.ofNat 110,UInt8.ofNat 32,UInt8.ofNat 105,UInt8.ofNat 116,UInt8.ofNat 32,UInt8.ofNat 116,UInt8.ofNat 104,UInt8.ofNat 97,UInt8.ofNat 110,UInt8.ofNat 32,UInt8.ofNat 105,UInt8.ofNat 115,UInt8.ofNat 32,UInt8.ofNat 116,UInt8.ofNat 111,UInt8.ofNat 108,UInt8.ofNat 100,UInt8.ofNat 32,UInt8.ofNat 105,UInt8.ofNat 110,UInt8.ofNat 32,UInt8.ofNat 105,UInt8.ofNat 116,UInt8.ofNat 115,UInt8.ofNat 32,UInt8.ofNat 107,UInt8.ofNat 105,UInt8.ofNat 110,UInt8.ofNat 100] } })),[Zcl,Zcx,Zcw,Zdc,Zdb,Zdr,Zdq,Zd1,Zd0,Zm8,.ok Zhx,.is Zhx (.bool false),.ok Zok,.is Zok (.bool true),.ok zMmt7,.is zMmt7 (.bool true)],[]):=by kernel_rfl
theorem nk:segTo Try.prog fil.noOrc 10000 flT shT [0,0,0,0,0,0,0] shT0 [] hNe=some (.panic (.iface 9 (.string { data:={ toList:=[UInt8.ofNat 109,UInt8.ofNat 115,UInt8.ofNat 103,UInt8.ofNat 58,UInt8.ofNat 32,UInt8.ofNat 110,UInt8.ofNat 111,UInt8.ofNat 116,UInt8.ofNat 104,UInt8.ofNat 105,UInt8.ofNat 110,UInt8.ofNat 103,UInt8.ofNat 32,UInt8.ofNat 111,UInt8.ofNat 102,UInt8.ofNat 32,UInt8.ofNat 116,UInt8.ofNat 104,UInt8.ofNat 97,UInt8.ofNat 116,UInt8.ofNat 32,UInt8.ofNat 107,UInt8.ofNat 105,UInt8.ofNat 110,UInt8.ofNat 100,UInt8.ofNat 32,UInt8.ofNat 105,UInt8.ofNat 115,UInt8.ofNat 32,UInt8.ofNat 116,UInt8.ofNat 111,UInt8.ofNat 108,UInt8.ofNat 100] } })),[Zcl,Zcx,Zcw,Zdc,Zdb,Zdr,Zdq,Zd1,Zd0,Zm8,.ok Zhx,.is Zhx (.bool false),.ok Zok,.is Zok (.bool false)],[]):=by kernel_rfl
@[simp] theorem kTbE (k:Nat):(ETb k).k=k:=rfl
theorem not_v (b:Bool):ropPV .notB [pB b]=some (pB !b):=rfl
theorem tl_e0 (x:ByteArray):x.toList=e0.toList ↔ x=e0:=⟨mws.tl_injW,fun h=>by rw [h]⟩
theorem Zak:PV.v (Value.string ⟨⟨[]⟩⟩)=pS e0:=rfl
def RTb (ps qs:List PV):Prop:=∃ a:TellM,TOk a/\ps=tP a/\qs=if mayT a=true then [pI 0] else [pI 1]
theorem fTb:∀ ps q1 q2,RTb ps q1->RTb ps q2->q1=q2:=by
 rintro ps q1 q2 ⟨a,_,rfl,rfl⟩ ⟨b,_,h,rfl⟩
 rw [Zh5 h]
set_option maxHeartbeats 4000000 in
theorem Zvq (k0:Nat):ToldX 45 (ETb k0) [anyV] (spec RTb):=by
 refine Zgt (fun _ _=>none) _ (Zam Try.prog 45) Try.func45 (by kernel_rfl) shT (by kernel_rfl) ?_ ?_
 ·intro ps qs h
  obtain ⟨a,_,rfl,rfl⟩:=Zaf h
  exact Za6 rfl
 intro C ps qs hF h a w hsh
 obtain ⟨A,ok,rfl,hqs⟩:=Zaf h
 have hb:=ok.body
 clear h ok
 show wpL Try.prog flT _ a w
 rw [<- List.append_nil flT]
 obtain ⟨t1,t2,t3,t4,t5,t6,t7,t8,t9⟩:=A
 simp only [tP] at *
 by_cases c1:t2 < 1
 ·rw [show mayT ⟨t1,t2,t3,t4,t5,t6,t7,t8,t9⟩=false by (simp [mayT,numB];omega),if_neg (by simp)] at hqs
  refine Zad names_ok mixed_ok fil.noOrc_ok n1 hsh ?_ (fun qs a1 w1 hq h1=>⟨nofun,fun _=>.inr ⟨0,anyV,_,_,_,hqs,rfl,rfl,h1⟩⟩)
  simp [-Zac,Zab,Zaa,Base.ev,SX.ev,evs,Value.oneCell',tl_e0,hF,Zal,binPV,eqI_v,eqS_v,all9,not_v,e0_l,Zak,c1]
  all_goals first | omega | grind
 by_cases c2:3 < t2
 ·rw [show mayT ⟨t1,t2,t3,t4,t5,t6,t7,t8,t9⟩=false by (simp [mayT,numB];omega),if_neg (by simp)] at hqs
  refine Zad names_ok mixed_ok fil.noOrc_ok n2 hsh ?_ (fun qs a1 w1 hq h1=>⟨nofun,fun _=>.inr ⟨0,anyV,_,_,_,hqs,rfl,rfl,h1⟩⟩)
  simp [-Zac,Zab,Zaa,Base.ev,SX.ev,evs,Value.oneCell',tl_e0,hF,Zal,binPV,eqI_v,eqS_v,all9,not_v,e0_l,Zak,c1,c2]
  all_goals first | omega | grind
 by_cases c3:t3 < 0
 ·rw [show mayT ⟨t1,t2,t3,t4,t5,t6,t7,t8,t9⟩=false by (simp [mayT,numB];omega),if_neg (by simp)] at hqs
  refine Zad names_ok mixed_ok fil.noOrc_ok n3 hsh ?_ (fun qs a1 w1 hq h1=>⟨nofun,fun _=>.inr ⟨0,anyV,_,_,_,hqs,rfl,rfl,h1⟩⟩)
  simp [-Zac,Zab,Zaa,Base.ev,SX.ev,evs,Value.oneCell',tl_e0,hF,Zal,binPV,eqI_v,eqS_v,all9,not_v,e0_l,Zak,c1,c2,c3]
  all_goals first | omega | grind
 by_cases c4:1073741824 < t3
 ·rw [show mayT ⟨t1,t2,t3,t4,t5,t6,t7,t8,t9⟩=false by (simp [mayT,numB];omega),if_neg (by simp)] at hqs
  refine Zad names_ok mixed_ok fil.noOrc_ok n4 hsh ?_ (fun qs a1 w1 hq h1=>⟨nofun,fun _=>.inr ⟨0,anyV,_,_,_,hqs,rfl,rfl,h1⟩⟩)
  simp [-Zac,Zab,Zaa,Base.ev,SX.ev,evs,Value.oneCell',tl_e0,hF,Zal,binPV,eqI_v,eqS_v,all9,not_v,e0_l,Zak,c1,c2,c3,c4]
  all_goals first | omega | grind
 have mT:mayT ⟨t1,t2,t3,t4,t5,t6,t7,t8,t9⟩=(decide (1<=t1/\t1<=3) && (if t1=1 then numB t4 1 && decide (0<=t5/\t5<=7/\0<=t6/\t6<=6/\0<=t7/\t7<=2) && numB t8 0 && decide (t9.size<=24) else decide (t4=0/\t5=0/\t7=0/\t8=0/\t9=e0) && (if t1=2 then decide (1<=t6/\t6<=6) else decide (t6=0)))):=by
  rw [Bool.eq_iff_iff]
  simp only [mayT,numB,Bool.and_eq_true,decide_eq_true_eq]
  constructor
  ·rintro ⟨⟨h,_⟩,h2⟩;exact ⟨⟨h.1,h.2.1⟩,h2⟩
  ·rintro ⟨h,h2⟩;exact ⟨⟨⟨h.1,h.2,by omega,by omega⟩,by omega,by omega⟩,h2⟩
 by_cases k1:t1=1
 ·subst k1
  by_cases d0a:t4 < 1
  ·rw [show mayT ⟨1,t2,t3,t4,t5,t6,t7,t8,t9⟩=false by (rw [mT];simp [numB];omega),if_neg (by simp)] at hqs
   refine Zad names_ok mixed_ok fil.noOrc_ok d0l hsh ?_ (fun qs a1 w1 hq h1=>⟨nofun,fun _=>.inr ⟨0,anyV,_,_,_,hqs,rfl,rfl,h1⟩⟩)
   simp [-Zac,Zab,Zaa,Base.ev,SX.ev,evs,Value.oneCell',tl_e0,hF,Zal,binPV,eqI_v,eqS_v,all9,not_v,e0_l,Zak,c1,c2,c3,c4,d0a]
   all_goals first | omega | grind
  by_cases d0b:1073741824 < t4
  ·rw [show mayT ⟨1,t2,t3,t4,t5,t6,t7,t8,t9⟩=false by (rw [mT];simp [numB];omega),if_neg (by simp)] at hqs
   refine Zad names_ok mixed_ok fil.noOrc_ok d0u hsh ?_ (fun qs a1 w1 hq h1=>⟨nofun,fun _=>.inr ⟨0,anyV,_,_,_,hqs,rfl,rfl,h1⟩⟩)
   simp [-Zac,Zab,Zaa,Base.ev,SX.ev,evs,Value.oneCell',tl_e0,hF,Zal,binPV,eqI_v,eqS_v,all9,not_v,e0_l,Zak,c1,c2,c3,c4,d0a,d0b]
   all_goals first | omega | grind
  by_cases d1a:t5 < 0
  ·rw [show mayT ⟨1,t2,t3,t4,t5,t6,t7,t8,t9⟩=false by (rw [mT];simp [numB];omega),if_neg (by simp)] at hqs
   refine Zad names_ok mixed_ok fil.noOrc_ok d1l hsh ?_ (fun qs a1 w1 hq h1=>⟨nofun,fun _=>.inr ⟨0,anyV,_,_,_,hqs,rfl,rfl,h1⟩⟩)
   simp [-Zac,Zab,Zaa,Base.ev,SX.ev,evs,Value.oneCell',tl_e0,hF,Zal,binPV,eqI_v,eqS_v,all9,not_v,e0_l,Zak,c1,c2,c3,c4,d0a,d0b,d1a]
   all_goals first | omega | grind
  by_cases d1b:7 < t5
  ·rw [show mayT ⟨1,t2,t3,t4,t5,t6,t7,t8,t9⟩=false by (rw [mT];simp [numB];omega),if_neg (by simp)] at hqs
   refine Zad names_ok mixed_ok fil.noOrc_ok d1u hsh ?_ (fun qs a1 w1 hq h1=>⟨nofun,fun _=>.inr ⟨0,anyV,_,_,_,hqs,rfl,rfl,h1⟩⟩)
   simp [-Zac,Zab,Zaa,Base.ev,SX.ev,evs,Value.oneCell',tl_e0,hF,Zal,binPV,eqI_v,eqS_v,all9,not_v,e0_l,Zak,c1,c2,c3,c4,d0a,d0b,d1a,d1b]
   all_goals first | omega | grind
  by_cases d2a:t6 < 0
  ·rw [show mayT ⟨1,t2,t3,t4,t5,t6,t7,t8,t9⟩=false by (rw [mT];simp [numB];omega),if_neg (by simp)] at hqs
   refine Zad names_ok mixed_ok fil.noOrc_ok d2l hsh ?_ (fun qs a1 w1 hq h1=>⟨nofun,fun _=>.inr ⟨0,anyV,_,_,_,hqs,rfl,rfl,h1⟩⟩)
   simp [-Zac,Zab,Zaa,Base.ev,SX.ev,evs,Value.oneCell',tl_e0,hF,Zal,binPV,eqI_v,eqS_v,all9,not_v,e0_l,Zak,c1,c2,c3,c4,d0a,d0b,d1a,d1b,d2a]
   all_goals first | omega | grind
  by_cases d2b:6 < t6
  ·rw [show mayT ⟨1,t2,t3,t4,t5,t6,t7,t8,t9⟩=false by (rw [mT];simp [numB];omega),if_neg (by simp)] at hqs
   refine Zad names_ok mixed_ok fil.noOrc_ok d2u hsh ?_ (fun qs a1 w1 hq h1=>⟨nofun,fun _=>.inr ⟨0,anyV,_,_,_,hqs,rfl,rfl,h1⟩⟩)
   simp [-Zac,Zab,Zaa,Base.ev,SX.ev,evs,Value.oneCell',tl_e0,hF,Zal,binPV,eqI_v,eqS_v,all9,not_v,e0_l,Zak,c1,c2,c3,c4,d0a,d0b,d1a,d1b,d2a,d2b]
   all_goals first | omega | grind
  by_cases d3a:t7 < 0
  ·rw [show mayT ⟨1,t2,t3,t4,t5,t6,t7,t8,t9⟩=false by (rw [mT];simp [numB];omega),if_neg (by simp)] at hqs
   refine Zad names_ok mixed_ok fil.noOrc_ok d3l hsh ?_ (fun qs a1 w1 hq h1=>⟨nofun,fun _=>.inr ⟨0,anyV,_,_,_,hqs,rfl,rfl,h1⟩⟩)
   simp [-Zac,Zab,Zaa,Base.ev,SX.ev,evs,Value.oneCell',tl_e0,hF,Zal,binPV,eqI_v,eqS_v,all9,not_v,e0_l,Zak,c1,c2,c3,c4,d0a,d0b,d1a,d1b,d2a,d2b,d3a]
   all_goals first | omega | grind
  by_cases d3b:2 < t7
  ·rw [show mayT ⟨1,t2,t3,t4,t5,t6,t7,t8,t9⟩=false by (rw [mT];simp [numB];omega),if_neg (by simp)] at hqs
   refine Zad names_ok mixed_ok fil.noOrc_ok d3u hsh ?_ (fun qs a1 w1 hq h1=>⟨nofun,fun _=>.inr ⟨0,anyV,_,_,_,hqs,rfl,rfl,h1⟩⟩)
   simp [-Zac,Zab,Zaa,Base.ev,SX.ev,evs,Value.oneCell',tl_e0,hF,Zal,binPV,eqI_v,eqS_v,all9,not_v,e0_l,Zak,c1,c2,c3,c4,d0a,d0b,d1a,d1b,d2a,d2b,d3a,d3b]
   all_goals first | omega | grind
  by_cases d4a:t8 < 0
  ·rw [show mayT ⟨1,t2,t3,t4,t5,t6,t7,t8,t9⟩=false by (rw [mT];simp [numB];omega),if_neg (by simp)] at hqs
   refine Zad names_ok mixed_ok fil.noOrc_ok d4l hsh ?_ (fun qs a1 w1 hq h1=>⟨nofun,fun _=>.inr ⟨0,anyV,_,_,_,hqs,rfl,rfl,h1⟩⟩)
   simp [-Zac,Zab,Zaa,Base.ev,SX.ev,evs,Value.oneCell',tl_e0,hF,Zal,binPV,eqI_v,eqS_v,all9,not_v,e0_l,Zak,c1,c2,c3,c4,d0a,d0b,d1a,d1b,d2a,d2b,d3a,d3b,d4a]
   all_goals first | omega | grind
  by_cases d4b:1073741824 < t8
  ·rw [show mayT ⟨1,t2,t3,t4,t5,t6,t7,t8,t9⟩=false by (rw [mT];simp [numB];omega),if_neg (by simp)] at hqs
   refine Zad names_ok mixed_ok fil.noOrc_ok d4u hsh ?_ (fun qs a1 w1 hq h1=>⟨nofun,fun _=>.inr ⟨0,anyV,_,_,_,hqs,rfl,rfl,h1⟩⟩)
   simp [-Zac,Zab,Zaa,Base.ev,SX.ev,evs,Value.oneCell',tl_e0,hF,Zal,binPV,eqI_v,eqS_v,all9,not_v,e0_l,Zak,c1,c2,c3,c4,d0a,d0b,d1a,d1b,d2a,d2b,d3a,d3b,d4a,d4b]
   all_goals first | omega | grind
  have e5:¬ (t9.size:Int) < 0:=by omega
  by_cases d5:(24:Int) < (t9.size:Int)
  ·rw [show mayT ⟨1,t2,t3,t4,t5,t6,t7,t8,t9⟩=false by (rw [mT];simp [numB];omega),if_neg (by simp)] at hqs
   refine Zad names_ok mixed_ok fil.noOrc_ok d5u hsh ?_ (fun qs a1 w1 hq h1=>⟨nofun,fun _=>.inr ⟨0,anyV,_,_,_,hqs,rfl,rfl,h1⟩⟩)
   simp [-Zac,Zab,Zaa,Base.ev,SX.ev,evs,Value.oneCell',tl_e0,hF,Zal,binPV,eqI_v,eqS_v,all9,not_v,e0_l,Zak,c1,c2,c3,c4,d0a,d0b,d1a,d1b,d2a,d2b,d3a,d3b,d4a,d4b,e5,d5]
   all_goals first | omega | grind
  ·rw [show mayT ⟨1,t2,t3,t4,t5,t6,t7,t8,t9⟩=true by (rw [mT];simp [numB];omega),if_pos rfl] at hqs
   refine Zad names_ok mixed_ok fil.noOrc_ok dy hsh ?_ (fun qs a1 w1 hq h1=>⟨fun _=>.inl ⟨_,hqs,.inl rfl,shT0,_,[],h1,by kernel_rfl,rfl⟩,fun h=>absurd rfl h⟩)
   simp [-Zac,Zab,Zaa,Base.ev,SX.ev,evs,Value.oneCell',tl_e0,hF,Zal,binPV,eqI_v,eqS_v,all9,not_v,e0_l,Zak,c1,c2,c3,c4,d0a,d0b,d1a,d1b,d2a,d2b,d3a,d3b,d4a,d4b,e5,d5]
   all_goals first | omega | grind
 by_cases k2:t1=2
 ·subst k2
  by_cases i1:t6 < 1
  ·rw [show mayT ⟨2,t2,t3,t4,t5,t6,t7,t8,t9⟩=false by (rw [mT];simp;omega),if_neg (by simp)] at hqs
   refine Zad names_ok mixed_ok fil.noOrc_ok r1 hsh ?_ (fun qs a1 w1 hq h1=>⟨nofun,fun _=>.inr ⟨0,anyV,_,_,_,hqs,rfl,rfl,h1⟩⟩)
   simp [-Zac,Zab,Zaa,Base.ev,SX.ev,evs,Value.oneCell',tl_e0,hF,Zal,binPV,eqI_v,eqS_v,all9,not_v,e0_l,Zak,c1,c2,c3,c4,k1,i1]
   all_goals first | omega | grind
  by_cases i2:6 < t6
  ·rw [show mayT ⟨2,t2,t3,t4,t5,t6,t7,t8,t9⟩=false by (rw [mT];simp;omega),if_neg (by simp)] at hqs
   refine Zad names_ok mixed_ok fil.noOrc_ok r2 hsh ?_ (fun qs a1 w1 hq h1=>⟨nofun,fun _=>.inr ⟨0,anyV,_,_,_,hqs,rfl,rfl,h1⟩⟩)
   simp [-Zac,Zab,Zaa,Base.ev,SX.ev,evs,Value.oneCell',tl_e0,hF,Zal,binPV,eqI_v,eqS_v,all9,not_v,e0_l,Zak,c1,c2,c3,c4,k1,i1,i2]
   all_goals first | omega | grind
  by_cases q:t4=0/\t5=0/\t7=0/\t8=0/\t9=e0
  ·rw [show mayT ⟨2,t2,t3,t4,t5,t6,t7,t8,t9⟩=true by (rw [mT];simp [q];omega),if_pos rfl] at hqs
   refine Zad names_ok mixed_ok fil.noOrc_ok ry hsh ?_ (fun qs a1 w1 hq h1=>⟨fun _=>.inl ⟨_,hqs,.inl rfl,shT0,_,[],h1,by kernel_rfl,rfl⟩,fun h=>absurd rfl h⟩)
   simp [-Zac,Zab,Zaa,Base.ev,SX.ev,evs,Value.oneCell',tl_e0,hF,Zal,binPV,eqI_v,eqS_v,all9,not_v,e0_l,Zak,c1,c2,c3,c4,k1,i1,i2,q]
   all_goals first | omega | grind
  ·rw [show mayT ⟨2,t2,t3,t4,t5,t6,t7,t8,t9⟩=false by (rw [mT,decide_eq_false q];simp),if_neg (by simp)] at hqs
   refine Zad names_ok mixed_ok fil.noOrc_ok rd hsh ?_ (fun qs a1 w1 hq h1=>⟨nofun,fun _=>.inr ⟨0,anyV,_,_,_,hqs,rfl,rfl,h1⟩⟩)
   simp [-Zac,Zab,Zaa,Base.ev,SX.ev,evs,Value.oneCell',tl_e0,hF,Zal,binPV,eqI_v,eqS_v,all9,not_v,e0_l,Zak,c1,c2,c3,c4,k1,i1,i2,q]
   all_goals first | omega | grind
 by_cases k3:t1=3
 ·subst k3
  by_cases q:t4=0/\t5=0/\t7=0/\t8=0/\t9=e0/\t6=0
  ·rw [show mayT ⟨3,t2,t3,t4,t5,t6,t7,t8,t9⟩=true by (rw [mT];simp [q]),if_pos rfl] at hqs
   refine Zad names_ok mixed_ok fil.noOrc_ok ey hsh ?_ (fun qs a1 w1 hq h1=>⟨fun _=>.inl ⟨_,hqs,.inl rfl,shT0,_,[],h1,by kernel_rfl,rfl⟩,fun h=>absurd rfl h⟩)
   simp [-Zac,Zab,Zaa,Base.ev,SX.ev,evs,Value.oneCell',tl_e0,hF,Zal,binPV,eqI_v,eqS_v,all9,not_v,e0_l,Zak,c1,c2,c3,c4,k1,k2,q]
   all_goals first | omega | grind
  ·rw [show mayT ⟨3,t2,t3,t4,t5,t6,t7,t8,t9⟩=false by (rw [mT];simp;exact fun a b c d e f=>q ⟨a,b,c,d,e,f⟩),if_neg (by simp)] at hqs
   refine Zad names_ok mixed_ok fil.noOrc_ok ed hsh ?_ (fun qs a1 w1 hq h1=>⟨nofun,fun _=>.inr ⟨0,anyV,_,_,_,hqs,rfl,rfl,h1⟩⟩)
   simp [-Zac,Zab,Zaa,Base.ev,SX.ev,evs,Value.oneCell',tl_e0,hF,Zal,binPV,eqI_v,eqS_v,all9,not_v,e0_l,Zak,c1,c2,c3,c4,k1,k2,q]
   all_goals first | omega | grind
 rw [show mayT ⟨t1,t2,t3,t4,t5,t6,t7,t8,t9⟩=false by (rw [mT];simp;omega),if_neg (by simp)] at hqs
 refine Zad names_ok mixed_ok fil.noOrc_ok nk hsh ?_ (fun qs a1 w1 hq h1=>⟨nofun,fun _=>.inr ⟨0,anyV,_,_,_,hqs,rfl,rfl,h1⟩⟩)
 simp [-Zac,Zab,Zaa,Base.ev,SX.ev,evs,Value.oneCell',tl_e0,hF,Zal,binPV,eqI_v,eqS_v,all9,not_v,e0_l,Zak,c1,c2,c3,c4,k1,k2,k3]
 all_goals first | omega | grind
end Go.Proofs.Ytnomiffghidmbaa.mmt
