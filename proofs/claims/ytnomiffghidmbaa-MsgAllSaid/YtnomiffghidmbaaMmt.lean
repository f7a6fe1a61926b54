/- Package msg's mustBeTell, told: it panics where nothing may be told so. -/
import Derived.Test.YtnomiffghidmbaaMmw
import Derived.Test.YtnomiffghidmbaaMtt
namespace Go.Proofs.Ytnomiffghidmbaa.mmt
open Go Go.RowKit eng SX Fact fil ima msm
open fileFronts (Zac)
open myt (TOk tP Zh4 eqI_v eqS_v all9 e0_l i64)
set_option linter.unusedVariables false
set_option linter.unusedSimpArgs false
set_option maxRecDepth 1000000
def hNe (_:FuncId) (o:Oper):Option Hint:=match o.op with | .binOp .neq 27 _ _ _=>some .parts | _=>none
def ETb (k:Nat):FnE:={ k:=k,ins:=[some 9],leaks:=[false,false,false,false,false,false,false,false,false],outs:=[],kinds:=[] }
noncomputable def flT:=flat (Zam Try.prog 45)
def shT:Shape:=⟨[(0,.agg 9)],[],[none,none,none,none,none,none,none,none,none],38,45⟩
def shT0:Shape:=⟨[],[],[],38,45⟩
@[simp] def zMmt1:SX:=.con (.int .i64 0)
@[simp] def zMmt2:SX:=.bin .gtr (.var 2) (.con (.int .i64 1073741824))
@[simp] def zMmt3:SX:=.bin .lss (.var 1) (.con (.int .i64 1))
@[simp] def zMmt4:SX:=.bin .gtr (.var 1) (.con (.int .i64 3))
@[simp] def zMmt5:SX:=.bin .eql (.var 0) (.con (.int .i64 1))
@[simp] def zMmt6:SX:=rop ROp.notB [rop ROp.allB [rop ROp.eqI [.var 0,.var 0],rop ROp.eqI [.var 1,.var 1],rop ROp.eqI [.var 2,.var 2],rop ROp.eqI [.var 3,zMmt1],rop ROp.eqI [.var 4,zMmt1],rop ROp.eqI [.var 5,.var 5],rop ROp.eqI [.var 6,zMmt1],rop ROp.eqI [.var 7,zMmt1],rop ROp.eqS [.var 8,.con (.string { data:={ toList:=[] } })]]]
@[simp] def zMmt7:SX:=rop ROp.notB [rop ROp.allB [rop ROp.eqI [.var 0,.var 0],rop ROp.eqI [.var 1,.var 1],rop ROp.eqI [.var 2,.var 2],rop ROp.eqI [.var 3,zMmt1],rop ROp.eqI [.var 4,zMmt1],rop ROp.eqI [.var 5,zMmt1],rop ROp.eqI [.var 6,zMmt1],rop ROp.eqI [.var 7,zMmt1],rop ROp.eqS [.var 8,.con (.string { data:={ toList:=[] } })]]]
@[simp] def zMmt8:SX:=.bin .gtr (.var 3) (.con (.int .i64 1073741824))
@[simp] def zMmt9:SX:=.bin .lss (.var 3) (.con (.int .i64 1))
@[simp] def Zvb:SX:=.bin .lss (.var 2) zMmt1
@[simp] def Zgr:SX:=.bin .gtr (.var 5) (.con (.int .i64 6))
@[simp] def Zhz:SX:=.bin .gtr (.var 4) (.con (.int .i64 7))
@[simp] def Zhy:SX:=.bin .eql (.var 0) (.con (.int .i64 2))
@[simp] def Zcy:Fact:=.is zMmt3 (.bool false)
@[simp] def Zdt:Fact:=.is Zvb (.bool false)
@[simp] def Zhk:SX:=.bin .lss (.var 4) zMmt1
@[simp] def Zdd:Fact:=.is zMmt4 (.bool false)
@[simp] def Zd2:Fact:=.is zMmt2 (.bool false)
@[simp] def Zne:SX:=.bin .gtr (.var 6) (.con (.int .i64 2))
@[simp] def zMmt20:SX:=rop ROp.notB [rop ROp.allB [rop ROp.eqI [.var 0,.var 0],rop ROp.eqI [.var 1,.var 1],rop ROp.eqI [.var 2,.var 2],rop ROp.eqI [.var 3,.var 3],rop ROp.eqI [.var 4,.var 4],rop ROp.eqI [.var 5,.var 5],rop ROp.eqI [.var 6,.var 6],rop ROp.eqI [.var 7,.var 7],rop ROp.eqS [.var 8,.var 8]]]
@[simp] def Zja:SX:=.bin .lss (.var 5) zMmt1
@[simp] def Zmg:SX:=.bin .lss (.var 5) (.con (.int .i64 1))
@[simp] def Zor:SX:=.bin .gtr (.var 7) (.con (.int .i64 1073741824))
@[simp] def Zmf:SX:=.bin .lss (.var 6) zMmt1
@[simp] def Zhj:Fact:=.is zMmt5 (.bool true)
@[simp] def Zhx:Fact:=.is zMmt9 (.bool false)
@[simp] def Zoq:SX:=.bin .eql (.var 0) (.con (.int .i64 3))
@[simp] def Zi9:Fact:=.is zMmt8 (.bool false)
@[simp] def Zkb:Fact:=.is Zhk (.bool false)
@[simp] def Zme:Fact:=.is Zhz (.bool false)
@[simp] def Zmd:Fact:=.is Zgr (.bool false)
@[simp] def Zmc:SX:=.bin .lss (.var 7) zMmt1
@[simp] def Ztg:SX:=.bin .gtr (.slen (.var 8)) (.con (.int .i64 24))
@[simp] def Znd:Fact:=.is Zja (.bool false)
@[simp] def Znc:Fact:=.is zMmt5 (.bool false)
@[simp] def Zdc:Fact:=.ok Zvb
@[simp] def Ztf:SX:=.bin .lss (.slen (.var 8)) zMmt1
@[simp] def Zq3:Fact:=.is Zmf (.bool false)
@[simp] def Zcm:Fact:=.ok zMmt3
@[simp] def Zcx:Fact:=.ok zMmt4
@[simp] def Zds:Fact:=.ok zMmt2
@[simp] def Zd1:Fact:=.ok zMmt5
@[simp] def Zte:Fact:=.is Zne (.bool false)
@[simp] def Ztd:Fact:=.is Zhy (.bool true)
theorem n1:segTo Try.prog fil.noOrc 10000 flT shT [1] shT0 [] hNe=some (.panic (.iface 9 (.string { data:={ toList:=[UInt8.ofNat 109,UInt8.ofNat 115,UInt8.ofNat 103,UInt8.ofNat 58,UInt8.ofNat 32,UInt8.ofNat 97,UInt8.ofNat 32,UInt8.ofNat 110,UInt8.ofNat 117,UInt8.ofNat 109,UInt8.ofNat 98,UInt8.ofNat 101,UInt8.ofNat 114,UInt8.ofNat 32,UInt8.ofNat 116,UInt8.ofNat 104,UInt8.ofNat 97,UInt8.ofNat 116,UInt8.ofNat 32,UInt8.ofNat 109,UInt8.ofNat 97,UInt8.ofNat 121,UInt8.ofNat 32,UInt8.ofNat 110,UInt8.ofNat 111,UInt8.ofNat 116,UInt8.ofNat 32,UInt8.ofNat 98,UInt8.ofNat 101] } })),[Zcm,.is zMmt3 (.bool true)],[]):=by kernel_rfl
theorem n2:segTo Try.prog fil.noOrc 10000 flT shT [0,1] shT0 [] hNe=some (.panic (.iface 9 (.string { data:={ toList:=[UInt8.ofNat 109,UInt8.ofNat 115,UInt8.ofNat 103,UInt8.ofNat 58,UInt8.ofNat 32,UInt8.ofNat 97,UInt8.ofNat 32,UInt8.ofNat 110,UInt8.ofNat 117,UInt8.ofNat 109,UInt8.ofNat 98,UInt8.ofNat 101,UInt8.ofNat 114,UInt8.ofNat 32,UInt8.ofNat 116,UInt8.ofNat 104,UInt8.ofNat 97,UInt8.ofNat 116,UInt8.ofNat 32,UInt8.ofNat 109,UInt8.ofNat 97,UInt8.ofNat 121,UInt8.ofNat 32,UInt8.ofNat 110,UInt8.ofNat 111,UInt8.ofNat 116,UInt8.ofNat 32,UInt8.ofNat 98,UInt8.ofNat 101] } })),[Zcm,Zcy,Zcx,.is zMmt4 (.bool true)],[]):=by kernel_rfl
theorem n3:segTo Try.prog fil.noOrc 10000 flT shT [0,0,1] shT0 [] hNe=some (.panic (.iface 9 (.string { data:={ toList:=[UInt8.ofNat 109,UInt8.ofNat 115,UInt8.ofNat 103,UInt8.ofNat 58,UInt8.ofNat 32,UInt8.ofNat 97,UInt8.ofNat 32,UInt8.ofNat 110,UInt8.ofNat 117,UInt8.ofNat 109,UInt8.ofNat 98,UInt8.ofNat 101,UInt8.ofNat 114,UInt8.ofNat 32,UInt8.ofNat 116,UInt8.ofNat 104,UInt8.ofNat 97,UInt8.ofNat 116,UInt8.ofNat 32,UInt8.ofNat 109,UInt8.ofNat 97,UInt8.ofNat 121,UInt8.ofNat 32,UInt8.ofNat 110,UInt8.ofNat 111,UInt8.ofNat 116,UInt8.ofNat 32,UInt8.ofNat 98,UInt8.ofNat 101] } })),[Zcm,Zcy,Zcx,Zdd,Zdc,.is Zvb (.bool true)],[]):=by kernel_rfl
theorem n4:segTo Try.prog fil.noOrc 10000 flT shT [0,0,0,1] shT0 [] hNe=some (.panic (.iface 9 (.string { data:={ toList:=[UInt8.ofNat 109,UInt8.ofNat 115,UInt8.ofNat 103,UInt8.ofNat 58,UInt8.ofNat 32,UInt8.ofNat 97,UInt8.ofNat 32,UInt8.ofNat 110,UInt8.ofNat 117,UInt8.ofNat 109,UInt8.ofNat 98,UInt8.ofNat 101,UInt8.ofNat 114,UInt8.ofNat 32,UInt8.ofNat 116,UInt8.ofNat 104,UInt8.ofNat 97,UInt8.ofNat 116,UInt8.ofNat 32,UInt8.ofNat 109,UInt8.ofNat 97,UInt8.ofNat 121,UInt8.ofNat 32,UInt8.ofNat 110,UInt8.ofNat 111,UInt8.ofNat 116,UInt8.ofNat 32,UInt8.ofNat 98,UInt8.ofNat 101] } })),[Zcm,Zcy,Zcx,Zdd,Zdc,Zdt,Zds,.is zMmt2 (.bool true)],[]):=by kernel_rfl
theorem d0l:segTo Try.prog fil.noOrc 10000 flT shT [0,0,0,0,1,1] shT0 [] hNe=some (.panic (.iface 9 (.string { data:={ toList:=[UInt8.ofNat 109,UInt8.ofNat 115,UInt8.ofNat 103,UInt8.ofNat 58,UInt8.ofNat 32,UInt8.ofNat 97,UInt8.ofNat 32,UInt8.ofNat 110,UInt8.ofNat 117,UInt8.ofNat 109,UInt8.ofNat 98,UInt8.ofNat 101,UInt8.ofNat 114,UInt8.ofNat 32,UInt8.ofNat 116,UInt8.ofNat 104,UInt8.ofNat 97,UInt8.ofNat 116,UInt8.ofNat 32,UInt8.ofNat 109,UInt8.ofNat 97,UInt8.ofNat 121,UInt8.ofNat 32,UInt8.ofNat 110,UInt8.ofNat 111,UInt8.ofNat 116,UInt8.ofNat 32,UInt8.ofNat 98,UInt8.ofNat 101] } })),[Zcm,Zcy,Zcx,Zdd,Zdc,Zdt,Zds,Zd2,Zd1,Zhj,.ok zMmt9,.is zMmt9 (.bool true)],[]):=by kernel_rfl
theorem d0u:segTo Try.prog fil.noOrc 10000 flT shT [0,0,0,0,1,0,1] shT0 [] hNe=some (.panic (.iface 9 (.string { data:={ toList:=[UInt8.ofNat 109,UInt8.ofNat 115,UInt8.ofNat 103,UInt8.ofNat 58,UInt8.ofNat 32,UInt8.ofNat 97,UInt8.ofNat 32,UInt8.ofNat 110,UInt8.ofNat 117,UInt8.ofNat 109,UInt8.ofNat 98,UInt8.ofNat 101,UInt8.ofNat 114,UInt8.ofNat 32,UInt8.ofNat 116,UInt8.ofNat 104,UInt8.ofNat 97,UInt8.ofNat 116,UInt8.ofNat 32,UInt8.ofNat 109,UInt8.ofNat 97,UInt8.ofNat 121,UInt8.ofNat 32,UInt8.ofNat 110,UInt8.ofNat 111,UInt8.ofNat 116,UInt8.ofNat 32,UInt8.ofNat 98,UInt8.ofNat 101] } })),[Zcm,Zcy,Zcx,Zdd,Zdc,Zdt,Zds,Zd2,Zd1,Zhj,.ok zMmt9,Zhx,.ok zMmt8,.is zMmt8 (.bool true)],[]):=by kernel_rfl
theorem d1l:segTo Try.prog fil.noOrc 10000 flT shT [0,0,0,0,1,0,0,1] shT0 [] hNe=some (.panic (.iface 9 (.string { data:={ toList:=[UInt8.ofNat 109,UInt8.ofNat 115,UInt8.ofNat 103,UInt8.ofNat 58,UInt8.ofNat 32,UInt8.ofNat 97,UInt8.ofNat 32,UInt8.ofNat 110,UInt8.ofNat 117,UInt8.ofNat 109,UInt8.ofNat 98,UInt8.ofNat 101,UInt8.ofNat 114,UInt8.ofNat 32,UInt8.ofNat 116,UInt8.ofNat 104,UInt8.ofNat 97,UInt8.ofNat 116,UInt8.ofNat 32,UInt8.ofNat 109,UInt8.ofNat 97,UInt8.ofNat 121,UInt8.ofNat 32,UInt8.ofNat 110,UInt8.ofNat 111,UInt8.ofNat 116,UInt8.ofNat 32,UInt8.ofNat 98,UInt8.ofNat 101] } })),[Zcm,Zcy,Zcx,Zdd,Zdc,Zdt,Zds,Zd2,Zd1,Zhj,.ok zMmt9,Zhx,.ok zMmt8,Zi9,.ok Zhk,.is Zhk (.bool true)],[]):=by kernel_rfl
theorem d1u:segTo Try.prog fil.noOrc 10000 flT shT [0,0,0,0,1,0,0,0,1] shT0 [] hNe=some (.panic (.iface 9 (.string { data:={ toList:=[UInt8.ofNat 109,UInt8.ofNat 115,UInt8.ofNat 103,UInt8.ofNat 58,UInt8.ofNat 32,UInt8.ofNat 97,UInt8.ofNat 32,UInt8.ofNat 110,UInt8.ofNat 117,UInt8.ofNat 109,UInt8.ofNat 98,UInt8.ofNat 101,UInt8.ofNat 114,UInt8.ofNat 32,UInt8.ofNat 116,UInt8.ofNat 104,UInt8.ofNat 97,UInt8.ofNat 116,UInt8.ofNat 32,UInt8.ofNat 109,UInt8.ofNat 97,UInt8.ofNat 121,UInt8.ofNat 32,UInt8.ofNat 110,UInt8.ofNat 111,UInt8.ofNat 116,UInt8.ofNat 32,UInt8.ofNat 98,UInt8.ofNat 101] } })),[Zcm,Zcy,Zcx,Zdd,Zdc,Zdt,Zds,Zd2,Zd1,Zhj,.ok zMmt9,Zhx,.ok zMmt8,Zi9,.ok Zhk,Zkb,.ok Zhz,.is Zhz (.bool true)],[]):=by kernel_rfl
theorem d2l:segTo Try.prog fil.noOrc 10000 flT shT [0,0,0,0,1,0,0,0,0,1] shT0 [] hNe=some (.panic (.iface 9 (.string { data:={ toList:=[UInt8.ofNat 109,UInt8.ofNat 115,UInt8.ofNat 103,UInt8.ofNat 58,UInt8.ofNat 32,UInt8.ofNat 97,UInt8.ofNat 32,UInt8.ofNat 110,UInt8.ofNat 117,UInt8.ofNat 109,UInt8.ofNat 98,UInt8.ofNat 101,UInt8.ofNat 114,UInt8.ofNat 32,UInt8.ofNat 116,UInt8.ofNat 104,UInt8.ofNat 97,UInt8.ofNat 116,UInt8.ofNat 32,UInt8.ofNat 109,UInt8.ofNat 97,UInt8.ofNat 121,UInt8.ofNat 32,UInt8.ofNat 110,UInt8.ofNat 111,UInt8.ofNat 116,UInt8.ofNat 32,UInt8.ofNat 98,UInt8.ofNat 101] } })),[Zcm,Zcy,Zcx,Zdd,Zdc,Zdt,Zds,Zd2,Zd1,Zhj,.ok zMmt9,Zhx,.ok zMmt8,Zi9,.ok Zhk,Zkb,.ok Zhz,Zme,.ok Zja,.is Zja (.bool true)],[]):=by kernel_rfl
theorem d2u:segTo Try.prog fil.noOrc 10000 flT shT [0,0,0,0,1,0,0,0,0,0,1] shT0 [] hNe=some (.panic (.iface 9 (.string { data:={ toList:=[UInt8.ofNat 109,UInt8.ofNat 115,UInt8.ofNat 103,UInt8.ofNat 58,UInt8.ofNat 32,UInt8.ofNat 97,UInt8.ofNat 32,UInt8.ofNat 110,UInt8.ofNat 117,UInt8.ofNat 109,UInt8.ofNat 98,UInt8.ofNat 101,UInt8.ofNat 114,UInt8.ofNat 32,UInt8.ofNat 116,UInt8.ofNat 104,UInt8.ofNat 97,UInt8.ofNat 116,UInt8.ofNat 32,UInt8.ofNat 109,UInt8.ofNat 97,UInt8.ofNat 121,UInt8.ofNat 32,UInt8.ofNat 110,UInt8.ofNat 111,UInt8.ofNat 116,UInt8.ofNat 32,UInt8.ofNat 98,UInt8.ofNat 101] } })),[Zcm,Zcy,Zcx,Zdd,Zdc,Zdt,Zds,Zd2,Zd1,Zhj,.ok zMmt9,Zhx,.ok zMmt8,Zi9,.ok Zhk,Zkb,.ok Zhz,Zme,.ok Zja,Znd,.ok Zgr,.is Zgr (.bool true)],[]):=by kernel_rfl
theorem d3l:segTo Try.prog fil.noOrc 10000 flT shT [0,0,0,0,1,0,0,0,0,0,0,1] shT0 [] hNe=some (.panic (.iface 9 (.string { data:={ toList:=[UInt8.ofNat 109,UInt8.ofNat 115,UInt8.ofNat 103,UInt8.ofNat 58,UInt8.ofNat 32,UInt8.ofNat 97,UInt8.ofNat 32,UInt8.ofNat 110,UInt8.ofNat 117,UInt8.ofNat 109,UInt8.ofNat 98,UInt8.ofNat 101,UInt8.ofNat 114,UInt8.ofNat 32,UInt8.ofNat 116,UInt8.ofNat 104,UInt8.ofNat 97,UInt8.ofNat 116,UInt8.ofNat 32,UInt8.ofNat 109,UInt8.ofNat 97,UInt8.ofNat 121,UInt8.ofNat 32,UInt8.ofNat 110,UInt8.ofNat 111,UInt8.ofNat 116,UInt8.ofNat 32,UInt8.ofNat 98,UInt8.ofNat 101] } })),[Zcm,Zcy,Zcx,Zdd,Zdc,Zdt,Zds,Zd2,Zd1,Zhj,.ok zMmt9,Zhx,.ok zMmt8,Zi9,.ok Zhk,Zkb,.ok Zhz,Zme,.ok Zja,Znd,.ok Zgr,Zmd,.ok Zmf,.is Zmf (.bool true)],[]):=by kernel_rfl
theorem d3u:segTo Try.prog fil.noOrc 10000 flT shT [0,0,0,0,1,0,0,0,0,0,0,0,1] shT0 [] hNe=some (.panic (.iface 9 (.string { data:={ toList:=[UInt8.ofNat 109,UInt8.ofNat 115,UInt8.ofNat 103,UInt8.ofNat 58,UInt8.ofNat 32,UInt8.ofNat 97,UInt8.ofNat 32,UInt8.ofNat 110,UInt8.ofNat 117,UInt8.ofNat 109,UInt8.ofNat 98,UInt8.ofNat 101,UInt8.ofNat 114,UInt8.ofNat 32,UInt8.ofNat 116,UInt8.ofNat 104,UInt8.ofNat 97,UInt8.ofNat 116,UInt8.ofNat 32,UInt8.ofNat 109,UInt8.ofNat 97,UInt8.ofNat 121,UInt8.ofNat 32,UInt8.ofNat 110,UInt8.ofNat 111,UInt8.ofNat 116,UInt8.ofNat 32,UInt8.ofNat 98,UInt8.ofNat 101] } })),[Zcm,Zcy,Zcx,Zdd,Zdc,Zdt,Zds,Zd2,Zd1,Zhj,.ok zMmt9,Zhx,.ok zMmt8,Zi9,.ok Zhk,Zkb,.ok Zhz,Zme,.ok Zja,Znd,.ok Zgr,Zmd,.ok Zmf,Zq3,.ok Zne,.is Zne (.bool true)],[]):=by kernel_rfl
theorem d4l:segTo Try.prog fil.noOrc 10000 flT shT [0,0,0,0,1,0,0,0,0,0,0,0,0,1] shT0 [] hNe=some (.panic (.iface 9 (.string { data:={ toList:=[UInt8.ofNat 109,UInt8.ofNat 115,UInt8.ofNat 103,UInt8.ofNat 58,UInt8.ofNat 32,UInt8.ofNat 97,UInt8.ofNat 32,UInt8.ofNat 110,UInt8.ofNat 117,UInt8.ofNat 109,UInt8.ofNat 98,UInt8.ofNat 101,UInt8.ofNat 114,UInt8.ofNat 32,UInt8.ofNat 116,UInt8.ofNat 104,UInt8.ofNat 97,UInt8.ofNat 116,UInt8.ofNat 32,UInt8.ofNat 109,UInt8.ofNat 97,UInt8.ofNat 121,UInt8.ofNat 32,UInt8.ofNat 110,UInt8.ofNat 111,UInt8.ofNat 116,UInt8.ofNat 32,UInt8.ofNat 98,UInt8.ofNat 101] } })),[Zcm,Zcy,Zcx,Zdd,Zdc,Zdt,Zds,Zd2,Zd1,Zhj,.ok zMmt9,Zhx,.ok zMmt8,Zi9,.ok Zhk,Zkb,.ok Zhz,Zme,.ok Zja,Znd,.ok Zgr,Zmd,.ok Zmf,Zq3,.ok Zne,Zte,.ok Zmc,.is Zmc (.bool true)],[]):=by kernel_rfl
theorem d4u:segTo Try.prog fil.noOrc 10000 flT shT [0,0,0,0,1,0,0,0,0,0,0,0,0,0,1] shT0 [] hNe=some (.panic (.iface 9 (.string { data:={ toList:=[UInt8.ofNat 109,UInt8.ofNat 115,UInt8.ofNat 103,UInt8.ofNat 58,UInt8.ofNat 32,UInt8.ofNat 97,UInt8.ofNat 32,UInt8.ofNat 110,UInt8.ofNat 117,UInt8.ofNat 109,UInt8.ofNat 98,UInt8.ofNat 101,UInt8.ofNat 114,UInt8.ofNat 32,UInt8.ofNat 116,UInt8.ofNat 104,UInt8.ofNat 97,UInt8.ofNat 116,UInt8.ofNat 32,UInt8.ofNat 109,UInt8.ofNat 97,UInt8.ofNat 121,UInt8.ofNat 32,UInt8.ofNat 110,UInt8.ofNat 111,UInt8.ofNat 116,UInt8.ofNat 32,UInt8.ofNat 98,UInt8.ofNat 101] } })),[Zcm,Zcy,Zcx,Zdd,Zdc,Zdt,Zds,Zd2,Zd1,Zhj,.ok zMmt9,Zhx,.ok zMmt8,Zi9,.ok Zhk,Zkb,.ok Zhz,Zme,.ok Zja,Znd,.ok Zgr,Zmd,.ok Zmf,Zq3,.ok Zne,Zte,.ok Zmc,.is Zmc (.bool false),.ok Zor,.is Zor (.bool true)],[]):=by kernel_rfl
theorem d5u:segTo Try.prog fil.noOrc 10000 flT shT [0,0,0,0,1,0,0,0,0,0,0,0,0,0,0,0,1] shT0 [] hNe=some (.panic (.iface 9 (.string { data:={ toList:=[UInt8.ofNat 109,UInt8.ofNat 115,UInt8.ofNat 103,UInt8.ofNat 58,UInt8.ofNat 32,UInt8.ofNat 97,UInt8.ofNat 32,UInt8.ofNat 110,UInt8.ofNat 117,UInt8.ofNat 109,UInt8.ofNat 98,UInt8.ofNat 101,UInt8.ofNat 114,UInt8.ofNat 32,UInt8.ofNat 116,UInt8.ofNat 104,UInt8.ofNat 97,UInt8.ofNat 116,UInt8.ofNat 32,UInt8.ofNat 109,UInt8.ofNat 97,UInt8.ofNat 121,UInt8.ofNat 32,UInt8.ofNat 110,UInt8.ofNat 111,UInt8.ofNat 116,UInt8.ofNat 32,UInt8.ofNat 98,UInt8.ofNat 101] } })),[Zcm,Zcy,Zcx,Zdd,Zdc,Zdt,Zds,Zd2,Zd1,Zhj,.ok zMmt9,Zhx,.ok zMmt8,Zi9,.ok Zhk,Zkb,.ok Zhz,Zme,.ok Zja,Znd,.ok Zgr,Zmd,.ok Zmf,Zq3,.ok Zne,Zte,.ok Zmc,.is Zmc (.bool false),.ok Zor,.is Zor (.bool false),.ok (.slen (.var 8)),.ok Ztf,.is Ztf (.bool false),.ok Ztg,.is Ztg (.bool true)],[]):=by kernel_rfl
theorem dy:segTo Try.prog fil.noOrc 10000 flT shT [0,0,0,0,1,0,0,0,0,0,0,0,0,0,0,0,0,0] shT0 [] hNe=some (.normal,[Zcm,Zcy,Zcx,Zdd,Zdc,Zdt,Zds,Zd2,Zd1,Zhj,.ok zMmt9,Zhx,.ok zMmt8,Zi9,.ok Zhk,Zkb,.ok Zhz,Zme,.ok Zja,Znd,.ok Zgr,Zmd,.ok Zmf,Zq3,.ok Zne,Zte,.ok Zmc,.is Zmc (.bool false),.ok Zor,.is Zor (.bool false),.ok (.slen (.var 8)),.ok Ztf,.is Ztf (.bool false),.ok Ztg,.is Ztg (.bool false),.ok zMmt20,.is zMmt20 (.bool false)],[]):=by kernel_rfl
theorem r1:segTo Try.prog fil.noOrc 10000 flT shT [0,0,0,0,0,1,1] shT0 [] hNe=some (.panic (.iface 9 (.string { data:={ toList:=[UInt8.ofNat 109,UInt8.ofNat 115,UInt8.ofNat 103,UInt8.ofNat 58,UInt8.ofNat 32,UInt8.ofNat 97,UInt8.ofNat 32,UInt8.ofNat 110,UInt8.ofNat 117,UInt8.ofNat 109,UInt8.ofNat 98,UInt8.ofNat 101,UInt8.ofNat 114,UInt8.ofNat 32,UInt8.ofNat 116,UInt8.ofNat 104,UInt8.ofNat 97,UInt8.ofNat 116,UInt8.ofNat 32,UInt8.ofNat 109,UInt8.ofNat 97,UInt8.ofNat 121,UInt8.ofNat 32,UInt8.ofNat 110,UInt8.ofNat 111,UInt8.ofNat 116,UInt8.ofNat 32,UInt8.ofNat 98,UInt8.ofNat 101] } })),[Zcm,Zcy,Zcx,Zdd,Zdc,Zdt,Zds,Zd2,Zd1,Znc,.ok Zhy,Ztd,.ok Zmg,.is Zmg (.bool true)],[]):=by kernel_rfl
theorem r2:segTo Try.prog fil.noOrc 10000 flT shT [0,0,0,0,0,1,0,1] shT0 [] hNe=some (.panic (.iface 9 (.string { data:={ toList:=[UInt8.ofNat 109,UInt8.ofNat 115,UInt8.ofNat 103,UInt8.ofNat 58,UInt8.ofNat 32,UInt8.ofNat 97,UInt8.ofNat 32,UInt8.ofNat 110,UInt8.ofNat 117,UInt8.ofNat 109,UInt8.ofNat 98,UInt8.ofNat 101,UInt8.ofNat 114,UInt8.ofNat 32,UInt8.ofNat 116,UInt8.ofNat 104,UInt8.ofNat 97,UInt8.ofNat 116,UInt8.ofNat 32,UInt8.ofNat 109,UInt8.ofNat 97,UInt8.ofNat 121,UInt8.ofNat 32,UInt8.ofNat 110,UInt8.ofNat 111,UInt8.ofNat 116,UInt8.ofNat 32,UInt8.ofNat 98,UInt8.ofNat 101] } })),[Zcm,Zcy,Zcx,Zdd,Zdc,Zdt,Zds,Zd2,Zd1,Znc,.ok Zhy,Ztd,.ok Zmg,.is Zmg (.bool false),.ok Zgr,.is Zgr (.bool true)],[]):=by kernel_rfl
theorem ry:segTo Try.prog fil.noOrc 10000 flT shT [0,0,0,0,0,1,0,0,0] shT0 [] hNe=some (.normal,[Zcm,Zcy,Zcx,Zdd,Zdc,Zdt,Zds,Zd2,Zd1,Znc,.ok Zhy,Ztd,.ok Zmg,.is Zmg (.bool false),.ok Zgr,Zmd,.ok zMmt6,.is zMmt6 (.bool false)],[]):=by kernel_rfl
theorem rd:segTo Try.prog fil.noOrc 10000 flT shT [0,0,0,0,0,1,0,0,1] shT0 [] hNe=some (.panic (.iface 9 (.string { data:={ toList:=[UInt8.ofNat 109,UInt8.ofNat 115,UInt8.ofNat 103,UInt8.ofNat 58,UInt8.ofNat 32,UInt8.ofNat 116,UInt8.ofNat 104,UInt8.ofNat 101,UInt8.ofNat 114,UInt8.ofNat 101,UInt8.ofNat 32,UInt8.ofNat 105,UInt8.ofNat 115,UInt8.ofNat 32,UInt8.ofNat 109,UInt8.ofNat 111,UInt8.ofNat 114,UInt8.ofNat 101,UInt8.ofNat 32,UInt8.ofNat 105,UInt8.ofNat 110,UInt8.ofNat 32,UInt8.ofNat 105,UInt8.ofNat 116,UInt8.ofNat 32,UInt8.ofNat 116,UInt8.ofNat 104,UInt8.ofNat 97,UInt8.ofNat 110,UInt8.ofNat 32,UInt8.ofNat 105,UInt8.ofNat 115,UInt8.ofNat 32,UInt8.ofNat 116,UInt8.ofNat 111,UInt8.ofNat 108,UInt8.ofNat 100,UInt8.ofNat 32,UInt8.ofNat 105,UInt8.ofNat 110,UInt8.ofNat 32,UInt8.ofNat 105,UInt8.ofNat 116,UInt8.ofNat 115,UInt8.ofNat 32,UInt8.ofNat 107,UInt8.ofNat 105,UInt8.ofNat 110,UInt8.ofNat 100] } })),[Zcm,Zcy,Zcx,Zdd,Zdc,Zdt,Zds,Zd2,Zd1,Znc,.ok Zhy,Ztd,.ok Zmg,.is Zmg (.bool false),.ok Zgr,Zmd,.ok zMmt6,.is zMmt6 (.bool true)],[]):=by kernel_rfl
theorem ey:segTo Try.prog fil.noOrc 10000 flT shT [0,0,0,0,0,0,1,0] shT0 [] hNe=some (.normal,[Zcm,Zcy,Zcx,Zdd,Zdc,Zdt,Zds,Zd2,Zd1,Znc,.ok Zhy,.is Zhy (.bool false),.ok Zoq,.is Zoq (.bool true),.ok zMmt7,.is zMmt7 (.bool false)],[]):=by kernel_rfl
theorem ed:segTo Try.prog fil.noOrc 10000 flT shT [0,0,0,0,0,0,1,1] shT0 [] hNe=some (.panic (.iface 9 (.string { data:={ toList:=[UInt8.ofNat 109,UInt8.ofNat 115,UInt8.ofNat 103,UInt8.ofNat 58,UInt8.ofNat 32,UInt8.ofNat 116,UInt8.ofNat 104,UInt8.ofNat 101,UInt8.ofNat 114,UInt8.ofNat 101,UInt8.ofNat 32,UInt8.ofNat 105,UInt8.ofNat 115,UInt8.ofNat 32,UInt8.ofNat 109,UInt8.ofNat 111,UInt8.ofNat 114,UInt8.ofNat 101,UInt8.ofNat 32,UInt8.ofNat 105,UInt8.ofNat 110,UInt8.ofNat 32,UInt8.ofNat 105,UInt8.ofNat 116,UInt8.ofNat 32,UInt8.ofNat 116,UInt8.ofNat 104,UInt8.ofNat 97,UInt8.ofNat 110,UInt8.ofNat 32,UInt8.ofNat 105,UInt8.ofNat 115,UInt8.ofNat 32,UInt8.ofNat 116,UInt8.ofNat 111,UInt8.ofNat 108,UInt8.ofNat 100,UInt8.ofNat 32,UInt8.ofNat 105,UInt8.ofNat 110,UInt8.ofNat 32,UInt8.ofNat 105,UInt8.ofNat 116,UInt8.ofNat 115,UInt8.ofNat 32,UInt8.ofNat 107,UInt8.ofNat 105,UInt8.ofNat 110,UInt8.ofNat 100] } })),[Zcm,Zcy,Zcx,Zdd,Zdc,Zdt,Zds,Zd2,Zd1,Znc,.ok Zhy,.is Zhy (.bool false),.ok Zoq,.is Zoq (.bool true),.ok zMmt7,.is zMmt7 (.bool true)],[]):=by kernel_rfl
theorem nk:segTo Try.prog fil.noOrc 10000 flT shT [0,0,0,0,0,0,0] shT0 [] hNe=some (.panic (.iface 9 (.string { data:={ toList:=[UInt8.ofNat 109,UInt8.ofNat 115,UInt8.ofNat 103,UInt8.ofNat 58,UInt8.ofNat 32,UInt8.ofNat 110,UInt8.ofNat 111,UInt8.ofNat 116,UInt8.ofNat 104,UInt8.ofNat 105,UInt8.ofNat 110,UInt8.ofNat 103,UInt8.ofNat 32,UInt8.ofNat 111,UInt8.ofNat 102,UInt8.ofNat 32,UInt8.ofNat 116,UInt8.ofNat 104,UInt8.ofNat 97,UInt8.ofNat 116,UInt8.ofNat 32,UInt8.ofNat 107,UInt8.ofNat 105,UInt8.ofNat 110,UInt8.ofNat 100,UInt8.ofNat 32,UInt8.ofNat 105,UInt8.ofNat 115,UInt8.ofNat 32,UInt8.ofNat 116,UInt8.ofNat 111,UInt8.ofNat 108,UInt8.ofNat 100] } })),[Zcm,Zcy,Zcx,Zdd,Zdc,Zdt,Zds,Zd2,Zd1,Znc,.ok Zhy,.is Zhy (.bool false),.ok Zoq,.is Zoq (.bool false)],[]):=by kernel_rfl
@[simp] theorem kTbE (k:Nat):(ETb k).k=k:=rfl
theorem not_v (b:Bool):ropPV .notB [pB b]=some (pB !b):=rfl
theorem tl_e0 (x:ByteArray):x.toList=e0.toList ↔ x=e0:=⟨mws.tl_injW,fun h=>by rw [h]⟩
theorem Zai:PV.v (Value.string ⟨⟨[]⟩⟩)=pS e0:=rfl
def RTb (ps qs:List PV):Prop:=∃ a:TellM,TOk a/\ps=tP a/\qs=if mayT a=true then [pI 0] else [pI 1]
theorem fTb:∀ ps q1 q2,RTb ps q1->RTb ps q2->q1=q2:=by
 rintro ps q1 q2 ⟨a,_,rfl,rfl⟩ ⟨b,_,h,rfl⟩
 rw [Zh4 h]
set_option maxHeartbeats 4000000 in
theorem Zvp (k0:Nat):ToldX 45 (ETb k0) [anyV] (spec RTb):=by
 refine Zgt (fun _ _=>none) _ (Zam Try.prog 45) Try.func45 (by kernel_rfl) shT (by kernel_rfl) ?_ ?_
 ·intro ps qs h
  obtain ⟨a,_,rfl,rfl⟩:=Zag h
  exact Za7 rfl
 intro C ps qs hF h a w hsh
 obtain ⟨A,ok,rfl,hqs⟩:=Zag h
 have hb:=ok.body
 clear h ok
 show wpL Try.prog flT _ a w
 rw [<- List.append_nil flT]
 obtain ⟨t1,t2,t3,t4,t5,t6,t7,t8,t9⟩:=A
 simp only [tP] at *
 by_cases c1:t2 < 1
 ·rw [show mayT ⟨t1,t2,t3,t4,t5,t6,t7,t8,t9⟩=false by (simp [mayT,numB];omega),if_neg (by simp)] at hqs
  refine Zad names_ok mixed_ok fil.noOrc_ok n1 hsh ?_ (fun qs a1 w1 hq h1=>⟨nofun,fun _=>.inr ⟨0,anyV,_,_,_,hqs,rfl,rfl,h1⟩⟩)
  simp [-Zac,Zab,Zaa,Base.ev,SX.ev,evs,Value.oneCell',tl_e0,hF,Zal,binPV,eqI_v,eqS_v,all9,not_v,e0_l,Zai,c1]
  all_goals first | omega | grind
 by_cases c2:3 < t2
 ·rw [show mayT ⟨t1,t2,t3,t4,t5,t6,t7,t8,t9⟩=false by (simp [mayT,numB];omega),if_neg (by simp)] at hqs
  refine Zad names_ok mixed_ok fil.noOrc_ok n2 hsh ?_ (fun qs a1 w1 hq h1=>⟨nofun,fun _=>.inr ⟨0,anyV,_,_,_,hqs,rfl,rfl,h1⟩⟩)
  simp [-Zac,Zab,Zaa,Base.ev,SX.ev,evs,Value.oneCell',tl_e0,hF,Zal,binPV,eqI_v,eqS_v,all9,not_v,e0_l,Zai,c1,c2]
  all_goals first | omega | grind
 by_cases c3:t3 < 0
 ·rw [show mayT ⟨t1,t2,t3,t4,t5,t6,t7,t8,t9⟩=false by (simp [mayT,numB];omega),if_neg (by simp)] at hqs
  refine Zad names_ok mixed_ok fil.noOrc_ok n3 hsh ?_ (fun qs a1 w1 hq h1=>⟨nofun,fun _=>.inr ⟨0,anyV,_,_,_,hqs,rfl,rfl,h1⟩⟩)
  simp [-Zac,Zab,Zaa,Base.ev,SX.ev,evs,Value.oneCell',tl_e0,hF,Zal,binPV,eqI_v,eqS_v,all9,not_v,e0_l,Zai,c1,c2,c3]
  all_goals first | omega | grind
 by_cases c4:1073741824 < t3
 ·rw [show mayT ⟨t1,t2,t3,t4,t5,t6,t7,t8,t9⟩=false by (simp [mayT,numB];omega),if_neg (by simp)] at hqs
  refine Zad names_ok mixed_ok fil.noOrc_ok n4 hsh ?_ (fun qs a1 w1 hq h1=>⟨nofun,fun _=>.inr ⟨0,anyV,_,_,_,hqs,rfl,rfl,h1⟩⟩)
  simp [-Zac,Zab,Zaa,Base.ev,SX.ev,evs,Value.oneCell',tl_e0,hF,Zal,binPV,eqI_v,eqS_v,all9,not_v,e0_l,Zai,c1,c2,c3,c4]
  all_goals first | omega | grind
 have mT:mayT ⟨t1,t2,t3,t4,t5,t6,t7,t8,t9⟩=(decide (1<=t1/\t1<=3) && (if t1=1 then numB t4 1 && decide (0<=t5/\t5<=7/\0<=t6/\t6<=6/\0<=t7/\t7<=2) && numB t8 0 && decide (t9.size<=24) else decide (t4=0/\t5=0/\t7=0/\t8=0/\t9=e0) && (if t1=2 then decide (1<=t6/\t6<=6) else decide (t6=0)))):=by
  rw [Bool.eq_iff_iff]
  simp only [mayT,numB,Bool.and_eq_true,decide_eq_true_eq]
  constructor
  ·rintro ⟨⟨h,_⟩,h2⟩;exact ⟨⟨h.1,h.2.1⟩,h2⟩
  ·rintro ⟨h,h2⟩;exact ⟨⟨⟨h.1,h.2,by omega,by omega⟩,by omega,by omega⟩,h2⟩
 by_cases k1:t1=1
 ·subst k1
  by_cases d0a:t4 < 1
  ·rw [show mayT ⟨1,t2,t3,t4,t5,t6,t7,t8,t9⟩=false by (rw [mT];simp [numB];omega),if_neg (by simp)] at hqs
   refine Zad names_ok mixed_ok fil.noOrc_ok d0l hsh ?_ (fun qs a1 w1 hq h1=>⟨nofun,fun _=>.inr ⟨0,anyV,_,_,_,hqs,rfl,rfl,h1⟩⟩)
   simp [-Zac,Zab,Zaa,Base.ev,SX.ev,evs,Value.oneCell',tl_e0,hF,Zal,binPV,eqI_v,eqS_v,all9,not_v,e0_l,Zai,c1,c2,c3,c4,d0a]
   all_goals first | omega | grind
  by_cases d0b:1073741824 < t4
  ·rw [show mayT ⟨1,t2,t3,t4,t5,t6,t7,t8,t9⟩=false by (rw [mT];simp [numB];omega),if_neg (by simp)] at hqs
   refine Zad names_ok mixed_ok fil.noOrc_ok d0u hsh ?_ (fun qs a1 w1 hq h1=>⟨nofun,fun _=>.inr ⟨0,anyV,_,_,_,hqs,rfl,rfl,h1⟩⟩)
   simp [-Zac,Zab,Zaa,Base.ev,SX.ev,evs,Value.oneCell',tl_e0,hF,Zal,binPV,eqI_v,eqS_v,all9,not_v,e0_l,Zai,c1,c2,c3,c4,d0a,d0b]
   all_goals first | omega | grind
  by_cases d1a:t5 < 0
  ·rw [show mayT ⟨1,t2,t3,t4,t5,t6,t7,t8,t9⟩=false by (rw [mT];simp [numB];omega),if_neg (by simp)] at hqs
   refine Zad names_ok mixed_ok fil.noOrc_ok d1l hsh ?_ (fun qs a1 w1 hq h1=>⟨nofun,fun _=>.inr ⟨0,anyV,_,_,_,hqs,rfl,rfl,h1⟩⟩)
   simp [-Zac,Zab,Zaa,Base.ev,SX.ev,evs,Value.oneCell',tl_e0,hF,Zal,binPV,eqI_v,eqS_v,all9,not_v,e0_l,Zai,c1,c2,c3,c4,d0a,d0b,d1a]
   all_goals first | omega | grind
  by_cases d1b:7 < t5
  ·rw [show mayT ⟨1,t2,t3,t4,t5,t6,t7,t8,t9⟩=false by (rw [mT];simp [numB];omega),if_neg (by simp)] at hqs
   refine Zad names_ok mixed_ok fil.noOrc_ok d1u hsh ?_ (fun qs a1 w1 hq h1=>⟨nofun,fun _=>.inr ⟨0,anyV,_,_,_,hqs,rfl,rfl,h1⟩⟩)
   simp [-Zac,Zab,Zaa,Base.ev,SX.ev,evs,Value.oneCell',tl_e0,hF,Zal,binPV,eqI_v,eqS_v,all9,not_v,e0_l,Zai,c1,c2,c3,c4,d0a,d0b,d1a,d1b]
   all_goals first | omega | grind
  by_cases d2a:t6 < 0
  ·rw [show mayT ⟨1,t2,t3,t4,t5,t6,t7,t8,t9⟩=false by (rw [mT];simp [numB];omega),if_neg (by simp)] at hqs
   refine Zad names_ok mixed_ok fil.noOrc_ok d2l hsh ?_ (fun qs a1 w1 hq h1=>⟨nofun,fun _=>.inr ⟨0,anyV,_,_,_,hqs,rfl,rfl,h1⟩⟩)
   simp [-Zac,Zab,Zaa,Base.ev,SX.ev,evs,Value.oneCell',tl_e0,hF,Zal,binPV,eqI_v,eqS_v,all9,not_v,e0_l,Zai,c1,c2,c3,c4,d0a,d0b,d1a,d1b,d2a]
   all_goals first | omega | grind
  by_cases d2b:6 < t6
  ·rw [show mayT ⟨1,t2,t3,t4,t5,t6,t7,t8,t9⟩=false by (rw [mT];simp [numB];omega),if_neg (by simp)] at hqs
   refine Zad names_ok mixed_ok fil.noOrc_ok d2u hsh ?_ (fun qs a1 w1 hq h1=>⟨nofun,fun _=>.inr ⟨0,anyV,_,_,_,hqs,rfl,rfl,h1⟩⟩)
   simp [-Zac,Zab,Zaa,Base.ev,SX.ev,evs,Value.oneCell',tl_e0,hF,Zal,binPV,eqI_v,eqS_v,all9,not_v,e0_l,Zai,c1,c2,c3,c4,d0a,d0b,d1a,d1b,d2a,d2b]
   all_goals first | omega | grind
  by_cases d3a:t7 < 0
  ·rw [show mayT ⟨1,t2,t3,t4,t5,t6,t7,t8,t9⟩=false by (rw [mT];simp [numB];omega),if_neg (by simp)] at hqs
   refine Zad names_ok mixed_ok fil.noOrc_ok d3l hsh ?_ (fun qs a1 w1 hq h1=>⟨nofun,fun _=>.inr ⟨0,anyV,_,_,_,hqs,rfl,rfl,h1⟩⟩)
   simp [-Zac,Zab,Zaa,Base.ev,SX.ev,evs,Value.oneCell',tl_e0,hF,Zal,binPV,eqI_v,eqS_v,all9,not_v,e0_l,Zai,c1,c2,c3,c4,d0a,d0b,d1a,d1b,d2a,d2b,d3a]
   all_goals first | omega | grind
  by_cases d3b:2 < t7
  ·rw [show mayT ⟨1,t2,t3,t4,t5,t6,t7,t8,t9⟩=false by (rw [mT];simp [numB];omega),if_neg (by simp)] at hqs
   refine Zad names_ok mixed_ok fil.noOrc_ok d3u hsh ?_ (fun qs a1 w1 hq h1=>⟨nofun,fun _=>.inr ⟨0,anyV,_,_,_,hqs,rfl,rfl,h1⟩⟩)
   simp [-Zac,Zab,Zaa,Base.ev,SX.ev,evs,Value.oneCell',tl_e0,hF,Zal,binPV,eqI_v,eqS_v,all9,not_v,e0_l,Zai,c1,c2,c3,c4,d0a,d0b,d1a,d1b,d2a,d2b,d3a,d3b]
   all_goals first | omega | grind
  by_cases d4a:t8 < 0
  ·rw [show mayT ⟨1,t2,t3,t4,t5,t6,t7,t8,t9⟩=false by (rw [mT];simp [numB];omega),if_neg (by simp)] at hqs
   refine Zad names_ok mixed_ok fil.noOrc_ok d4l hsh ?_ (fun qs a1 w1 hq h1=>⟨nofun,fun _=>.inr ⟨0,anyV,_,_,_,hqs,rfl,rfl,h1⟩⟩)
   simp [-Zac,Zab,Zaa,Base.ev,SX.ev,evs,Value.oneCell',tl_e0,hF,Zal,binPV,eqI_v,eqS_v,all9,not_v,e0_l,Zai,c1,c2,c3,c4,d0a,d0b,d1a,d1b,d2a,d2b,d3a,d3b,d4a]
   all_goals first | omega | grind
  by_cases d4b:1073741824 < t8
  ·rw [show mayT ⟨1,t2,t3,t4,t5,t6,t7,t8,t9⟩=false by (rw [mT];simp [numB];omega),if_neg (by simp)] at hqs
   refine Zad names_ok mixed_ok fil.noOrc_ok d4u hsh ?_ (fun qs a1 w1 hq h1=>⟨nofun,fun _=>.inr ⟨0,anyV,_,_,_,hqs,rfl,rfl,h1⟩⟩)
   simp [-Zac,Zab,Zaa,Base.ev,SX.ev,evs,Value.oneCell',tl_e0,hF,Zal,binPV,eqI_v,eqS_v,all9,not_v,e0_l,Zai,c1,c2,c3,c4,d0a,d0b,d1a,d1b,d2a,d2b,d3a,d3b,d4a,d4b]
   all_goals first | omega | grind
  have e5:¬ (t9.size:Int) < 0:=by omega
  by_cases d5:(24:Int) < (t9.size:Int)
  ·rw [show mayT ⟨1,t2,t3,t4,t5,t6,t7,t8,t9⟩=false by (rw [mT];simp [numB];omega),if_neg (by simp)] at hqs
   refine Zad names_ok mixed_ok fil.noOrc_ok d5u hsh ?_ (fun qs a1 w1 hq h1=>⟨nofun,fun _=>.inr ⟨0,anyV,_,_,_,hqs,rfl,rfl,h1⟩⟩)
   simp [-Zac,Zab,Zaa,Base.ev,SX.ev,evs,Value.oneCell',tl_e0,hF,Zal,binPV,eqI_v,eqS_v,all9,not_v,e0_l,Zai,c1,c2,c3,c4,d0a,d0b,d1a,d1b,d2a,d2b,d3a,d3b,d4a,d4b,e5,d5]
   all_goals first | omega | grind
  ·rw [show mayT ⟨1,t2,t3,t4,t5,t6,t7,t8,t9⟩=true by (rw [mT];simp [numB];omega),if_pos rfl] at hqs
   refine Zad names_ok mixed_ok fil.noOrc_ok dy hsh ?_ (fun qs a1 w1 hq h1=>⟨fun _=>.inl ⟨_,hqs,.inl rfl,shT0,_,[],h1,by kernel_rfl,rfl⟩,fun h=>absurd rfl h⟩)
   simp [-Zac,Zab,Zaa,Base.ev,SX.ev,evs,Value.oneCell',tl_e0,hF,Zal,binPV,eqI_v,eqS_v,all9,not_v,e0_l,Zai,c1,c2,c3,c4,d0a,d0b,d1a,d1b,d2a,d2b,d3a,d3b,d4a,d4b,e5,d5]
   all_goals first | omega | grind
 by_cases k2:t1=2
 ·subst k2
  by_cases i1:t6 < 1
  ·rw [show mayT ⟨2,t2,t3,t4,t5,t6,t7,t8,t9⟩=false by (rw [mT];simp;omega),if_neg (by simp)] at hqs
   refine Zad names_ok mixed_ok fil.noOrc_ok r1 hsh ?_ (fun qs a1 w1 hq h1=>⟨nofun,fun _=>.inr ⟨0,anyV,_,_,_,hqs,rfl,rfl,h1⟩⟩)
   simp [-Zac,Zab,Zaa,Base.ev,SX.ev,evs,Value.oneCell',tl_e0,hF,Zal,binPV,eqI_v,eqS_v,all9,not_v,e0_l,Zai,c1,c2,c3,c4,k1,i1]
   all_goals first | omega | grind
  by_cases i2:6 < t6
  ·rw [show mayT ⟨2,t2,t3,t4,t5,t6,t7,t8,t9⟩=false by (rw [mT];simp;omega),if_neg (by simp)] at hqs
   refine Zad names_ok mixed_ok fil.noOrc_ok r2 hsh ?_ (fun qs a1 w1 hq h1=>⟨nofun,fun _=>.inr ⟨0,anyV,_,_,_,hqs,rfl,rfl,h1⟩⟩)
   simp [-Zac,Zab,Zaa,Base.ev,SX.ev,evs,Value.oneCell',tl_e0,hF,Zal,binPV,eqI_v,eqS_v,all9,not_v,e0_l,Zai,c1,c2,c3,c4,k1,i1,i2]
   all_goals first | omega | grind
  by_cases q:t4=0/\t5=0/\t7=0/\t8=0/\t9=e0
  ·rw [show mayT ⟨2,t2,t3,t4,t5,t6,t7,t8,t9⟩=true by (rw [mT];simp [q];omega),if_pos rfl] at hqs
   refine Zad names_ok mixed_ok fil.noOrc_ok ry hsh ?_ (fun qs a1 w1 hq h1=>⟨fun _=>.inl ⟨_,hqs,.inl rfl,shT0,_,[],h1,by kernel_rfl,rfl⟩,fun h=>absurd rfl h⟩)
   simp [-Zac,Zab,Zaa,Base.ev,SX.ev,evs,Value.oneCell',tl_e0,hF,Zal,binPV,eqI_v,eqS_v,all9,not_v,e0_l,Zai,c1,c2,c3,c4,k1,i1,i2,q]
   all_goals first | omega | grind
  ·rw [show mayT ⟨2,t2,t3,t4,t5,t6,t7,t8,t9⟩=false by (rw [mT,decide_eq_false q];simp),if_neg (by simp)] at hqs
   refine Zad names_ok mixed_ok fil.noOrc_ok rd hsh ?_ (fun qs a1 w1 hq h1=>⟨nofun,fun _=>.inr ⟨0,anyV,_,_,_,hqs,rfl,rfl,h1⟩⟩)
   simp [-Zac,Zab,Zaa,Base.ev,SX.ev,evs,Value.oneCell',tl_e0,hF,Zal,binPV,eqI_v,eqS_v,all9,not_v,e0_l,Zai,c1,c2,c3,c4,k1,i1,i2,q]
   all_goals first | omega | grind
 by_cases k3:t1=3
 ·subst k3
  by_cases q:t4=0/\t5=0/\t7=0/\t8=0/\t9=e0/\t6=0
  ·rw [show mayT ⟨3,t2,t3,t4,t5,t6,t7,t8,t9⟩=true by (rw [mT];simp [q]),if_pos rfl] at hqs
   refine Zad names_ok mixed_ok fil.noOrc_ok ey hsh ?_ (fun qs a1 w1 hq h1=>⟨fun _=>.inl ⟨_,hqs,.inl rfl,shT0,_,[],h1,by kernel_rfl,rfl⟩,fun h=>absurd rfl h⟩)
   simp [-Zac,Zab,Zaa,Base.ev,SX.ev,evs,Value.oneCell',tl_e0,hF,Zal,binPV,eqI_v,eqS_v,all9,not_v,e0_l,Zai,c1,c2,c3,c4,k1,k2,q]
   all_goals first | omega | grind
  ·rw [show mayT ⟨3,t2,t3,t4,t5,t6,t7,t8,t9⟩=false by (rw [mT];simp;exact fun a b c d e f=>q ⟨a,b,c,d,e,f⟩),if_neg (by simp)] at hqs
   refine Zad names_ok mixed_ok fil.noOrc_ok ed hsh ?_ (fun qs a1 w1 hq h1=>⟨nofun,fun _=>.inr ⟨0,anyV,_,_,_,hqs,rfl,rfl,h1⟩⟩)
   simp [-Zac,Zab,Zaa,Base.ev,SX.ev,evs,Value.oneCell',tl_e0,hF,Zal,binPV,eqI_v,eqS_v,all9,not_v,e0_l,Zai,c1,c2,c3,c4,k1,k2,q]
   all_goals first | omega | grind
 rw [show mayT ⟨t1,t2,t3,t4,t5,t6,t7,t8,t9⟩=false by (rw [mT];simp;omega),if_neg (by simp)] at hqs
 refine Zad names_ok mixed_ok fil.noOrc_ok nk hsh ?_ (fun qs a1 w1 hq h1=>⟨nofun,fun _=>.inr ⟨0,anyV,_,_,_,hqs,rfl,rfl,h1⟩⟩)
 simp [-Zac,Zab,Zaa,Base.ev,SX.ev,evs,Value.oneCell',tl_e0,hF,Zal,binPV,eqI_v,eqS_v,all9,not_v,e0_l,Zai,c1,c2,c3,c4,k1,k2,k3]
 all_goals first | omega | grind
end Go.Proofs.Ytnomiffghidmbaa.mmt
