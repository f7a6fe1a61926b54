/- Package msg's mustBeAsk, told: it panics where nothing may be asked so. -/
import Derived.Test.YtnomiffghidmbaaMmw
namespace Go.Proofs.Ytnomiffghidmbaa.mma
open Go Go.RowKit eng SX Fact fil ima msm
open fileFronts (Zac)
open mws (ESa RSa fSa aP Zej)
open meq (toldSe)
open mas (AOk Zvu Zai nilW)
open mmw (EMw RMw fMw toldMw toldDm okWs)
open dirs (EName RName fName)
set_option linter.unusedVariables false
set_option linter.unusedSimpArgs false
set_option maxRecDepth 1000000
def EMb (k:Nat):FnE:={ k:=k,ins:=[some 8],leaks:=[false,false,false,false,false,false,false,false],outs:=[],kinds:=[] }
def tabA (f:FuncId):Option FnE:=cond (Nat.beq f 74) (some (EName 2)) (cond (Nat.beq f 17) (some (ESa 3)) none)
def tabAX (f:FuncId):Option (FnE × List Value):=cond (Nat.beq f 60) (some (EMw 5,[anyV])) none
def orcA:Orc:=orcOr (orcFn tabA) (orcX tabAX)
noncomputable def flA:=flat (Zam Try.prog 32)
def shA:Shape:=⟨[(0,.agg 8)],[],[none,none,none,none,none,none,none,some false],87,32⟩
def shA0:Shape:=⟨[],[],[],87,32⟩
@[simp] def zMma1:SX:=.con (.int .i64 1)
@[simp] def zMma2:SX:=.bin .gtr (.var 2) (.con (.int .i64 1073741824))
@[simp] def zMma3:SX:=.bin .gtr (.var 3) (.con (.int .i64 1073741824))
@[simp] def zMma4:SX:=.bin .gtr (.var 1) (.con (.int .i64 3))
@[simp] def zMma5:SX:=.bin .lss (.var 2) (.con (.int .i64 0))
@[simp] def zMma6:SX:=.bin .eql (.var 0) (.con (.int .i64 2))
@[simp] def zMma7:List SX:=[.var 0,.var 1,.var 2,.var 3,.var 4,.var 5,.var 6,.var 7,.var 0,.var 1,.var 2,.var 3,.con (.string { data:={ toList:=[] } }),.var 5,.con (.int .i64 0),.var 7]
@[simp] def zMma8:SX:=.bin .lss (.var 1) zMma1
@[simp] def zMma9:SX:=.bin .gtr (.var 5) (.con (.int .i64 6))
@[simp] def Zvh:SX:=.bin .eql (.var 0) (.con (.int .i64 3))
@[simp] def Zvg:SX:=.bin .lss (.var 3) zMma1
@[simp] def Zq7:SX:=.bin .eql (.var 0) zMma1
@[simp] def Zvf:SX:=.bin .lss (.var 5) zMma1
@[simp] def Zhm:SX:=.bin .eql (.var 0) (.con (.int .i64 4))
@[simp] def Ztm:List SX:=[.var 0,.var 1,.var 2,.var 3,.var 4,.var 5,.var 6,.var 7,.var 0,.var 1,.var 2,.var 3,.con (.string { data:={ toList:=[] } }),.var 5,.con (.int .i64 0),.lit 0 []]
@[simp] def Ztl:List SX:=[.var 0,.var 1,.var 2,.var 3,.var 4,.var 5,.var 6,.var 7,.var 0,.var 1,.var 2,.var 3,.con (.string { data:={ toList:=[] } }),.var 5,.var 6,.lit 0 []]
@[simp] def Zbz:Fact:=.is zMma8 (.bool false)
@[simp] def Zb4:Fact:=.is zMma4 (.bool false)
@[simp] def Ztk:List SX:=[.var 0,.var 1,.var 2,.var 3,.var 4,.var 5,.var 6,.var 7,.var 0,.var 1,.var 2,.var 3,.var 4,.con (.int .i64 0),.con (.int .i64 0),.lit 0 []]
@[simp] def Zb6:Fact:=.is zMma5 (.bool false)
@[simp] def Zcg:Fact:=.is Zvg (.bool false)
@[simp] def Zb9:Fact:=.is zMma2 (.bool false)
@[simp] def Zcl:Fact:=.is zMma3 (.bool false)
@[simp] def Zdf:Fact:=.is Zq7 (.bool false)
@[simp] def Znf:SX:=.bin .eql (.var 0) (.con (.int .i64 5))
@[simp] def Zfh:Fact:=.is Zvf (.bool false)
@[simp] def Zfr:Fact:=.is zMma6 (.bool false)
@[simp] def Zhl:Fact:=.is zMma9 (.bool false)
@[simp] def Zot:SX:=.bin .gtr (.var 6) (.con (.int .i64 2))
@[simp] def Zjb:Fact:=.is Zvh (.bool false)
@[simp] def Zve:Fact:=Fact.fx 60 (EMw 5) [.tuple { toList:=[] }] [.var 7,.con (.int .i64 0)]
@[simp] def Zmh:SX:=.bin .lss (.var 6) zMma1
@[simp] def Zvd:Fact:=Fact.fx 60 (EMw 5) [.tuple { toList:=[] }] [.var 7,zMma1]
@[simp] def Zb8:Fact:=.ok Zvg
@[simp] def Zck:Fact:=.ok Zq7
@[simp] def Zbu:Fact:=.ok zMma8
@[simp] def Zby:Fact:=.ok zMma4
@[simp] def Zb3:Fact:=.ok zMma5
@[simp] def Zos:Fact:=.is zMma6 (.bool true)
@[simp] def Zb5:Fact:=.ok zMma2
@[simp] def Zdu:Fact:=.ok Zvf
@[simp] def Zcf:Fact:=.ok zMma3
@[simp] def Zq6:Fact:=.is Zhm (.bool false)
@[simp] def Zq5:Fact:=.is Zvh (.bool true)
@[simp] def Zq4:Fact:=.is Zhm (.bool true)
@[simp] def Zde:Fact:=.ok zMma6
@[simp] def Zvc:SX:=.fn 5 [.var 7,.con (.int .i64 0)] 0
@[simp] def Zfq:Fact:=.ok Zvh
@[simp] def Ztj:Fact:=.is Zvf (.bool true)
@[simp] def Zti:Fact:=.is Znf (.bool true)
@[simp] def Zth:Fact:=.is zMma9 (.bool true)
theorem n1:segTo Try.prog orcA 10000 flA shA [1] shA0 []=some (.panic (.iface 9 (.string { data:={ toList:=[UInt8.ofNat 109,UInt8.ofNat 115,UInt8.ofNat 103,UInt8.ofNat 58,UInt8.ofNat 32,UInt8.ofNat 97,UInt8.ofNat 32,UInt8.ofNat 110,UInt8.ofNat 117,UInt8.ofNat 109,UInt8.ofNat 98,UInt8.ofNat 101,UInt8.ofNat 114,UInt8.ofNat 32,UInt8.ofNat 116,UInt8.ofNat 104,UInt8.ofNat 97,UInt8.ofNat 116,UInt8.ofNat 32,UInt8.ofNat 109,UInt8.ofNat 97,UInt8.ofNat 121,UInt8.ofNat 32,UInt8.ofNat 110,UInt8.ofNat 111,UInt8.ofNat 116,UInt8.ofNat 32,UInt8.ofNat 98,UInt8.ofNat 101] } })),[Zbu,.is zMma8 (.bool true)],[]):=by kernel_rfl
theorem n2:segTo Try.prog orcA 10000 flA shA [0,1] shA0 []=some (.panic (.iface 9 (.string { data:={ toList:=[UInt8.ofNat 109,UInt8.ofNat 115,UInt8.ofNat 103,UInt8.ofNat 58,UInt8.ofNat 32,UInt8.ofNat 97,UInt8.ofNat 32,UInt8.ofNat 110,UInt8.ofNat 117,UInt8.ofNat 109,UInt8.ofNat 98,UInt8.ofNat 101,UInt8.ofNat 114,UInt8.ofNat 32,UInt8.ofNat 116,UInt8.ofNat 104,UInt8.ofNat 97,UInt8.ofNat 116,UInt8.ofNat 32,UInt8.ofNat 109,UInt8.ofNat 97,UInt8.ofNat 121,UInt8.ofNat 32,UInt8.ofNat 110,UInt8.ofNat 111,UInt8.ofNat 116,UInt8.ofNat 32,UInt8.ofNat 98,UInt8.ofNat 101] } })),[Zbu,Zbz,Zby,.is zMma4 (.bool true)],[]):=by kernel_rfl
theorem n3:segTo Try.prog orcA 10000 flA shA [0,0,1] shA0 []=some (.panic (.iface 9 (.string { data:={ toList:=[UInt8.ofNat 109,UInt8.ofNat 115,UInt8.ofNat 103,UInt8.ofNat 58,UInt8.ofNat 32,UInt8.ofNat 97,UInt8.ofNat 32,UInt8.ofNat 110,UInt8.ofNat 117,UInt8.ofNat 109,UInt8.ofNat 98,UInt8.ofNat 101,UInt8.ofNat 114,UInt8.ofNat 32,UInt8.ofNat 116,UInt8.ofNat 104,UInt8.ofNat 97,UInt8.ofNat 116,UInt8.ofNat 32,UInt8.ofNat 109,UInt8.ofNat 97,UInt8.ofNat 121,UInt8.ofNat 32,UInt8.ofNat 110,UInt8.ofNat 111,UInt8.ofNat 116,UInt8.ofNat 32,UInt8.ofNat 98,UInt8.ofNat 101] } })),[Zbu,Zbz,Zby,Zb4,Zb3,.is zMma5 (.bool true)],[]):=by kernel_rfl
theorem n4:segTo Try.prog orcA 10000 flA shA [0,0,0,1] shA0 []=some (.panic (.iface 9 (.string { data:={ toList:=[UInt8.ofNat 109,UInt8.ofNat 115,UInt8.ofNat 103,UInt8.ofNat 58,UInt8.ofNat 32,UInt8.ofNat 97,UInt8.ofNat 32,UInt8.ofNat 110,UInt8.ofNat 117,UInt8.ofNat 109,UInt8.ofNat 98,UInt8.ofNat 101,UInt8.ofNat 114,UInt8.ofNat 32,UInt8.ofNat 116,UInt8.ofNat 104,UInt8.ofNat 97,UInt8.ofNat 116,UInt8.ofNat 32,UInt8.ofNat 109,UInt8.ofNat 97,UInt8.ofNat 121,UInt8.ofNat 32,UInt8.ofNat 110,UInt8.ofNat 111,UInt8.ofNat 116,UInt8.ofNat 32,UInt8.ofNat 98,UInt8.ofNat 101] } })),[Zbu,Zbz,Zby,Zb4,Zb3,Zb6,Zb5,.is zMma2 (.bool true)],[]):=by kernel_rfl
theorem n5:segTo Try.prog orcA 10000 flA shA [0,0,0,0,1] shA0 []=some (.panic (.iface 9 (.string { data:={ toList:=[UInt8.ofNat 109,UInt8.ofNat 115,UInt8.ofNat 103,UInt8.ofNat 58,UInt8.ofNat 32,UInt8.ofNat 97,UInt8.ofNat 32,UInt8.ofNat 110,UInt8.ofNat 117,UInt8.ofNat 109,UInt8.ofNat 98,UInt8.ofNat 101,UInt8.ofNat 114,UInt8.ofNat 32,UInt8.ofNat 116,UInt8.ofNat 104,UInt8.ofNat 97,UInt8.ofNat 116,UInt8.ofNat 32,UInt8.ofNat 109,UInt8.ofNat 97,UInt8.ofNat 121,UInt8.ofNat 32,UInt8.ofNat 110,UInt8.ofNat 111,UInt8.ofNat 116,UInt8.ofNat 32,UInt8.ofNat 98,UInt8.ofNat 101] } })),[Zbu,Zbz,Zby,Zb4,Zb3,Zb6,Zb5,Zb9,Zb8,.is Zvg (.bool true)],[]):=by kernel_rfl
theorem n6:segTo Try.prog orcA 10000 flA shA [0,0,0,0,0,1] shA0 []=some (.panic (.iface 9 (.string { data:={ toList:=[UInt8.ofNat 109,UInt8.ofNat 115,UInt8.ofNat 103,UInt8.ofNat 58,UInt8.ofNat 32,UInt8.ofNat 97,UInt8.ofNat 32,UInt8.ofNat 110,UInt8.ofNat 117,UInt8.ofNat 109,UInt8.ofNat 98,UInt8.ofNat 101,UInt8.ofNat 114,UInt8.ofNat 32,UInt8.ofNat 116,UInt8.ofNat 104,UInt8.ofNat 97,UInt8.ofNat 116,UInt8.ofNat 32,UInt8.ofNat 109,UInt8.ofNat 97,UInt8.ofNat 121,UInt8.ofNat 32,UInt8.ofNat 110,UInt8.ofNat 111,UInt8.ofNat 116,UInt8.ofNat 32,UInt8.ofNat 98,UInt8.ofNat 101] } })),[Zbu,Zbz,Zby,Zb4,Zb3,Zb6,Zb5,Zb9,Zb8,Zcg,Zcf,.is zMma3 (.bool true)],[]):=by kernel_rfl
theorem a1n:segTo Try.prog orcA 10000 flA shA [0,0,0,0,0,0,1,0] shA0 []=some (.panic (.iface 9 (.string { data:={ toList:=[UInt8.ofNat 109,UInt8.ofNat 115,UInt8.ofNat 103,UInt8.ofNat 58,UInt8.ofNat 32,UInt8.ofNat 97,UInt8.ofNat 32,UInt8.ofNat 110,UInt8.ofNat 97,UInt8.ofNat 109,UInt8.ofNat 101,UInt8.ofNat 32,UInt8.ofNat 116,UInt8.ofNat 104,UInt8.ofNat 97,UInt8.ofNat 116,UInt8.ofNat 32,UInt8.ofNat 109,UInt8.ofNat 97,UInt8.ofNat 121,UInt8.ofNat 32,UInt8.ofNat 110,UInt8.ofNat 111,UInt8.ofNat 116,UInt8.ofNat 32,UInt8.ofNat 98,UInt8.ofNat 101] } })),[Zbu,Zbz,Zby,Zb4,Zb3,Zb6,Zb5,Zb9,Zb8,Zcg,Zcf,Zcl,Zck,.is Zq7 (.bool true),.fn 74 (EName 2) [.var 4],.is (.fn 2 [.var 4] 0) (.bool false)],[]):=by kernel_rfl
theorem a1y:segTo Try.prog orcA 10000 flA shA [0,0,0,0,0,0,1,1,1] shA0 []=some (.normal,[Zbu,Zbz,Zby,Zb4,Zb3,Zb6,Zb5,Zb9,Zb8,Zcg,Zcf,Zcl,Zck,.is Zq7 (.bool true),.fn 74 (EName 2) [.var 4],.is (.fn 2 [.var 4] 0) (.bool true),.fn 17 (ESa 3) Ztk,.is (.fn 3 Ztk 0) (.bool true)],[]):=by kernel_rfl
theorem a1d:segTo Try.prog orcA 10000 flA shA [0,0,0,0,0,0,1,1,0] shA0 []=some (.panic (.iface 9 (.string { data:={ toList:=[UInt8.ofNat 109,UInt8.ofNat 115,UInt8.ofNat 103,UInt8.ofNat 58,UInt8.ofNat 32,UInt8.ofNat 116,UInt8.ofNat 104,UInt8.ofNat 101,UInt8.ofNat 114,UInt8.ofNat 101,UInt8.ofNat 32,UInt8.ofNat 105,UInt8.ofNat 115,UInt8.ofNat 32,UInt8.ofNat 109,UInt8.ofNat 111,UInt8.ofNat 114,UInt8.ofNat 101,UInt8.ofNat 32,UInt8.ofNat 105,UInt8.ofNat 110,UInt8.ofNat 32,UInt8.ofNat 105,UInt8.ofNat 116,UInt8.ofNat 32,UInt8.ofNat 116,UInt8.ofNat 104,UInt8.ofNat 97,UInt8.ofNat 110,UInt8.ofNat 32,UInt8.ofNat 105,UInt8.ofNat 115,UInt8.ofNat 32,UInt8.ofNat 97,UInt8.ofNat 115,UInt8.ofNat 107,UInt8.ofNat 101,UInt8.ofNat 100,UInt8.ofNat 32,UInt8.ofNat 105,UInt8.ofNat 110,UInt8.ofNat 32,UInt8.ofNat 105,UInt8.ofNat 116,UInt8.ofNat 115,UInt8.ofNat 32,UInt8.ofNat 107,UInt8.ofNat 105,UInt8.ofNat 110,UInt8.ofNat 100] } })),[Zbu,Zbz,Zby,Zb4,Zb3,Zb6,Zb5,Zb9,Zb8,Zcg,Zcf,Zcl,Zck,.is Zq7 (.bool true),.fn 74 (EName 2) [.var 4],.is (.fn 2 [.var 4] 0) (.bool true),.fn 17 (ESa 3) Ztk,.is (.fn 3 Ztk 0) (.bool false)],[]):=by kernel_rfl
theorem a2i:segTo Try.prog orcA 10000 flA shA [0,0,0,0,0,0,0,1,1] shA0 []=some (.panic (.iface 9 (.string { data:={ toList:=[UInt8.ofNat 109,UInt8.ofNat 115,UInt8.ofNat 103,UInt8.ofNat 58,UInt8.ofNat 32,UInt8.ofNat 97,UInt8.ofNat 32,UInt8.ofNat 110,UInt8.ofNat 117,UInt8.ofNat 109,UInt8.ofNat 98,UInt8.ofNat 101,UInt8.ofNat 114,UInt8.ofNat 32,UInt8.ofNat 116,UInt8.ofNat 104,UInt8.ofNat 97,UInt8.ofNat 116,UInt8.ofNat 32,UInt8.ofNat 109,UInt8.ofNat 97,UInt8.ofNat 121,UInt8.ofNat 32,UInt8.ofNat 110,UInt8.ofNat 111,UInt8.ofNat 116,UInt8.ofNat 32,UInt8.ofNat 98,UInt8.ofNat 101] } })),[Zbu,Zbz,Zby,Zb4,Zb3,Zb6,Zb5,Zb9,Zb8,Zcg,Zcf,Zcl,Zck,Zdf,Zde,Zos,Zdu,Ztj],[]):=by kernel_rfl
theorem a2j:segTo Try.prog orcA 10000 flA shA [0,0,0,0,0,0,0,1,0,1] shA0 []=some (.panic (.iface 9 (.string { data:={ toList:=[UInt8.ofNat 109,UInt8.ofNat 115,UInt8.ofNat 103,UInt8.ofNat 58,UInt8.ofNat 32,UInt8.ofNat 97,UInt8.ofNat 32,UInt8.ofNat 110,UInt8.ofNat 117,UInt8.ofNat 109,UInt8.ofNat 98,UInt8.ofNat 101,UInt8.ofNat 114,UInt8.ofNat 32,UInt8.ofNat 116,UInt8.ofNat 104,UInt8.ofNat 97,UInt8.ofNat 116,UInt8.ofNat 32,UInt8.ofNat 109,UInt8.ofNat 97,UInt8.ofNat 121,UInt8.ofNat 32,UInt8.ofNat 110,UInt8.ofNat 111,UInt8.ofNat 116,UInt8.ofNat 32,UInt8.ofNat 98,UInt8.ofNat 101] } })),[Zbu,Zbz,Zby,Zb4,Zb3,Zb6,Zb5,Zb9,Zb8,Zcg,Zcf,Zcl,Zck,Zdf,Zde,Zos,Zdu,Zfh,.ok zMma9,Zth],[]):=by kernel_rfl
theorem a2m:segTo Try.prog orcA 10000 flA shA [0,0,0,0,0,0,0,1,0,0,1] shA0 []=some (.panic (.iface 9 (.string { data:={ toList:=[UInt8.ofNat 109,UInt8.ofNat 115,UInt8.ofNat 103,UInt8.ofNat 58,UInt8.ofNat 32,UInt8.ofNat 97,UInt8.ofNat 32,UInt8.ofNat 110,UInt8.ofNat 117,UInt8.ofNat 109,UInt8.ofNat 98,UInt8.ofNat 101,UInt8.ofNat 114,UInt8.ofNat 32,UInt8.ofNat 116,UInt8.ofNat 104,UInt8.ofNat 97,UInt8.ofNat 116,UInt8.ofNat 32,UInt8.ofNat 109,UInt8.ofNat 97,UInt8.ofNat 121,UInt8.ofNat 32,UInt8.ofNat 110,UInt8.ofNat 111,UInt8.ofNat 116,UInt8.ofNat 32,UInt8.ofNat 98,UInt8.ofNat 101] } })),[Zbu,Zbz,Zby,Zb4,Zb3,Zb6,Zb5,Zb9,Zb8,Zcg,Zcf,Zcl,Zck,Zdf,Zde,Zos,Zdu,Zfh,.ok zMma9,Zhl,.ok Zmh,.is Zmh (.bool true)],[]):=by kernel_rfl
theorem a2o:segTo Try.prog orcA 10000 flA shA [0,0,0,0,0,0,0,1,0,0,0,1] shA0 []=some (.panic (.iface 9 (.string { data:={ toList:=[UInt8.ofNat 109,UInt8.ofNat 115,UInt8.ofNat 103,UInt8.ofNat 58,UInt8.ofNat 32,UInt8.ofNat 97,UInt8.ofNat 32,UInt8.ofNat 110,UInt8.ofNat 117,UInt8.ofNat 109,UInt8.ofNat 98,UInt8.ofNat 101,UInt8.ofNat 114,UInt8.ofNat 32,UInt8.ofNat 116,UInt8.ofNat 104,UInt8.ofNat 97,UInt8.ofNat 116,UInt8.ofNat 32,UInt8.ofNat 109,UInt8.ofNat 97,UInt8.ofNat 121,UInt8.ofNat 32,UInt8.ofNat 110,UInt8.ofNat 111,UInt8.ofNat 116,UInt8.ofNat 32,UInt8.ofNat 98,UInt8.ofNat 101] } })),[Zbu,Zbz,Zby,Zb4,Zb3,Zb6,Zb5,Zb9,Zb8,Zcg,Zcf,Zcl,Zck,Zdf,Zde,Zos,Zdu,Zfh,.ok zMma9,Zhl,.ok Zmh,.is Zmh (.bool false),.ok Zot,.is Zot (.bool true)],[]):=by kernel_rfl
theorem a2y:segTo Try.prog orcA 10000 flA shA [0,0,0,0,0,0,0,1,0,0,0,0,1] shA0 []=some (.normal,[Zbu,Zbz,Zby,Zb4,Zb3,Zb6,Zb5,Zb9,Zb8,Zcg,Zcf,Zcl,Zck,Zdf,Zde,Zos,Zdu,Zfh,.ok zMma9,Zhl,.ok Zmh,.is Zmh (.bool false),.ok Zot,.is Zot (.bool false),.fn 17 (ESa 3) Ztl,.is (.fn 3 Ztl 0) (.bool true)],[]):=by kernel_rfl
theorem a2d:segTo Try.prog orcA 10000 flA shA [0,0,0,0,0,0,0,1,0,0,0,0,0] shA0 []=some (.panic (.iface 9 (.string { data:={ toList:=[UInt8.ofNat 109,UInt8.ofNat 115,UInt8.ofNat 103,UInt8.ofNat 58,UInt8.ofNat 32,UInt8.ofNat 116,UInt8.ofNat 104,UInt8.ofNat 101,UInt8.ofNat 114,UInt8.ofNat 101,UInt8.ofNat 32,UInt8.ofNat 105,UInt8.ofNat 115,UInt8.ofNat 32,UInt8.ofNat 109,UInt8.ofNat 111,UInt8.ofNat 114,UInt8.ofNat 101,UInt8.ofNat 32,UInt8.ofNat 105,UInt8.ofNat 110,UInt8.ofNat 32,UInt8.ofNat 105,UInt8.ofNat 116,UInt8.ofNat 32,UInt8.ofNat 116,UInt8.ofNat 104,UInt8.ofNat 97,UInt8.ofNat 110,UInt8.ofNat 32,UInt8.ofNat 105,UInt8.ofNat 115,UInt8.ofNat 32,UInt8.ofNat 97,UInt8.ofNat 115,UInt8.ofNat 107,UInt8.ofNat 101,UInt8.ofNat 100,UInt8.ofNat 32,UInt8.ofNat 105,UInt8.ofNat 110,UInt8.ofNat 32,UInt8.ofNat 105,UInt8.ofNat 116,UInt8.ofNat 115,UInt8.ofNat 32,UInt8.ofNat 107,UInt8.ofNat 105,UInt8.ofNat 110,UInt8.ofNat 100] } })),[Zbu,Zbz,Zby,Zb4,Zb3,Zb6,Zb5,Zb9,Zb8,Zcg,Zcf,Zcl,Zck,Zdf,Zde,Zos,Zdu,Zfh,.ok zMma9,Zhl,.ok Zmh,.is Zmh (.bool false),.ok Zot,.is Zot (.bool false),.fn 17 (ESa 3) Ztl,.is (.fn 3 Ztl 0) (.bool false)],[]):=by kernel_rfl
theorem a3i:segTo Try.prog orcA 10000 flA shA [0,0,0,0,0,0,0,0,1,1] shA0 []=some (.panic (.iface 9 (.string { data:={ toList:=[UInt8.ofNat 109,UInt8.ofNat 115,UInt8.ofNat 103,UInt8.ofNat 58,UInt8.ofNat 32,UInt8.ofNat 97,UInt8.ofNat 32,UInt8.ofNat 110,UInt8.ofNat 117,UInt8.ofNat 109,UInt8.ofNat 98,UInt8.ofNat 101,UInt8.ofNat 114,UInt8.ofNat 32,UInt8.ofNat 116,UInt8.ofNat 104,UInt8.ofNat 97,UInt8.ofNat 116,UInt8.ofNat 32,UInt8.ofNat 109,UInt8.ofNat 97,UInt8.ofNat 121,UInt8.ofNat 32,UInt8.ofNat 110,UInt8.ofNat 111,UInt8.ofNat 116,UInt8.ofNat 32,UInt8.ofNat 98,UInt8.ofNat 101] } })),[Zbu,Zbz,Zby,Zb4,Zb3,Zb6,Zb5,Zb9,Zb8,Zcg,Zcf,Zcl,Zck,Zdf,Zde,Zfr,Zfq,Zq5,Zdu,Ztj],[]):=by kernel_rfl
theorem a3j:segTo Try.prog orcA 10000 flA shA [0,0,0,0,0,0,0,0,1,0,1] shA0 []=some (.panic (.iface 9 (.string { data:={ toList:=[UInt8.ofNat 109,UInt8.ofNat 115,UInt8.ofNat 103,UInt8.ofNat 58,UInt8.ofNat 32,UInt8.ofNat 97,UInt8.ofNat 32,UInt8.ofNat 110,UInt8.ofNat 117,UInt8.ofNat 109,UInt8.ofNat 98,UInt8.ofNat 101,UInt8.ofNat 114,UInt8.ofNat 32,UInt8.ofNat 116,UInt8.ofNat 104,UInt8.ofNat 97,UInt8.ofNat 116,UInt8.ofNat 32,UInt8.ofNat 109,UInt8.ofNat 97,UInt8.ofNat 121,UInt8.ofNat 32,UInt8.ofNat 110,UInt8.ofNat 111,UInt8.ofNat 116,UInt8.ofNat 32,UInt8.ofNat 98,UInt8.ofNat 101] } })),[Zbu,Zbz,Zby,Zb4,Zb3,Zb6,Zb5,Zb9,Zb8,Zcg,Zcf,Zcl,Zck,Zdf,Zde,Zfr,Zfq,Zq5,Zdu,Zfh,.ok zMma9,Zth],[]):=by kernel_rfl
theorem a3w:segU Try.prog orcA 10000 flA shA [0,0,0,0,0,0,0,0,1,0,0,1] shA0 []=some (.panic (.tuple { toList:=[] }),[Zbu,Zbz,Zby,Zb4,Zb3,Zb6,Zb5,Zb9,Zb8,Zcg,Zcf,Zcl,Zck,Zdf,Zde,Zfr,Zfq,Zq5,Zdu,Zfh,.ok zMma9,Zhl,Zvd,.is (.fn 5 [.var 7,zMma1] 0) (.int .i64 1)],[]):=by kernel_rfl
theorem a3y:segTo Try.prog orcA 10000 flA shA [0,0,0,0,0,0,0,0,1,0,0,0,1] shA0 []=some (.normal,[Zbu,Zbz,Zby,Zb4,Zb3,Zb6,Zb5,Zb9,Zb8,Zcg,Zcf,Zcl,Zck,Zdf,Zde,Zfr,Zfq,Zq5,Zdu,Zfh,.ok zMma9,Zhl,Zvd,.is (.fn 5 [.var 7,zMma1] 0) (.int .i64 0),.fn 17 (ESa 3) zMma7,.is (.fn 3 zMma7 0) (.bool true)],[]):=by kernel_rfl
theorem a3d:segTo Try.prog orcA 10000 flA shA [0,0,0,0,0,0,0,0,1,0,0,0,0] shA0 []=some (.panic (.iface 9 (.string { data:={ toList:=[UInt8.ofNat 109,UInt8.ofNat 115,UInt8.ofNat 103,UInt8.ofNat 58,UInt8.ofNat 32,UInt8.ofNat 116,UInt8.ofNat 104,UInt8.ofNat 101,UInt8.ofNat 114,UInt8.ofNat 101,UInt8.ofNat 32,UInt8.ofNat 105,UInt8.ofNat 115,UInt8.ofNat 32,UInt8.ofNat 109,UInt8.ofNat 111,UInt8.ofNat 114,UInt8.ofNat 101,UInt8.ofNat 32,UInt8.ofNat 105,UInt8.ofNat 110,UInt8.ofNat 32,UInt8.ofNat 105,UInt8.ofNat 116,UInt8.ofNat 32,UInt8.ofNat 116,UInt8.ofNat 104,UInt8.ofNat 97,UInt8.ofNat 110,UInt8.ofNat 32,UInt8.ofNat 105,UInt8.ofNat 115,UInt8.ofNat 32,UInt8.ofNat 97,UInt8.ofNat 115,UInt8.ofNat 107,UInt8.ofNat 101,UInt8.ofNat 100,UInt8.ofNat 32,UInt8.ofNat 105,UInt8.ofNat 110,UInt8.ofNat 32,UInt8.ofNat 105,UInt8.ofNat 116,UInt8.ofNat 115,UInt8.ofNat 32,UInt8.ofNat 107,UInt8.ofNat 105,UInt8.ofNat 110,UInt8.ofNat 100] } })),[Zbu,Zbz,Zby,Zb4,Zb3,Zb6,Zb5,Zb9,Zb8,Zcg,Zcf,Zcl,Zck,Zdf,Zde,Zfr,Zfq,Zq5,Zdu,Zfh,.ok zMma9,Zhl,Zvd,.is (.fn 5 [.var 7,zMma1] 0) (.int .i64 0),.fn 17 (ESa 3) zMma7,.is (.fn 3 zMma7 0) (.bool false)],[]):=by kernel_rfl
theorem a4i:segTo Try.prog orcA 10000 flA shA [0,0,0,0,0,0,0,0,0,1,1] shA0 []=some (.panic (.iface 9 (.string { data:={ toList:=[UInt8.ofNat 109,UInt8.ofNat 115,UInt8.ofNat 103,UInt8.ofNat 58,UInt8.ofNat 32,UInt8.ofNat 97,UInt8.ofNat 32,UInt8.ofNat 110,UInt8.ofNat 117,UInt8.ofNat 109,UInt8.ofNat 98,UInt8.ofNat 101,UInt8.ofNat 114,UInt8.ofNat 32,UInt8.ofNat 116,UInt8.ofNat 104,UInt8.ofNat 97,UInt8.ofNat 116,UInt8.ofNat 32,UInt8.ofNat 109,UInt8.ofNat 97,UInt8.ofNat 121,UInt8.ofNat 32,UInt8.ofNat 110,UInt8.ofNat 111,UInt8.ofNat 116,UInt8.ofNat 32,UInt8.ofNat 98,UInt8.ofNat 101] } })),[Zbu,Zbz,Zby,Zb4,Zb3,Zb6,Zb5,Zb9,Zb8,Zcg,Zcf,Zcl,Zck,Zdf,Zde,Zfr,Zfq,Zjb,.ok Zhm,Zq4,Zdu,Ztj],[]):=by kernel_rfl
theorem a4j:segTo Try.prog orcA 10000 flA shA [0,0,0,0,0,0,0,0,0,1,0,1] shA0 []=some (.panic (.iface 9 (.string { data:={ toList:=[UInt8.ofNat 109,UInt8.ofNat 115,UInt8.ofNat 103,UInt8.ofNat 58,UInt8.ofNat 32,UInt8.ofNat 97,UInt8.ofNat 32,UInt8.ofNat 110,UInt8.ofNat 117,UInt8.ofNat 109,UInt8.ofNat 98,UInt8.ofNat 101,UInt8.ofNat 114,UInt8.ofNat 32,UInt8.ofNat 116,UInt8.ofNat 104,UInt8.ofNat 97,UInt8.ofNat 116,UInt8.ofNat 32,UInt8.ofNat 109,UInt8.ofNat 97,UInt8.ofNat 121,UInt8.ofNat 32,UInt8.ofNat 110,UInt8.ofNat 111,UInt8.ofNat 116,UInt8.ofNat 32,UInt8.ofNat 98,UInt8.ofNat 101] } })),[Zbu,Zbz,Zby,Zb4,Zb3,Zb6,Zb5,Zb9,Zb8,Zcg,Zcf,Zcl,Zck,Zdf,Zde,Zfr,Zfq,Zjb,.ok Zhm,Zq4,Zdu,Zfh,.ok zMma9,Zth],[]):=by kernel_rfl
theorem a4w:segU Try.prog orcA 10000 flA shA [0,0,0,0,0,0,0,0,0,1,0,0,1] shA0 []=some (.panic (.tuple { toList:=[] }),[Zbu,Zbz,Zby,Zb4,Zb3,Zb6,Zb5,Zb9,Zb8,Zcg,Zcf,Zcl,Zck,Zdf,Zde,Zfr,Zfq,Zjb,.ok Zhm,Zq4,Zdu,Zfh,.ok zMma9,Zhl,Zve,.is Zvc (.int .i64 1)],[]):=by kernel_rfl
theorem a4y:segTo Try.prog orcA 10000 flA shA [0,0,0,0,0,0,0,0,0,1,0,0,0,1] shA0 []=some (.normal,[Zbu,Zbz,Zby,Zb4,Zb3,Zb6,Zb5,Zb9,Zb8,Zcg,Zcf,Zcl,Zck,Zdf,Zde,Zfr,Zfq,Zjb,.ok Zhm,Zq4,Zdu,Zfh,.ok zMma9,Zhl,Zve,.is Zvc (.int .i64 0),.fn 17 (ESa 3) zMma7,.is (.fn 3 zMma7 0) (.bool true)],[]):=by kernel_rfl
theorem a4d:segTo Try.prog orcA 10000 flA shA [0,0,0,0,0,0,0,0,0,1,0,0,0,0] shA0 []=some (.panic (.iface 9 (.string { data:={ toList:=[UInt8.ofNat 109,UInt8.ofNat 115,UInt8.ofNat 103,UInt8.ofNat 58,UInt8.ofNat 32,UInt8.ofNat 116,UInt8.ofNat 104,UInt8.ofNat 101,UInt8.ofNat 114,UInt8.ofNat 101,UInt8.ofNat 32,UInt8.ofNat 105,UInt8.ofNat 115,UInt8.ofNat 32,UInt8.ofNat 109,UInt8.ofNat 111,UInt8.ofNat 114,UInt8.ofNat 101,UInt8.ofNat 32,UInt8.ofNat 105,UInt8.ofNat 110,UInt8.ofNat 32,UInt8.ofNat 105,UInt8.ofNat 116,UInt8.ofNat 32,UInt8.ofNat 116,UInt8.ofNat 104,UInt8.ofNat 97,UInt8.ofNat 110,UInt8.ofNat 32,UInt8.ofNat 105,UInt8.ofNat 115,UInt8.ofNat 32,UInt8.ofNat 97,UInt8.ofNat 115,UInt8.ofNat 107,UInt8.ofNat 101,UInt8.ofNat 100,UInt8.ofNat 32,UInt8.ofNat 105,UInt8.ofNat 110,UInt8.ofNat 32,UInt8.ofNat 105,UInt8.ofNat 116,UInt8.ofNat 115,UInt8.ofNat 32,UInt8.ofNat 107,UInt8.ofNat 105,UInt8.ofNat 110,UInt8.ofNat 100] } })),[Zbu,Zbz,Zby,Zb4,Zb3,Zb6,Zb5,Zb9,Zb8,Zcg,Zcf,Zcl,Zck,Zdf,Zde,Zfr,Zfq,Zjb,.ok Zhm,Zq4,Zdu,Zfh,.ok zMma9,Zhl,Zve,.is Zvc (.int .i64 0),.fn 17 (ESa 3) zMma7,.is (.fn 3 zMma7 0) (.bool false)],[]):=by kernel_rfl
theorem a5i:segTo Try.prog orcA 10000 flA shA [0,0,0,0,0,0,0,0,0,0,1,1] shA0 []=some (.panic (.iface 9 (.string { data:={ toList:=[UInt8.ofNat 109,UInt8.ofNat 115,UInt8.ofNat 103,UInt8.ofNat 58,UInt8.ofNat 32,UInt8.ofNat 97,UInt8.ofNat 32,UInt8.ofNat 110,UInt8.ofNat 117,UInt8.ofNat 109,UInt8.ofNat 98,UInt8.ofNat 101,UInt8.ofNat 114,UInt8.ofNat 32,UInt8.ofNat 116,UInt8.ofNat 104,UInt8.ofNat 97,UInt8.ofNat 116,UInt8.ofNat 32,UInt8.ofNat 109,UInt8.ofNat 97,UInt8.ofNat 121,UInt8.ofNat 32,UInt8.ofNat 110,UInt8.ofNat 111,UInt8.ofNat 116,UInt8.ofNat 32,UInt8.ofNat 98,UInt8.ofNat 101] } })),[Zbu,Zbz,Zby,Zb4,Zb3,Zb6,Zb5,Zb9,Zb8,Zcg,Zcf,Zcl,Zck,Zdf,Zde,Zfr,Zfq,Zjb,.ok Zhm,Zq6,.ok Znf,Zti,Zdu,Ztj],[]):=by kernel_rfl
theorem a5j:segTo Try.prog orcA 10000 flA shA [0,0,0,0,0,0,0,0,0,0,1,0,1] shA0 []=some (.panic (.iface 9 (.string { data:={ toList:=[UInt8.ofNat 109,UInt8.ofNat 115,UInt8.ofNat 103,UInt8.ofNat 58,UInt8.ofNat 32,UInt8.ofNat 97,UInt8.ofNat 32,UInt8.ofNat 110,UInt8.ofNat 117,UInt8.ofNat 109,UInt8.ofNat 98,UInt8.ofNat 101,UInt8.ofNat 114,UInt8.ofNat 32,UInt8.ofNat 116,UInt8.ofNat 104,UInt8.ofNat 97,UInt8.ofNat 116,UInt8.ofNat 32,UInt8.ofNat 109,UInt8.ofNat 97,UInt8.ofNat 121,UInt8.ofNat 32,UInt8.ofNat 110,UInt8.ofNat 111,UInt8.ofNat 116,UInt8.ofNat 32,UInt8.ofNat 98,UInt8.ofNat 101] } })),[Zbu,Zbz,Zby,Zb4,Zb3,Zb6,Zb5,Zb9,Zb8,Zcg,Zcf,Zcl,Zck,Zdf,Zde,Zfr,Zfq,Zjb,.ok Zhm,Zq6,.ok Znf,Zti,Zdu,Zfh,.ok zMma9,Zth],[]):=by kernel_rfl
theorem a5y:segTo Try.prog orcA 10000 flA shA [0,0,0,0,0,0,0,0,0,0,1,0,0,1] shA0 []=some (.normal,[Zbu,Zbz,Zby,Zb4,Zb3,Zb6,Zb5,Zb9,Zb8,Zcg,Zcf,Zcl,Zck,Zdf,Zde,Zfr,Zfq,Zjb,.ok Zhm,Zq6,.ok Znf,Zti,Zdu,Zfh,.ok zMma9,Zhl,.fn 17 (ESa 3) Ztm,.is (.fn 3 Ztm 0) (.bool true)],[]):=by kernel_rfl
theorem a5d:segTo Try.prog orcA 10000 flA shA [0,0,0,0,0,0,0,0,0,0,1,0,0,0] shA0 []=some (.panic (.iface 9 (.string { data:={ toList:=[UInt8.ofNat 109,UInt8.ofNat 115,UInt8.ofNat 103,UInt8.ofNat 58,UInt8.ofNat 32,UInt8.ofNat 116,UInt8.ofNat 104,UInt8.ofNat 101,UInt8.ofNat 114,UInt8.ofNat 101,UInt8.ofNat 32,UInt8.ofNat 105,UInt8.ofNat 115,UInt8.ofNat 32,UInt8.ofNat 109,UInt8.ofNat 111,UInt8.ofNat 114,UInt8.ofNat 101,UInt8.ofNat 32,UInt8.ofNat 105,UInt8.ofNat 110,UInt8.ofNat 32,UInt8.ofNat 105,UInt8.ofNat 116,UInt8.ofNat 32,UInt8.ofNat 116,UInt8.ofNat 104,UInt8.ofNat 97,UInt8.ofNat 110,UInt8.ofNat 32,UInt8.ofNat 105,UInt8.ofNat 115,UInt8.ofNat 32,UInt8.ofNat 97,UInt8.ofNat 115,UInt8.ofNat 107,UInt8.ofNat 101,UInt8.ofNat 100,UInt8.ofNat 32,UInt8.ofNat 105,UInt8.ofNat 110,UInt8.ofNat 32,UInt8.ofNat 105,UInt8.ofNat 116,UInt8.ofNat 115,UInt8.ofNat 32,UInt8.ofNat 107,UInt8.ofNat 105,UInt8.ofNat 110,UInt8.ofNat 100] } })),[Zbu,Zbz,Zby,Zb4,Zb3,Zb6,Zb5,Zb9,Zb8,Zcg,Zcf,Zcl,Zck,Zdf,Zde,Zfr,Zfq,Zjb,.ok Zhm,Zq6,.ok Znf,Zti,Zdu,Zfh,.ok zMma9,Zhl,.fn 17 (ESa 3) Ztm,.is (.fn 3 Ztm 0) (.bool false)],[]):=by kernel_rfl
theorem a6:segTo Try.prog orcA 10000 flA shA [0,0,0,0,0,0,0,0,0,0,0] shA0 []=some (.panic (.iface 9 (.string { data:={ toList:=[UInt8.ofNat 109,UInt8.ofNat 115,UInt8.ofNat 103,UInt8.ofNat 58,UInt8.ofNat 32,UInt8.ofNat 110,UInt8.ofNat 111,UInt8.ofNat 116,UInt8.ofNat 104,UInt8.ofNat 105,UInt8.ofNat 110,UInt8.ofNat 103,UInt8.ofNat 32,UInt8.ofNat 111,UInt8.ofNat 102,UInt8.ofNat 32,UInt8.ofNat 116,UInt8.ofNat 104,UInt8.ofNat 97,UInt8.ofNat 116,UInt8.ofNat 32,UInt8.ofNat 107,UInt8.ofNat 105,UInt8.ofNat 110,UInt8.ofNat 100,UInt8.ofNat 32,UInt8.ofNat 105,UInt8.ofNat 115,UInt8.ofNat 32,UInt8.ofNat 97,UInt8.ofNat 115,UInt8.ofNat 107,UInt8.ofNat 101,UInt8.ofNat 100] } })),[Zbu,Zbz,Zby,Zb4,Zb3,Zb6,Zb5,Zb9,Zb8,Zcg,Zcf,Zcl,Zck,Zdf,Zde,Zfr,Zfq,Zjb,.ok Zhm,Zq6,.ok Znf,.is Znf (.bool false)],[]):=by kernel_rfl
@[simp] theorem kMbE (k:Nat):(EMb k).k=k:=rfl
@[simp] theorem kMbN (k:Nat):(EName k).k=k:=rfl
noncomputable def FA:Fns:=fun k=>match k with | 2=>spec RName | 3=>spec RSa | 5=>spec RMw | _=>fun _=>none
theorem w2:ToldF 74 (EName 2) (FA 2):=toldDm 2
theorem w3:ToldF 17 (ESa 3) (FA 3):=toldSe 3
theorem w5:ToldX 60 (EMw 5) [.tuple { toList:=[] }] (FA 5):=toldMw 5
theorem Za0:OrcOk Try.prog orcA:=Zg7 (Zae tabA) (Zdo tabAX)
theorem fa3 {x a:AskM} (h:x.writes.length<=1000000) (h':a.writes.length<=1000000):FA 3 (aP x++aP a)=some [pB (decide (x=a))]:=Zaf fSa ⟨x,a,h,h',rfl,rfl⟩
def RMb (ps qs:List PV):Prop:=∃ a:AskM,AOk a/\ps=aP a/\qs=if mayA a=true then [pI 0] else [pI 1]
theorem fMb:∀ ps q1 q2,RMb ps q1->RMb ps q2->q1=q2:=by
 rintro ps q1 q2 ⟨a,_,rfl,rfl⟩ ⟨b,_,h,rfl⟩
 rw [Zej h]
set_option maxHeartbeats 4000000 in
theorem Zug (k0:Nat):ToldX 32 (EMb k0) [anyV] (spec RMb):=by
 refine Zgt FA _ (Zam Try.prog 32) Try.func32 (by kernel_rfl) shA (by kernel_rfl) ?_ ?_
 ·intro ps qs h
  obtain ⟨a,_,rfl,rfl⟩:=Zag h
  exact Za7 rfl
 intro C ps qs hF h a w hsh
 obtain ⟨A,ok,rfl,hqs⟩:=Zag h
 clear h
 show wpL Try.prog flA _ a w
 rw [<- List.append_nil flA]
 have gN:FA 2 [pS A.name]=some [pB (Zia A.name)]:=by rw [<- Zvu];exact Zaf fName ⟨_,ok.name,rfl,rfl⟩
 have g51:FA 5 [pRow encW A.writes,pI 1]=some (if okWs A.writes 1=true then [pI 0] else [pI 1]):=Zaf fMw ⟨_,_,ok.len,ok.wr,rfl,rfl⟩
 have g50:FA 5 [pRow encW A.writes,pI 0]=some (if okWs A.writes 0=true then [pI 0] else [pI 1]):=Zaf fMw ⟨_,_,ok.len,ok.wr,rfl,rfl⟩
 have hlen:=ok.len
 clear ok
 obtain ⟨k,f,e,s,n,i,m,ws⟩:=A
 have x1:=fa3 (x:=⟨k,f,e,s,n,i,m,ws⟩) (a:=⟨k,f,e,s,n,0,0,[]⟩) hlen (by simp)
 have x2:=fa3 (x:=⟨k,f,e,s,n,i,m,ws⟩) (a:=⟨k,f,e,s,e0,i,m,[]⟩) hlen (by simp)
 have x3:=fa3 (x:=⟨k,f,e,s,n,i,m,ws⟩) (a:=⟨k,f,e,s,e0,i,0,ws⟩) hlen hlen
 have x5:=fa3 (x:=⟨k,f,e,s,n,i,m,ws⟩) (a:=⟨k,f,e,s,e0,i,0,[]⟩) hlen (by simp)
 simp only [aP,List.cons_append,List.nil_append,AskM.mk.injEq,true_and,and_true] at *
 by_cases c1:f < 1
 ·rw [show mayA ⟨k,f,e,s,n,i,m,ws⟩=false by (simp [mayA,numB];omega),if_neg (by simp)] at hqs
  refine Zad names_ok mixed_ok Za0 n1 hsh ?_ (fun qs a1 w1 hq h1=>⟨nofun,fun _=>.inr ⟨0,anyV,_,_,_,hqs,rfl,rfl,h1⟩⟩)
  simp [-Zac,Zab,Zaa,Base.ev,SX.ev,evs,Value.oneCell',hF,binPV,nilW,Zai,gN,mma.w2,mma.w3,mma.w5,c1]
 by_cases c2:3 < f
 ·rw [show mayA ⟨k,f,e,s,n,i,m,ws⟩=false by (simp [mayA,numB];omega),if_neg (by simp)] at hqs
  refine Zad names_ok mixed_ok Za0 n2 hsh ?_ (fun qs a1 w1 hq h1=>⟨nofun,fun _=>.inr ⟨0,anyV,_,_,_,hqs,rfl,rfl,h1⟩⟩)
  simp [-Zac,Zab,Zaa,Base.ev,SX.ev,evs,Value.oneCell',hF,binPV,nilW,Zai,gN,mma.w2,mma.w3,mma.w5,c1,c2]
 by_cases c3:e < 0
 ·rw [show mayA ⟨k,f,e,s,n,i,m,ws⟩=false by (simp [mayA,numB];omega),if_neg (by simp)] at hqs
  refine Zad names_ok mixed_ok Za0 n3 hsh ?_ (fun qs a1 w1 hq h1=>⟨nofun,fun _=>.inr ⟨0,anyV,_,_,_,hqs,rfl,rfl,h1⟩⟩)
  simp [-Zac,Zab,Zaa,Base.ev,SX.ev,evs,Value.oneCell',hF,binPV,nilW,Zai,gN,mma.w2,mma.w3,mma.w5,c1,c2,c3]
 by_cases c4:1073741824 < e
 ·rw [show mayA ⟨k,f,e,s,n,i,m,ws⟩=false by (simp [mayA,numB];omega),if_neg (by simp)] at hqs
  refine Zad names_ok mixed_ok Za0 n4 hsh ?_ (fun qs a1 w1 hq h1=>⟨nofun,fun _=>.inr ⟨0,anyV,_,_,_,hqs,rfl,rfl,h1⟩⟩)
  simp [-Zac,Zab,Zaa,Base.ev,SX.ev,evs,Value.oneCell',hF,binPV,nilW,Zai,gN,mma.w2,mma.w3,mma.w5,c1,c2,c3,c4]
 by_cases c5:s < 1
 ·rw [show mayA ⟨k,f,e,s,n,i,m,ws⟩=false by (simp [mayA,numB];omega),if_neg (by simp)] at hqs
  refine Zad names_ok mixed_ok Za0 n5 hsh ?_ (fun qs a1 w1 hq h1=>⟨nofun,fun _=>.inr ⟨0,anyV,_,_,_,hqs,rfl,rfl,h1⟩⟩)
  simp [-Zac,Zab,Zaa,Base.ev,SX.ev,evs,Value.oneCell',hF,binPV,nilW,Zai,gN,mma.w2,mma.w3,mma.w5,c1,c2,c3,c4,c5]
 by_cases c6:1073741824 < s
 ·rw [show mayA ⟨k,f,e,s,n,i,m,ws⟩=false by (simp [mayA,numB];omega),if_neg (by simp)] at hqs
  refine Zad names_ok mixed_ok Za0 n6 hsh ?_ (fun qs a1 w1 hq h1=>⟨nofun,fun _=>.inr ⟨0,anyV,_,_,_,hqs,rfl,rfl,h1⟩⟩)
  simp [-Zac,Zab,Zaa,Base.ev,SX.ev,evs,Value.oneCell',hF,binPV,nilW,Zai,gN,mma.w2,mma.w3,mma.w5,c1,c2,c3,c4,c5,c6]
 have mA:mayA ⟨k,f,e,s,n,i,m,ws⟩=(decide (1<=k/\k<=5) && (if k=1 then Zia n && decide (i=0/\m=0/\ws=[]) else decide (n=e0) && decide (1<=i/\i<=6) && (if k=2 then decide ((m=1 \/ m=2)/\ws=[]) else decide (m=0) && (if k=5 then decide (ws=[]) else decide (ws.length<=5) && decide (0 < ws.length \/ k=4) && ws.all okWr)))):=by
  rw [Bool.eq_iff_iff]
  simp only [mayA,numB,Bool.and_eq_true,decide_eq_true_eq]
  constructor
  ·rintro ⟨⟨⟨h,_⟩,_⟩,h2⟩;exact ⟨⟨h.1,h.2.1⟩,h2⟩
  ·rintro ⟨h,h2⟩;exact ⟨⟨⟨⟨h.1,h.2,by omega,by omega⟩,by omega,by omega⟩,by omega,by omega⟩,h2⟩
 by_cases k1:k=1
 ·subst k1
  cases hn:Zia n with
  | false =>
   rw [hn] at gN
   rw [show mayA ⟨1,f,e,s,n,i,m,ws⟩=false by (rw [mA];simp [hn]),if_neg (by simp)] at hqs
   refine Zad names_ok mixed_ok Za0 a1n hsh ?_ (fun qs a1 w1 hq h1=>⟨nofun,fun _=>.inr ⟨0,anyV,_,_,_,hqs,rfl,rfl,h1⟩⟩)
   simp [-Zac,Zab,Zaa,Base.ev,SX.ev,evs,Value.oneCell',hF,binPV,nilW,Zai,gN,mma.w2,mma.w3,mma.w5,c1,c2,c3,c4,c5,c6]
  | true =>
   rw [hn] at gN
   by_cases q:i=0/\m=0/\ws=[]
   ·rw [show mayA ⟨1,f,e,s,n,i,m,ws⟩=true by (rw [mA];simp [hn,q]),if_pos rfl] at hqs
    rw [decide_eq_true q] at x1
    refine Zad names_ok mixed_ok Za0 a1y hsh ?_ (fun qs a1 w1 hq h1=>⟨fun _=>.inl ⟨_,hqs,.inl rfl,shA0,_,[],h1,by kernel_rfl,rfl⟩,fun h=>absurd rfl h⟩)
    simp [-Zac,Zab,Zaa,Base.ev,SX.ev,evs,Value.oneCell',hF,binPV,nilW,Zai,gN,mma.w2,mma.w3,mma.w5,c1,c2,c3,c4,c5,c6,x1]
   ·rw [show mayA ⟨1,f,e,s,n,i,m,ws⟩=false by (rw [mA];simpa [hn] using q),if_neg (by simp)] at hqs
    rw [decide_eq_false q] at x1
    refine Zad names_ok mixed_ok Za0 a1d hsh ?_ (fun qs a1 w1 hq h1=>⟨nofun,fun _=>.inr ⟨0,anyV,_,_,_,hqs,rfl,rfl,h1⟩⟩)
    simp [-Zac,Zab,Zaa,Base.ev,SX.ev,evs,Value.oneCell',hF,binPV,nilW,Zai,gN,mma.w2,mma.w3,mma.w5,c1,c2,c3,c4,c5,c6,x1]
 by_cases k2:k=2
 ·subst k2
  by_cases i1:i < 1
  ·rw [show mayA ⟨2,f,e,s,n,i,m,ws⟩=false by (rw [mA];simp;omega),if_neg (by simp)] at hqs
   refine Zad names_ok mixed_ok Za0 a2i hsh ?_ (fun qs a1 w1 hq h1=>⟨nofun,fun _=>.inr ⟨0,anyV,_,_,_,hqs,rfl,rfl,h1⟩⟩)
   simp [-Zac,Zab,Zaa,Base.ev,SX.ev,evs,Value.oneCell',hF,binPV,nilW,Zai,gN,mma.w2,mma.w3,mma.w5,c1,c2,c3,c4,c5,c6,k1,i1]
  by_cases i2:6 < i
  ·rw [show mayA ⟨2,f,e,s,n,i,m,ws⟩=false by (rw [mA];simp;omega),if_neg (by simp)] at hqs
   refine Zad names_ok mixed_ok Za0 a2j hsh ?_ (fun qs a1 w1 hq h1=>⟨nofun,fun _=>.inr ⟨0,anyV,_,_,_,hqs,rfl,rfl,h1⟩⟩)
   simp [-Zac,Zab,Zaa,Base.ev,SX.ev,evs,Value.oneCell',hF,binPV,nilW,Zai,gN,mma.w2,mma.w3,mma.w5,c1,c2,c3,c4,c5,c6,k1,i1,i2]
  have i3:1<=i/\i<=6:=by omega
  by_cases m1:m < 1
  ·rw [show mayA ⟨2,f,e,s,n,i,m,ws⟩=false by (rw [mA];simp;omega),if_neg (by simp)] at hqs
   refine Zad names_ok mixed_ok Za0 a2m hsh ?_ (fun qs a1 w1 hq h1=>⟨nofun,fun _=>.inr ⟨0,anyV,_,_,_,hqs,rfl,rfl,h1⟩⟩)
   simp [-Zac,Zab,Zaa,Base.ev,SX.ev,evs,Value.oneCell',hF,binPV,nilW,Zai,gN,mma.w2,mma.w3,mma.w5,c1,c2,c3,c4,c5,c6,k1,i1,i2,m1]
  by_cases m2:2 < m
  ·rw [show mayA ⟨2,f,e,s,n,i,m,ws⟩=false by (rw [mA];simp;omega),if_neg (by simp)] at hqs
   refine Zad names_ok mixed_ok Za0 a2o hsh ?_ (fun qs a1 w1 hq h1=>⟨nofun,fun _=>.inr ⟨0,anyV,_,_,_,hqs,rfl,rfl,h1⟩⟩)
   simp [-Zac,Zab,Zaa,Base.ev,SX.ev,evs,Value.oneCell',hF,binPV,nilW,Zai,gN,mma.w2,mma.w3,mma.w5,c1,c2,c3,c4,c5,c6,k1,i1,i2,m1,m2]
  have m3:m=1 \/ m=2:=by omega
  by_cases q:n=e0/\ws=[]
  ·rw [show mayA ⟨2,f,e,s,n,i,m,ws⟩=true by (rw [mA];simp [q,i3,m3]),if_pos rfl] at hqs
   rw [decide_eq_true q] at x2
   refine Zad names_ok mixed_ok Za0 a2y hsh ?_ (fun qs a1 w1 hq h1=>⟨fun _=>.inl ⟨_,hqs,.inl rfl,shA0,_,[],h1,by kernel_rfl,rfl⟩,fun h=>absurd rfl h⟩)
   simp [-Zac,Zab,Zaa,Base.ev,SX.ev,evs,Value.oneCell',hF,binPV,nilW,Zai,gN,mma.w2,mma.w3,mma.w5,c1,c2,c3,c4,c5,c6,k1,i1,i2,m1,m2,x2]
  ·rw [show mayA ⟨2,f,e,s,n,i,m,ws⟩=false by (rw [mA];simp [i3,m3];exact fun h1 h2=>q ⟨h1,h2⟩),if_neg (by simp)] at hqs
   rw [decide_eq_false q] at x2
   refine Zad names_ok mixed_ok Za0 a2d hsh ?_ (fun qs a1 w1 hq h1=>⟨nofun,fun _=>.inr ⟨0,anyV,_,_,_,hqs,rfl,rfl,h1⟩⟩)
   simp [-Zac,Zab,Zaa,Base.ev,SX.ev,evs,Value.oneCell',hF,binPV,nilW,Zai,gN,mma.w2,mma.w3,mma.w5,c1,c2,c3,c4,c5,c6,k1,i1,i2,m1,m2,x2]
 by_cases k3:k=3
 ·subst k3
  by_cases i1:i < 1
  ·rw [show mayA ⟨3,f,e,s,n,i,m,ws⟩=false by (rw [mA];simp;omega),if_neg (by simp)] at hqs
   refine Zad names_ok mixed_ok Za0 a3i hsh ?_ (fun qs a1 w1 hq h1=>⟨nofun,fun _=>.inr ⟨0,anyV,_,_,_,hqs,rfl,rfl,h1⟩⟩)
   simp [-Zac,Zab,Zaa,Base.ev,SX.ev,evs,Value.oneCell',hF,binPV,nilW,Zai,gN,mma.w2,mma.w3,mma.w5,c1,c2,c3,c4,c5,c6,k1,k2,i1]
  by_cases i2:6 < i
  ·rw [show mayA ⟨3,f,e,s,n,i,m,ws⟩=false by (rw [mA];simp;omega),if_neg (by simp)] at hqs
   refine Zad names_ok mixed_ok Za0 a3j hsh ?_ (fun qs a1 w1 hq h1=>⟨nofun,fun _=>.inr ⟨0,anyV,_,_,_,hqs,rfl,rfl,h1⟩⟩)
   simp [-Zac,Zab,Zaa,Base.ev,SX.ev,evs,Value.oneCell',hF,binPV,nilW,Zai,gN,mma.w2,mma.w3,mma.w5,c1,c2,c3,c4,c5,c6,k1,k2,i1,i2]
  have i3:1<=i/\i<=6:=by omega
  cases hw:okWs ws 1 with
  | false =>
   rw [hw,if_neg (by simp)] at g51
   rw [show mayA ⟨3,f,e,s,n,i,m,ws⟩=false by (rw [mA];simp only [okWs,Bool.and_eq_false_iff,decide_eq_false_iff_not] at hw;simp;intro _ _ _ _ h5 h6;rcases hw with hw | hw <;> first | omega | simpa using hw),if_neg (by simp)] at hqs
   refine Zbh names_ok mixed_ok Za0 a3w hsh ?_ (fun qs a1 w1 hq h1=>⟨nofun,fun _ u=>.inr ⟨0,anyV,u,_,_,hqs,rfl,rfl,h1⟩⟩)
   simp [-Zac,Zab,Zaa,Base.ev,SX.ev,evs,Value.oneCell',hF,binPV,nilW,Zai,gN,mma.w2,mma.w3,mma.w5,c1,c2,c3,c4,c5,c6,k1,k2,i1,i2,g51]
  | true =>
   rw [hw,if_pos rfl] at g51
   simp only [okWs,Bool.and_eq_true,decide_eq_true_eq] at hw
   by_cases q:n=e0/\m=0
   ·rw [show mayA ⟨3,f,e,s,n,i,m,ws⟩=true by (rw [mA];simp [q,i3,hw.1.2,show 0 < ws.length by omega];simpa using hw.2),if_pos rfl] at hqs
    rw [decide_eq_true q] at x3
    refine Zad names_ok mixed_ok Za0 a3y hsh ?_ (fun qs a1 w1 hq h1=>⟨fun _=>.inl ⟨_,hqs,.inl rfl,shA0,_,[],h1,by kernel_rfl,rfl⟩,fun h=>absurd rfl h⟩)
    simp [-Zac,Zab,Zaa,Base.ev,SX.ev,evs,Value.oneCell',hF,binPV,nilW,Zai,gN,mma.w2,mma.w3,mma.w5,c1,c2,c3,c4,c5,c6,k1,k2,i1,i2,g51,x3]
   ·rw [show mayA ⟨3,f,e,s,n,i,m,ws⟩=false by (rw [mA];simp [i3];exact fun h1 h2=>absurd ⟨h1,h2⟩ q),if_neg (by simp)] at hqs
    rw [decide_eq_false q] at x3
    refine Zad names_ok mixed_ok Za0 a3d hsh ?_ (fun qs a1 w1 hq h1=>⟨nofun,fun _=>.inr ⟨0,anyV,_,_,_,hqs,rfl,rfl,h1⟩⟩)
    simp [-Zac,Zab,Zaa,Base.ev,SX.ev,evs,Value.oneCell',hF,binPV,nilW,Zai,gN,mma.w2,mma.w3,mma.w5,c1,c2,c3,c4,c5,c6,k1,k2,i1,i2,g51,x3]
 by_cases k4:k=4
 ·subst k4
  by_cases i1:i < 1
  ·rw [show mayA ⟨4,f,e,s,n,i,m,ws⟩=false by (rw [mA];simp;omega),if_neg (by simp)] at hqs
   refine Zad names_ok mixed_ok Za0 a4i hsh ?_ (fun qs a1 w1 hq h1=>⟨nofun,fun _=>.inr ⟨0,anyV,_,_,_,hqs,rfl,rfl,h1⟩⟩)
   simp [-Zac,Zab,Zaa,Base.ev,SX.ev,evs,Value.oneCell',hF,binPV,nilW,Zai,gN,mma.w2,mma.w3,mma.w5,c1,c2,c3,c4,c5,c6,k1,k2,k3,i1]
  by_cases i2:6 < i
  ·rw [show mayA ⟨4,f,e,s,n,i,m,ws⟩=false by (rw [mA];simp;omega),if_neg (by simp)] at hqs
   refine Zad names_ok mixed_ok Za0 a4j hsh ?_ (fun qs a1 w1 hq h1=>⟨nofun,fun _=>.inr ⟨0,anyV,_,_,_,hqs,rfl,rfl,h1⟩⟩)
   simp [-Zac,Zab,Zaa,Base.ev,SX.ev,evs,Value.oneCell',hF,binPV,nilW,Zai,gN,mma.w2,mma.w3,mma.w5,c1,c2,c3,c4,c5,c6,k1,k2,k3,i1,i2]
  have i3:1<=i/\i<=6:=by omega
  cases hw:okWs ws 0 with
  | false =>
   rw [hw,if_neg (by simp)] at g50
   rw [show mayA ⟨4,f,e,s,n,i,m,ws⟩=false by (rw [mA];simp only [okWs,Bool.and_eq_false_iff,decide_eq_false_iff_not] at hw;simp;intro _ _ _ _ h5;rcases hw with hw | hw <;> first | omega | simpa using hw),if_neg (by simp)] at hqs
   refine Zbh names_ok mixed_ok Za0 a4w hsh ?_ (fun qs a1 w1 hq h1=>⟨nofun,fun _ u=>.inr ⟨0,anyV,u,_,_,hqs,rfl,rfl,h1⟩⟩)
   simp [-Zac,Zab,Zaa,Base.ev,SX.ev,evs,Value.oneCell',hF,binPV,nilW,Zai,gN,mma.w2,mma.w3,mma.w5,c1,c2,c3,c4,c5,c6,k1,k2,k3,i1,i2,g50]
  | true =>
   rw [hw,if_pos rfl] at g50
   simp only [okWs,Bool.and_eq_true,decide_eq_true_eq] at hw
   by_cases q:n=e0/\m=0
   ·rw [show mayA ⟨4,f,e,s,n,i,m,ws⟩=true by (rw [mA];simp [q,i3,hw.1.2];simpa using hw.2),if_pos rfl] at hqs
    rw [decide_eq_true q] at x3
    refine Zad names_ok mixed_ok Za0 a4y hsh ?_ (fun qs a1 w1 hq h1=>⟨fun _=>.inl ⟨_,hqs,.inl rfl,shA0,_,[],h1,by kernel_rfl,rfl⟩,fun h=>absurd rfl h⟩)
    simp [-Zac,Zab,Zaa,Base.ev,SX.ev,evs,Value.oneCell',hF,binPV,nilW,Zai,gN,mma.w2,mma.w3,mma.w5,c1,c2,c3,c4,c5,c6,k1,k2,k3,i1,i2,g50,x3]
   ·rw [show mayA ⟨4,f,e,s,n,i,m,ws⟩=false by (rw [mA];simp [i3];exact fun h1 h2=>absurd ⟨h1,h2⟩ q),if_neg (by simp)] at hqs
    rw [decide_eq_false q] at x3
    refine Zad names_ok mixed_ok Za0 a4d hsh ?_ (fun qs a1 w1 hq h1=>⟨nofun,fun _=>.inr ⟨0,anyV,_,_,_,hqs,rfl,rfl,h1⟩⟩)
    simp [-Zac,Zab,Zaa,Base.ev,SX.ev,evs,Value.oneCell',hF,binPV,nilW,Zai,gN,mma.w2,mma.w3,mma.w5,c1,c2,c3,c4,c5,c6,k1,k2,k3,i1,i2,g50,x3]
 by_cases k5:k=5
 ·subst k5
  by_cases i1:i < 1
  ·rw [show mayA ⟨5,f,e,s,n,i,m,ws⟩=false by (rw [mA];simp;omega),if_neg (by simp)] at hqs
   refine Zad names_ok mixed_ok Za0 a5i hsh ?_ (fun qs a1 w1 hq h1=>⟨nofun,fun _=>.inr ⟨0,anyV,_,_,_,hqs,rfl,rfl,h1⟩⟩)
   simp [-Zac,Zab,Zaa,Base.ev,SX.ev,evs,Value.oneCell',hF,binPV,nilW,Zai,gN,mma.w2,mma.w3,mma.w5,c1,c2,c3,c4,c5,c6,k1,k2,k3,k4,i1]
  by_cases i2:6 < i
  ·rw [show mayA ⟨5,f,e,s,n,i,m,ws⟩=false by (rw [mA];simp;omega),if_neg (by simp)] at hqs
   refine Zad names_ok mixed_ok Za0 a5j hsh ?_ (fun qs a1 w1 hq h1=>⟨nofun,fun _=>.inr ⟨0,anyV,_,_,_,hqs,rfl,rfl,h1⟩⟩)
   simp [-Zac,Zab,Zaa,Base.ev,SX.ev,evs,Value.oneCell',hF,binPV,nilW,Zai,gN,mma.w2,mma.w3,mma.w5,c1,c2,c3,c4,c5,c6,k1,k2,k3,k4,i1,i2]
  have i3:1<=i/\i<=6:=by omega
  by_cases q:n=e0/\m=0/\ws=[]
  ·rw [show mayA ⟨5,f,e,s,n,i,m,ws⟩=true by (rw [mA];simp [q,i3]),if_pos rfl] at hqs
   rw [decide_eq_true q] at x5
   refine Zad names_ok mixed_ok Za0 a5y hsh ?_ (fun qs a1 w1 hq h1=>⟨fun _=>.inl ⟨_,hqs,.inl rfl,shA0,_,[],h1,by kernel_rfl,rfl⟩,fun h=>absurd rfl h⟩)
   simp [-Zac,Zab,Zaa,Base.ev,SX.ev,evs,Value.oneCell',hF,binPV,nilW,Zai,gN,mma.w2,mma.w3,mma.w5,c1,c2,c3,c4,c5,c6,k1,k2,k3,k4,i1,i2,x5]
  ·rw [show mayA ⟨5,f,e,s,n,i,m,ws⟩=false by (rw [mA];simp [i3];exact fun h1 h2 h3=>q ⟨h1,h2,h3⟩),if_neg (by simp)] at hqs
   rw [decide_eq_false q] at x5
   refine Zad names_ok mixed_ok Za0 a5d hsh ?_ (fun qs a1 w1 hq h1=>⟨nofun,fun _=>.inr ⟨0,anyV,_,_,_,hqs,rfl,rfl,h1⟩⟩)
   simp [-Zac,Zab,Zaa,Base.ev,SX.ev,evs,Value.oneCell',hF,binPV,nilW,Zai,gN,mma.w2,mma.w3,mma.w5,c1,c2,c3,c4,c5,c6,k1,k2,k3,k4,i1,i2,x5]
 rw [show mayA ⟨k,f,e,s,n,i,m,ws⟩=false by (rw [mA];simp;omega),if_neg (by simp)] at hqs
 refine Zad names_ok mixed_ok Za0 a6 hsh ?_ (fun qs a1 w1 hq h1=>⟨nofun,fun _=>.inr ⟨0,anyV,_,_,_,hqs,rfl,rfl,h1⟩⟩)
 simp [-Zac,Zab,Zaa,Base.ev,SX.ev,evs,Value.oneCell',hF,binPV,nilW,Zai,gN,mma.w2,mma.w3,mma.w5,c1,c2,c3,c4,c5,c6,k1,k2,k3,k4,k5]
end Go.Proofs.Ytnomiffghidmbaa.mma
