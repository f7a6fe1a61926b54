/- What lasts behind each deed (the document's Zeo): opened, flushed, gone. -/
import Derived.Test.YtefkakjegdjojaaGreatSta
namespace Go.Proofs.YtefkakjegdjojaaGreat.sta
open Go Go.RowKit eng SX Fact fil fileFronts dirs pck may
open fileFronts
open pck hiding F F20 F21
open dirs hiding shR shRl shRR flR lpR cutR f0 f1 f2 f3
open may hiding r1 r2 r3 r4 r5
set_option linter.unusedVariables false
set_option linter.unusedSimpArgs false
set_option maxRecDepth 1000000

def EOpen (k:Nat):FnE:={ k:=k,ins:=[some 3,none,none,none],leaks:=[],outs:=[some 3,some 4],kinds:=[.row,.row,.num,.num,.num,.num,.num] }
def Zqr (k:Nat):FnE:={ k:=k,ins:=[some 3,none,none,none,none],leaks:=[],outs:=[some 3,some 4],kinds:=[.row,.row,.num,.num,.num,.num,.num] }
def EBoot (k:Nat):FnE:={ k:=k,ins:=[some 3],leaks:=[true,true,true],outs:=[some 3],kinds:=[.row,.row,.num] }
def ENew (k:Nat):FnE:={ k:=k,ins:=[],leaks:=[],outs:=[some 3],kinds:=[.row,.row,.num] }
def tabO (f:FuncId):Option FnE:=cond (Nat.beq f 31) (some (EName 1)) (cond (Nat.beq f 33) (some (EFind 2)) (cond (Nat.beq f 34) (some (ERoom 3)) (cond (Nat.beq f 32) (some (Zg0 4)) (cond (Nat.beq f 96) (some (EMay 5)) (cond (Nat.beq f 97) (some (EAll 6)) none)))))
def sbox (b:Bool):BoxT:=⟨30,0,false,[.leaf,.leaf,.leaf],none,false⟩
def zbox:BoxT:=⟨30,0,false,[.nil,.nil,.leaf],none,false⟩
def mbox:BoxT:=⟨36,0,false,[.leaf,.leaf,.leaf,.leaf],none,false⟩
def shU:Shape:=⟨[(0,.agg 3),(1,.leaf),(2,.leaf),(3,.leaf),(4,.leaf)],[],[some false,some false,none,none,none,none,some false],91,49⟩
def shUl:Shape:=⟨[(1,.leaf),(3,.leaf),(4,.leaf),(5,.ptr 0 0 0 0),(10,.ptr 1 0 0 0),(11,.ptr 2 0 0 0),(12,.ptr 3 0 0 0),(13,.leaf),(14,.leaf)],[sbox true,zbox,mbox,mbox],[none,none,some false,none,none,some false,some false,none,none,none,none,none,none,none,none,none,none],91,49⟩
def shUR:Shape:=⟨[(10,.ptr 0 0 0 0),(11,.ptr 1 0 0 0)],[sbox true,mbox],[some true,some true,none,none,none,none,none],91,49⟩
noncomputable def lpU:=flat (Zak (nth (flat (Zar Tryz.prog 49)) 6))
noncomputable def flU:=flat (Zar Tryz.prog 49)
@[simp] def Zcl:List SX:=[.var 0,.var 1,.var 2,.var 3,.var 4,.con (.int .i64 2),.con (.int .i64 0),.con (.int .i64 0),.con (.int .i64 0),.con (.string { data:={ toList:=[] } }),.con (.int .i64 0),.con (.string { data:={ toList:=[] } })]
@[simp] def Zbf:List SX:=[.var 5,.var 6,.var 7,.var 0,.var 13,.var 14,.var 1,rop ROp.min2 [.bin .add (.cell (.var 5) (.bin .sub (.var 1) (.con (.int .i64 1))) 3 1) (.con (.int .i64 1)),.con (.int .i64 1073741824)],.var 1,.cell (.var 5) (.bin .sub (.var 1) (.con (.int .i64 1))) 3 0,rop ROp.min2 [.bin .add (.cell (.var 5) (.bin .sub (.var 1) (.con (.int .i64 1))) 3 1) (.con (.int .i64 1)),.con (.int .i64 1073741824)],.fn 6 [.cell (.var 5) (.bin .sub (.var 1) (.con (.int .i64 1))) 3 2,.var 2] 0]
@[simp] def Za0:SX:=.con (.string { data:={ toList:=[] } })
@[simp] def Zck:List SX:=[.var 0,.var 1,.var 2,.var 3,.var 4,.con (.int .i64 0),.fn 2 [.var 0,.var 5] 0,.cell (.var 0) (.bin .sub (.fn 2 [.var 0,.var 5] 0) (.con (.int .i64 1))) 3 1,.con (.int .i64 0),Za0,.con (.int .i64 0),Za0]
@[simp] def Zbe:List SX:=[.var 5,.var 6,.var 7,.var 0,.var 13,.con (.int .i64 1),.var 15,.var 16,.con (.int .i64 0),Za0,.con (.int .i64 0),Za0]
@[simp] def Zcj:List SX:=[.var 0,.var 1,.var 2,.var 3,.var 4,.con (.int .i64 1),.con (.int .i64 0),.con (.int .i64 0),.con (.int .i64 0),Za0,.con (.int .i64 0),Za0]
@[simp] def Zci:List SX:=[.var 0,.var 1,.var 2,.var 3,.var 4,.con (.int .i64 3),.con (.int .i64 0),.con (.int .i64 0),.con (.int .i64 0),Za0,.con (.int .i64 0),Za0]
@[simp] def Zch:List SX:=[.var 0,.var 1,.var 2,.var 3,.var 4,.con (.int .i64 0),.fn 3 [.var 0] 0,.con (.int .i64 1),.fn 3 [.var 0] 0,.var 5,.con (.int .i64 1),Za0]
@[simp] def Zcg:List SX:=[.var 0,.var 1,.var 2,.var 3,.var 4,.con (.int .i64 0),.var 5,.con (.int .i64 0),.var 5,Za0,.con (.int .i64 0),Za0]
@[simp] def Zc9:SX:=.bin .sub (.var 5) (.con (.int .i64 1))
@[simp] def Zhd:List SX:=[.fn 4 Zcl 0,.fn 4 Zcl 1,.fn 4 Zcl 2,.fn 4 Zcl 3,.fn 4 Zcl 4,.fn 4 Zcl 5,.fn 4 Zcl 6]
@[simp] def Zbx:SX:=.bin .geq (.var 5) (.con (.int .i64 1))
@[simp] def Zam:SX:=.con (.int .i64 0)
@[simp] def Zca:SX:=.bin .neq (.cell (.var 0) Zc9 3 0) Za0
@[simp] def Zcp:SX:=.bin .leq (.var 5) (.len (.var 0))
@[simp] def Zc8:SX:=.bin .sub (.var 1) (.con (.int .i64 1))
@[simp] def Zet:SX:=.bin .add (.var 4) (.con (.int .i64 1))
@[simp] def zGreatStb18:List SX:=[.var 3,.var 5,.var 6,.con (.bool false),Zam,.var 0,.var 1,.var 2,Zam,Zam,Zam,Zam,Zam,.var 4,Zam,Zam,Zam]
@[simp] def Zhc:SX:=.bin .geq (.len (.var 6)) (.con (.int .i64 1))
@[simp] def Zes:SX:=.bin .lss (.var 4) (.len (.var 2))
@[simp] def zGreatStb21:List SX:=[.var 0,.var 1,.var 2,.con (.bool false),Zet,.var 5,.var 6,.var 7,.var 8,.var 9,.var 10,.var 11,.var 12,.var 13,.var 14,.var 15,.var 16]
@[simp] def Zl6:List SX:=[.cell (.var 2) (.var 4) 2 0,.cell (.var 2) (.var 4) 2 1]
@[simp] def Zl5:SX:=.bin .sub (.fn 2 [.var 0,.var 5] 0) (.con (.int .i64 1))
@[simp] def Zhb:Fact:=.ok (.cell (.var 0) Zc9 3 0)
@[simp] def Zer:Fact:=.is Zbx (.bool true)
@[simp] def Zl4:SX:=.bin .leq (.len (.var 6)) (.con (.int .i64 5))
@[simp] def Zdu:Fact:=.ok (.fn 4 Zcl 2)
@[simp] def Zdt:Fact:=.ok (.fn 4 Zcl 3)
@[simp] def Zds:Fact:=.ok (.fn 4 Zcl 4)
@[simp] def Zdr:Fact:=.ok (.fn 4 Zcl 5)
@[simp] def Zdq:Fact:=.ok (.fn 4 Zcl 6)
@[simp] def Zat:Fact:=.ok Zam
@[simp] def Zha:Fact:=.fn 32 (Zg0 4) Zcl
@[simp] def Zg9:Fact:=.idx (.var 0) Zc9 3 3
@[simp] def Zg8:Fact:=.idx (.var 0) Zc9 3 1
@[simp] def Zg7:Fact:=.is Zcp (.bool true)
@[simp] def zGreatStb37:SX:=rop ROp.min2 [.bin .add (.var 2) (.con (.int .i64 1)),.con (.int .i64 1073741824)]
theorem o0:runTo Tryz.prog (orcFn tabO) 10000 10 (EOpen 9) [.row,.row,.num,.num,.num,.num] [0] hApp=some ([.ok (.var 2),.ok (.var 3),.ok (.var 4),.ok (.var 5),.fn 31 (EName 1) [.var 5],.is (.fn 1 [.var 5] 0) (.bool false),.fn 32 (Zg0 4) Zcj,.ok (.fn 4 Zcj 2),.ok (.fn 4 Zcj 3),.ok (.fn 4 Zcj 4),.ok (.fn 4 Zcj 5),.ok (.fn 4 Zcj 6)],[.fn 4 Zcj 0,.fn 4 Zcj 1,.fn 4 Zcj 2,.fn 4 Zcj 3,.fn 4 Zcj 4,.fn 4 Zcj 5,.fn 4 Zcj 6]):=by kernel_rfl
theorem o11:runTo Tryz.prog (orcFn tabO) 10000 10 (EOpen 9) [.row,.row,.num,.num,.num,.num] [1,1] hApp=some ([.ok (.var 2),.ok (.var 3),.ok (.var 4),.ok (.var 5),.fn 31 (EName 1) [.var 5],.is (.fn 1 [.var 5] 0) (.bool true),.fn 33 (EFind 2) [.var 0,.var 5],.ok (.fn 2 [.var 0,.var 5] 0),.is (.fn 2 [.var 0,.var 5] 1) (.bool true),.ok Zl5,.idx (.var 0) Zl5 3 3,.idx (.var 0) Zl5 3 2,.ok (.cell (.var 0) Zl5 3 1),.fn 32 (Zg0 4) Zck,.ok (.fn 4 Zck 2),.ok (.fn 4 Zck 3),.ok (.fn 4 Zck 4),.ok (.fn 4 Zck 5),.ok (.fn 4 Zck 6)],[.fn 4 Zck 0,.fn 4 Zck 1,.fn 4 Zck 2,.fn 4 Zck 3,.fn 4 Zck 4,.fn 4 Zck 5,.fn 4 Zck 6]):=by kernel_rfl
theorem o100:runTo Tryz.prog (orcFn tabO) 10000 10 (EOpen 9) [.row,.row,.num,.num,.num,.num] [1,0,0] hApp=some ([.ok (.var 2),.ok (.var 3),.ok (.var 4),.ok (.var 5),.fn 31 (EName 1) [.var 5],.is (.fn 1 [.var 5] 0) (.bool true),.fn 33 (EFind 2) [.var 0,.var 5],.ok (.fn 2 [.var 0,.var 5] 0),.is (.fn 2 [.var 0,.var 5] 1) (.bool false),.fn 34 (ERoom 3) [.var 0],.ok (.fn 3 [.var 0] 0),.is (.fn 3 [.var 0] 1) (.bool false),.fn 32 (Zg0 4) Zci,.ok (.fn 4 Zci 2),.ok (.fn 4 Zci 3),.ok (.fn 4 Zci 4),.ok (.fn 4 Zci 5),.ok (.fn 4 Zci 6)],[.fn 4 Zci 0,.fn 4 Zci 1,.fn 4 Zci 2,.fn 4 Zci 3,.fn 4 Zci 4,.fn 4 Zci 5,.fn 4 Zci 6]):=by kernel_rfl
theorem o101:runTo Tryz.prog (orcFn tabO) 10000 10 (EOpen 9) [.row,.row,.num,.num,.num,.num] [1,0,1] hApp=some ([.ok (.var 2),.ok (.var 3),.ok (.var 4),.ok (.var 5),.fn 31 (EName 1) [.var 5],.is (.fn 1 [.var 5] 0) (.bool true),.fn 33 (EFind 2) [.var 0,.var 5],.ok (.fn 2 [.var 0,.var 5] 0),.is (.fn 2 [.var 0,.var 5] 1) (.bool false),.fn 34 (ERoom 3) [.var 0],.ok (.fn 3 [.var 0] 0),.is (.fn 3 [.var 0] 1) (.bool true),.fn 32 (Zg0 4) Zch,.ok (.fn 4 Zch 2),.ok (.fn 4 Zch 3),.ok (.fn 4 Zch 4),.ok (.fn 4 Zch 5),.ok (.fn 4 Zch 6)],[.fn 4 Zch 0,.fn 4 Zch 1,.fn 4 Zch 2,.fn 4 Zch 3,.fn 4 Zch 4,.fn 4 Zch 5,.fn 4 Zch 6]):=by kernel_rfl
theorem g0:runTo Tryz.prog (orcFn tabO) 10000 51 (EOpen 9) [.row,.row,.num,.num,.num,.num] [0] hApp=some ([.ok (.var 2),.ok (.var 3),.ok (.var 4),.ok (.var 5),.ok Zbx,.is Zbx (.bool false),Zha,Zdu,Zdt,Zds,Zdr,Zdq],Zhd):=by kernel_rfl
theorem g10:runTo Tryz.prog (orcFn tabO) 10000 51 (EOpen 9) [.row,.row,.num,.num,.num,.num] [1,0] hApp=some ([.ok (.var 2),.ok (.var 3),.ok (.var 4),.ok (.var 5),.ok Zbx,Zer,.ok (.len (.var 0)),.ok Zcp,.is Zcp (.bool false),Zha,Zdu,Zdt,Zds,Zdr,Zdq],Zhd):=by kernel_rfl
theorem g110:runTo Tryz.prog (orcFn tabO) 10000 51 (EOpen 9) [.row,.row,.num,.num,.num,.num] [1,1,0] hApp=some ([.ok (.var 2),.ok (.var 3),.ok (.var 4),.ok (.var 5),.ok Zbx,Zer,.ok (.len (.var 0)),.ok Zcp,Zg7,.ok Zc9,Zg9,Zg8,Zhb,.ok Zca,.is Zca (.bool false),Zha,Zdu,Zdt,Zds,Zdr,Zdq],Zhd):=by kernel_rfl
theorem g111:runTo Tryz.prog (orcFn tabO) 10000 51 (EOpen 9) [.row,.row,.num,.num,.num,.num] [1,1,1] hApp=some ([.ok (.var 2),.ok (.var 3),.ok (.var 4),.ok (.var 5),.ok Zbx,Zer,.ok (.len (.var 0)),.ok Zcp,Zg7,.ok Zc9,Zg9,Zg8,Zhb,.ok Zca,.is Zca (.bool true),.fn 32 (Zg0 4) Zcg,.ok (.fn 4 Zcg 2),.ok (.fn 4 Zcg 3),.ok (.fn 4 Zcg 4),.ok (.fn 4 Zcg 5),.ok (.fn 4 Zcg 6)],[.fn 4 Zcg 0,.fn 4 Zcg 1,.fn 4 Zcg 2,.fn 4 Zcg 3,.fn 4 Zcg 4,.fn 4 Zcg 5,.fn 4 Zcg 6]):=by kernel_rfl
theorem bt:runTo Tryz.prog (orcFn tabO) 10000 52 (EBoot 9) [.row,.row,.num] []=some ([.ok (.var 2),.ok (.bin .add (.var 2) (.con (.int .i64 1))),.ok zGreatStb37],[.var 0,.var 1,zGreatStb37]):=by kernel_rfl
theorem nw:runTo Tryz.prog (orcFn tabO) 10000 45 (ENew 9) [] []=some ([],[.lit 6 [Za0,Zam,Za0,Za0,Zam,Za0,Za0,Zam,Za0,Za0,Zam,Za0,Za0,Zam,Za0,Za0,Zam,Za0],.lit 3 [Zam,Zam,Zam,Zam,Zam,Zam,Zam,Zam,Zam,Zam,Zam,Zam],Zam]):=by kernel_rfl
theorem u0:segTo Tryz.prog (orcFn tabO) 10000 flU shU [0] shUR [(4,0),(5,0)]=some (.ret,[.ok Zbx,.is Zbx (.bool false),Zha,Zdu,Zdt,Zds,Zdr,Zdq,Zdu,Zdt,Zds,Zdr,Zdq],Zhd):=by kernel_rfl
theorem u10:segTo Tryz.prog (orcFn tabO) 10000 flU shU [1,0] shUR [(4,0),(5,0)]=some (.ret,[.ok Zbx,Zer,.ok (.len (.var 0)),.ok Zcp,.is Zcp (.bool false),Zha,Zdu,Zdt,Zds,Zdr,Zdq,Zdu,Zdt,Zds,Zdr,Zdq],Zhd):=by kernel_rfl
theorem u110:segTo Tryz.prog (orcFn tabO) 10000 flU shU [1,1,0] shUR [(4,0),(5,0)]=some (.ret,[.ok Zbx,Zer,.ok (.len (.var 0)),.ok Zcp,Zg7,.ok Zc9,Zg9,Zg8,Zhb,.ok Zca,.is Zca (.bool false),Zha,Zdu,Zdt,Zds,Zdr,Zdq,Zdu,Zdt,Zds,Zdr,Zdq],Zhd):=by kernel_rfl
theorem v0:segTo Tryz.prog (orcFn tabO) 10000 (flU.take 6) shU [1,1,1,0] shUl [(3,0),(4,0),(5,0),(6,0)]=some (.normal,[.ok Zbx,Zer,.ok (.len (.var 0)),.ok Zcp,Zg7,.ok Zc9,Zg9,Zg8,Zhb,.ok Zca,.is Zca (.bool true),.ok (.len (.var 6)),.ok Zhc,.is Zhc (.bool false),.ok (.var 3),.ok (.var 5),.ok (.con (.bool false)),Zat,.ok (.var 2),Zat,Zat,Zat,Zat,Zat,.ok (.var 4),Zat,Zat,Zat],zGreatStb18):=by kernel_rfl
theorem v10:segTo Tryz.prog (orcFn tabO) 10000 (flU.take 6) shU [1,1,1,1,0] shUl [(3,0),(4,0),(5,0),(6,0)]=some (.normal,[.ok Zbx,Zer,.ok (.len (.var 0)),.ok Zcp,Zg7,.ok Zc9,Zg9,Zg8,Zhb,.ok Zca,.is Zca (.bool true),.ok (.len (.var 6)),.ok Zhc,.is Zhc (.bool true),.ok (.len (.var 6)),.ok Zl4,.is Zl4 (.bool false),.ok (.var 3),.ok (.var 5),.ok (.con (.bool false)),Zat,.ok (.var 2),Zat,Zat,Zat,Zat,Zat,.ok (.var 4),Zat,Zat,Zat],zGreatStb18):=by kernel_rfl
theorem v11:segTo Tryz.prog (orcFn tabO) 10000 (flU.take 6) shU [1,1,1,1,1] shUl [(3,0),(4,0),(5,0),(6,0)]=some (.normal,[.ok Zbx,Zer,.ok (.len (.var 0)),.ok Zcp,Zg7,.ok Zc9,Zg9,Zg8,Zhb,.ok Zca,.is Zca (.bool true),.ok (.len (.var 6)),.ok Zhc,.is Zhc (.bool true),.ok (.len (.var 6)),.ok Zl4,.is Zl4 (.bool true),.ok (.var 3),.ok (.var 5),.ok (.con (.bool true)),Zat,.ok (.var 2),Zat,Zat,Zat,Zat,Zat,.ok (.var 4),Zat,Zat,Zat],[.var 3,.var 5,.var 6,.con (.bool true),Zam,.var 0,.var 1,.var 2,Zam,Zam,Zam,Zam,Zam,.var 4,Zam,Zam,Zam]):=by kernel_rfl
theorem lex:segTo Tryz.prog (orcFn tabO) 10000 lpU shUl [0] shUl [(0,0),(1,0),(2,0),(3,0)]=some (.exit 0,[.ok (.len (.var 2)),.ok Zes,.is Zes (.bool false),.ok (.var 0),.ok (.var 1),.ok (.var 3),.ok (.var 4),.ok (.var 7),.ok (.var 8),.ok (.var 9),.ok (.var 10),.ok (.var 11),.ok (.var 12),.ok (.var 13),.ok (.var 14),.ok (.var 15),.ok (.var 16)],[.var 0,.var 1,.var 2,.var 3,.var 4,.var 5,.var 6,.var 7,.var 8,.var 9,.var 10,.var 11,.var 12,.var 13,.var 14,.var 15,.var 16]):=by kernel_rfl
theorem l0:segTo Tryz.prog (orcFn tabO) 10000 lpU shUl [1,0] shUl [(0,0),(1,0),(2,0),(3,0)]=some (.normal,[.ok (.len (.var 2)),.ok Zes,.is Zes (.bool true),.is (.var 3) (.bool false),.ok Zet,.ok (.var 0),.ok (.var 1),.ok (.con (.bool false)),.ok Zet,.ok (.var 7),.ok (.var 8),.ok (.var 9),.ok (.var 10),.ok (.var 11),.ok (.var 12),.ok (.var 13),.ok (.var 14),.ok (.var 15),.ok (.var 16)],zGreatStb21):=by kernel_rfl
theorem l10:segTo Tryz.prog (orcFn tabO) 10000 lpU shUl [1,1,0] shUl [(0,0),(1,0),(2,0),(3,0)]=some (.normal,[.ok (.len (.var 2)),.ok Zes,.is Zes (.bool true),.is (.var 3) (.bool true),.idx (.var 2) (.var 4) 2 2,.idx (.var 2) (.var 4) 2 2,.ok (.cell (.var 2) (.var 4) 2 0),.ok (.cell (.var 2) (.var 4) 2 1),.fn 96 (EMay 5) Zl6,.is (.fn 5 Zl6 0) (.bool false),.ok Zet,.ok (.var 0),.ok (.var 1),.ok (.con (.bool false)),.ok Zet,.ok (.var 7),.ok (.var 8),.ok (.var 9),.ok (.var 10),.ok (.var 11),.ok (.var 12),.ok (.var 13),.ok (.var 14),.ok (.var 15),.ok (.var 16)],zGreatStb21):=by kernel_rfl
theorem l11:segTo Tryz.prog (orcFn tabO) 10000 lpU shUl [1,1,1] shUl [(0,0),(1,0),(2,0),(3,0)]=some (.normal,[.ok (.len (.var 2)),.ok Zes,.is Zes (.bool true),.is (.var 3) (.bool true),.idx (.var 2) (.var 4) 2 2,.idx (.var 2) (.var 4) 2 2,.ok (.cell (.var 2) (.var 4) 2 0),.ok (.cell (.var 2) (.var 4) 2 1),.fn 96 (EMay 5) Zl6,.is (.fn 5 Zl6 0) (.bool true),.ok Zet,.ok (.var 0),.ok (.var 1),.ok (.con (.bool true)),.ok Zet,.ok (.var 7),.ok (.var 8),.ok (.var 9),.ok (.var 10),.ok (.var 11),.ok (.var 12),.ok (.var 13),.ok (.var 14),.ok (.var 15),.ok (.var 16)],[.var 0,.var 1,.var 2,.con (.bool true),Zet,.var 5,.var 6,.var 7,.var 8,.var 9,.var 10,.var 11,.var 12,.var 13,.var 14,.var 15,.var 16]):=by kernel_rfl
theorem w0:segTo Tryz.prog (orcFn tabO) 10000 (flU.drop 7) shUl [0] shUR [(1,0),(2,0)]=some (.ret,[.is (.var 3) (.bool false),.fn 32 (Zg0 4) Zbe,.ok (.fn 4 Zbe 2),.ok (.fn 4 Zbe 3),.ok (.fn 4 Zbe 4),.ok (.fn 4 Zbe 5),.ok (.fn 4 Zbe 6),.ok (.fn 4 Zbe 2),.ok (.fn 4 Zbe 3),.ok (.fn 4 Zbe 4),.ok (.fn 4 Zbe 5),.ok (.fn 4 Zbe 6)],[.fn 4 Zbe 0,.fn 4 Zbe 1,.fn 4 Zbe 2,.fn 4 Zbe 3,.fn 4 Zbe 4,.fn 4 Zbe 5,.fn 4 Zbe 6]):=by kernel_rfl
theorem w1:segTo Tryz.prog (orcFn tabO) 10000 (flU.drop 7) shUl [1] shUR [(1,0),(2,0)]=some (.ret,[.is (.var 3) (.bool true),.ok Zc8,.idx (.var 5) Zc8 3 3,.idx (.var 5) Zc8 3 3,.ok (.cell (.var 5) Zc8 3 0),.ok (.cell (.var 5) Zc8 3 1),.ok (.cell (.var 5) Zc8 3 2),.fn 97 (EAll 6) [.cell (.var 5) Zc8 3 2,.var 2],.ok (.fn 6 [.cell (.var 5) Zc8 3 2,.var 2] 0),.ok (.bin .add (.cell (.var 5) Zc8 3 1) (.con (.int .i64 1))),.ok (rop ROp.min2 [.bin .add (.cell (.var 5) Zc8 3 1) (.con (.int .i64 1)),.con (.int .i64 1073741824)]),.fn 32 (Zg0 4) Zbf,.ok (.fn 4 Zbf 2),.ok (.fn 4 Zbf 3),.ok (.fn 4 Zbf 4),.ok (.fn 4 Zbf 5),.ok (.fn 4 Zbf 6),.ok (.fn 4 Zbf 2),.ok (.fn 4 Zbf 3),.ok (.fn 4 Zbf 4),.ok (.fn 4 Zbf 5),.ok (.fn 4 Zbf 6)],[.fn 4 Zbf 0,.fn 4 Zbf 1,.fn 4 Zbf 2,.fn 4 Zbf 3,.fn 4 Zbf 4,.fn 4 Zbf 5,.fn 4 Zbf 6]):=by kernel_rfl

@[simp] theorem kOpen (k:Nat):(EOpen k).k=k:=rfl
@[simp] theorem kFlush (k:Nat):(Zqr k).k=k:=rfl
@[simp] theorem kBoot (k:Nat):(EBoot k).k=k:=rfl
@[simp] theorem kNew (k:Nat):(ENew k).k=k:=rfl
structure StOk (s:StM):Prop where
 fl:s.files.length<=1000000
 ml:s.marks.length<=1000000
 fv:∀ f ∈ s.files,-1000000000000<=f.2.1/\f.2.1<=1000000000000/\f.2.2.size<=1000
 ep:-1000000000000<=s.epoch/\s.epoch<=1000000000000
def f00:FileM:=(e0,0,e0)
def openS (s:StM) (c seq:Int) (name:ByteArray):StM × MarkM :=
 if okN name then match s.files.findIdx? (isN name) with
  | some i=>(Za9 s c (seq,0,(i:Int)+1,(s.files.getD i f00).2.1) 0 f00,(seq,0,(i:Int)+1,(s.files.getD i f00).2.1))
  | none=>match s.files.findIdx? (isN e0) with
   | some i=>(Za9 s c (seq,0,(i:Int)+1,1) ((i:Int)+1) (name,1,e0),(seq,0,(i:Int)+1,1))
   | none=>(Za9 s c (seq,3,0,0) 0 f00,(seq,3,0,0))
 else (Za9 s c (seq,1,0,0) 0 f00,(seq,1,0,0))
def isF (s:StM) (file:Int):Bool:=decide (1<=file) && decide (file<=s.files.length) && !((s.files.getD (file.toNat - 1) f00).1.toList == e0.toList)
def goneS (s:StM) (c seq file:Int):StM × MarkM :=
 if isF s file then (Za9 s c (seq,0,file,0) file f00,(seq,0,file,0)) else (Za9 s c (seq,2,0,0) 0 f00,(seq,2,0,0))
def okWs (l:List (Int × ByteArray)):Bool:=decide (1<=l.length) && decide (l.length<=5) && l.all mayW
def Zej (f:FileM) (l:List (Int × ByteArray)):FileM:=(f.1,min (f.2.1+1) 1073741824,bs (allW f.2.2.data.toList l))
def Zdp (s:StM) (c seq file:Int) (l:List (Int × ByteArray)):StM × MarkM :=
 if isF s file then (if okWs l then (Za9 s c (seq,0,file,(Zej (s.files.getD (file.toNat - 1) f00) l).2.1) file (Zej (s.files.getD (file.toNat - 1) f00) l),(seq,0,file,(Zej (s.files.getD (file.toNat - 1) f00) l).2.1))
  else (Za9 s c (seq,1,0,0) 0 f00,(seq,1,0,0)))
 else (Za9 s c (seq,2,0,0) 0 f00,(seq,2,0,0))
def bootS (s:StM):StM:=⟨s.files,s.marks,min (s.epoch+1) 1073741824⟩
def newS:StM:=⟨List.replicate 6 f00,List.replicate 3 (0,0,0,0),0⟩
noncomputable def FO:Fns:=fun k=>match k with | 1=>spec RName | 2=>spec RFind | 3=>spec RRoom | 4=>spec Zvw | 5=>spec RMay | 6=>spec RAll | _=>fun _=>none
theorem z1:ToldF 31 (EName 1) (FO 1):=Zu8 1
theorem z2:ToldF 33 (EFind 2) (FO 2):=toldRefFind 2
theorem z3:ToldF 34 (ERoom 3) (FO 3):=toldRefRoom 3
theorem z4:ToldF 32 (Zg0 4) (FO 4):=toldMarked 4
theorem z5:ToldF 96 (EMay 5) (FO 5):=toldRef 5
theorem z6:ToldF 97 (EAll 6) (FO 6):=ral.told 6
theorem FO1 {s:ByteArray} (h:s.size<=9223372036854775807):FO 1 [pS s]=some [pB (okN s)]:=Zal fName ⟨s,h,rfl,rfl⟩
theorem FO2 {l:List FileM} {s:ByteArray} (h:l.length<=1000000) (hs:s.size<=9223372036854775807):FO 2 [pRow encF l,pS s]=some (ansQ (findN l s)):=Zal fFind ⟨l,s,h,hs,rfl,rfl⟩
theorem FO3 {l:List FileM} (h:l.length<=1000000):FO 3 [pRow encF l]=some (ansQ (l.findIdx? (isN e0))):=Zal fRoom ⟨l,h,rfl,rfl⟩
theorem FO4 {fs:List FileM} {ms:List MarkM} {ep c m1 m2 m3 m4 at' f2:Int} {f1 f3:ByteArray} (h1:fs.length<=1000000) (h2:ms.length<=1000000) (h3:-9223372036854775808<=c) (h4:c<=9223372036854775807) (h5:at'<=fs.length) :
  FO 4 [pRow encF fs,pRow encM ms,pI ep,pI c,pI m1,pI m2,pI m3,pI m4,pI at',pS f1,pI f2,pS f3]=some (pSt (Za9 ⟨fs,ms,ep⟩ c (m1,m2,m3,m4) at' (f1,f2,f3))++pMk (m1,m2,m3,m4)) :=
 Zal fMarked ⟨⟨fs,ms,ep⟩,c,(m1,m2,m3,m4),at',(f1,f2,f3),h1,h2,h3,h4,h5,rfl,rfl⟩
theorem FO5 {o:Int} {s:ByteArray} (h1:-9223372036854775808<=o) (h2:o<=9223372036854775807) (h3:s.size<=9223372036854775807):FO 5 [pI o,pS s]=some [pB (mayW (o,s))]:=Zal fMay ⟨o,s,h1,h2,h3,rfl,rfl⟩
theorem FO6 {b:ByteArray} {ws:List (Int × ByteArray)} (h1:b.size<=1000) (h2:ws.length<=1000) (h3:∀ w ∈ ws,-9223372036854775808<=w.1/\w.1<=9223372036854775807/\w.2.size<=1000000):FO 6 [pS b,pRow encW ws]=some [pS (bs (allW b.data.toList ws))]:=Zal fAll ⟨b,ws,h1,h2,h3,rfl,rfl⟩
def ROpen (ps qs:List PV):Prop:=∃ (s:StM) (c seq:Int) (name:ByteArray),StOk s/\-9223372036854775808<=c/\c<=9223372036854775807/\name.size<=9223372036854775807/\ps=pSt s++[pI c,pI seq,pS name]/\qs=pSt (openS s c seq name).1++pMk (openS s c seq name).2
theorem Zkj {s s':StM} (h1:pRow encF s.files=pRow encF s'.files) (h2:pRow encM s.marks=pRow encM s'.marks) (h3:s.epoch=s'.epoch):s=s':=by
 cases s;cases s'
 simp only at h1 h2 h3
 rw [fil.pRow_inj Zn2 h1,fil.pRow_inj Zqd h2,h3]
theorem fOpen:∀ ps q1 q2,ROpen ps q1->ROpen ps q2->q1=q2:=by
 rintro ps q1 q2 ⟨s,c,seq,name,_,_,_,_,rfl,rfl⟩ ⟨s',c',seq',name',_,_,_,_,h,rfl⟩
 simp only [List.cons_append,List.nil_append,List.cons.injEq,PV.v.injEq,Value.int.injEq,Value.string.injEq,true_and,and_true] at h
 obtain ⟨h1,h2,h3,rfl,rfl,rfl⟩:=h
 rw [Zkj h1 h2 h3]
set_option maxHeartbeats 1000000 in
theorem toldOpen (k:Nat):ToldF 10 (EOpen k) (spec ROpen):=by
 refine Ze5 Zac Zad FO [.row,.row,.num,.num,.num,.num] ?_
 intro ps qs h _
 obtain ⟨⟨fs,ms,ep⟩,c,seq,name,ok,hc1,hc2,hn,rfl,rfl⟩:=Zaj h
 have hfl:fs.length<=1000000:=ok.fl
 have hml:ms.length<=1000000:=ok.ml
 have e1:=FO1 hn
 have e2:=FO2 hfl hn
 have e3:=FO3 hfl
 cases hm:okN name with
 | false =>
  rw [hm] at e1
  have hq:openS ⟨fs,ms,ep⟩ c seq name=(Za9 ⟨fs,ms,ep⟩ c (seq,1,0,0) 0 f00,(seq,1,0,0)):=by simp [openS,hm]
  have e4:FO 4 [pRow encF fs,pRow encM ms,pI ep,pI c,pI seq,pI 1,pI 0,pI 0,pI 0,pS ⟨⟨[]⟩⟩,pI 0,pS ⟨⟨[]⟩⟩]=some (pSt (Za9 ⟨fs,ms,ep⟩ c (seq,1,0,0) 0 f00)++pMk (seq,1,0,0)):=FO4 hfl hml hc1 hc2 (by omega)
  rw [hq]
  generalize Za9 ⟨fs,ms,ep⟩ c (seq,1,0,0) 0 f00=s' at *
  refine ⟨_,_,_,_,_,_,Zai tabO,o0,fun w FP=>?_,?_⟩
  ·simp [-Zae,Zab,Zaa,Base.ev,SX.ev,evs,Value.oneCell',e1,e4,z1,z4]
  ·simp [evs,SX.ev,e4]
 | true =>
  rw [hm] at e1
  rw [findN,if_pos hm] at e2
  cases hf:fs.findIdx? (isN name) with
  | some i =>
   rw [hf] at e2
   have hi:i < fs.length:=by rw [List.findIdx?_eq_some_iff_getElem] at hf;exact hf.1
   obtain ⟨_,cv,_⟩:=cellF fs i hi
   have hg:fs.getD i f00=fs[i]:=by simp [List.getD,hi]
   have w1:IntKind.i64.wrap (i:Int)=(i:Int):=wrapI _ (by omega) (by omega)
   have i1:=Zaq encF fs i 3 3 .i64 rfl hi (by decide)
   have i2:=Zaq encF fs i 3 2 .i64 rfl hi (by decide)
   have hq:openS ⟨fs,ms,ep⟩ c seq name=(Za9 ⟨fs,ms,ep⟩ c (seq,0,(i:Int)+1,fs[i].2.1) 0 f00,(seq,0,(i:Int)+1,fs[i].2.1)):=by simp only [openS,hm,if_true,hf,hg]
   have e4:FO 4 [pRow encF fs,pRow encM ms,pI ep,pI c,pI seq,pI 0,pI ((i:Int)+1),pI fs[i].2.1,pI 0,pS ⟨⟨[]⟩⟩,pI 0,pS ⟨⟨[]⟩⟩]=some (pSt (Za9 ⟨fs,ms,ep⟩ c (seq,0,(i:Int)+1,fs[i].2.1) 0 f00)++pMk (seq,0,(i:Int)+1,fs[i].2.1)):=FO4 hfl hml hc1 hc2 (by omega)
   rw [hq]
   generalize fs[i].2.1=ver at *
   generalize Za9 ⟨fs,ms,ep⟩ c (seq,0,(i:Int)+1,ver) 0 f00=s' at *
   refine ⟨_,_,_,_,_,_,Zai tabO,o11,fun w FP=>?_,?_⟩
   ·simp [-Zae,Zab,Zaa,Base.ev,SX.ev,evs,Value.oneCell',binPV,e1,e2,e4,ansQ,w1,i1,i2,cv,z1,z2,z4]
   ·simp [evs,SX.ev,binPV,e2,e4,ansQ,w1,cv]
  | none =>
   rw [hf] at e2
   cases hr:fs.findIdx? (isN e0) with
   | none =>
    rw [hr] at e3
    have hq:openS ⟨fs,ms,ep⟩ c seq name=(Za9 ⟨fs,ms,ep⟩ c (seq,3,0,0) 0 f00,(seq,3,0,0)):=by simp only [openS,hm,if_true,hf,hr]
    have e4:FO 4 [pRow encF fs,pRow encM ms,pI ep,pI c,pI seq,pI 3,pI 0,pI 0,pI 0,pS ⟨⟨[]⟩⟩,pI 0,pS ⟨⟨[]⟩⟩]=some (pSt (Za9 ⟨fs,ms,ep⟩ c (seq,3,0,0) 0 f00)++pMk (seq,3,0,0)):=FO4 hfl hml hc1 hc2 (by omega)
    rw [hq]
    generalize Za9 ⟨fs,ms,ep⟩ c (seq,3,0,0) 0 f00=s' at *
    refine ⟨_,_,_,_,_,_,Zai tabO,o100,fun w FP=>?_,?_⟩
    ·simp [-Zae,Zab,Zaa,Base.ev,SX.ev,evs,Value.oneCell',binPV,e1,e2,e3,e4,ansQ,z1,z2,z3,z4]
    ·simp [evs,SX.ev,e4]
   | some i =>
    rw [hr] at e3
    have hi:i < fs.length:=by rw [List.findIdx?_eq_some_iff_getElem] at hr;exact hr.1
    have hq:openS ⟨fs,ms,ep⟩ c seq name=(Za9 ⟨fs,ms,ep⟩ c (seq,0,(i:Int)+1,1) ((i:Int)+1) (name,1,e0),(seq,0,(i:Int)+1,1)):=by simp only [openS,hm,if_true,hf,hr]
    have e4:FO 4 [pRow encF fs,pRow encM ms,pI ep,pI c,pI seq,pI 0,pI ((i:Int)+1),pI 1,pI ((i:Int)+1),pS name,pI 1,pS ⟨⟨[]⟩⟩]=some (pSt (Za9 ⟨fs,ms,ep⟩ c (seq,0,(i:Int)+1,1) ((i:Int)+1) (name,1,e0))++pMk (seq,0,(i:Int)+1,1)):=FO4 hfl hml hc1 hc2 (by omega)
    rw [hq]
    generalize Za9 ⟨fs,ms,ep⟩ c (seq,0,(i:Int)+1,1) ((i:Int)+1) (name,1,e0)=s' at *
    refine ⟨_,_,_,_,_,_,Zai tabO,o101,fun w FP=>?_,?_⟩
    ·simp [-Zae,Zab,Zaa,Base.ev,SX.ev,evs,Value.oneCell',binPV,e1,e2,e3,e4,ansQ,z1,z2,z3,z4]
    ·simp [evs,SX.ev,e3,e4,ansQ]

def RGone (ps qs:List PV):Prop:=∃ (s:StM) (c seq file:Int),StOk s/\-9223372036854775808<=c/\c<=9223372036854775807/\-9223372036854775808<=file/\file<=9223372036854775807/\ps=pSt s++[pI c,pI seq,pI file]/\qs=pSt (goneS s c seq file).1++pMk (goneS s c seq file).2
theorem fGone:∀ ps q1 q2,RGone ps q1->RGone ps q2->q1=q2:=by
 rintro ps q1 q2 ⟨s,c,seq,name,_,_,_,_,_,rfl,rfl⟩ ⟨s',c',seq',name',_,_,_,_,_,h,rfl⟩
 simp only [List.cons_append,List.nil_append,List.cons.injEq,PV.v.injEq,Value.int.injEq,Value.string.injEq,true_and,and_true] at h
 obtain ⟨h1,h2,h3,rfl,rfl,rfl⟩:=h
 rw [Zkj h1 h2 h3]
theorem isF_yes {fs:List FileM} {ms:List MarkM} {ep file:Int} (h1:1<=file) (h2:file<=fs.length):∃ j:Nat,∃ hj:j < fs.length,file=(j:Int)+1/\fs.getD (file.toNat - 1) f00=fs[j]/\isF ⟨fs,ms,ep⟩ file=!(fs[j].1.toList == e0.toList):=by
 refine ⟨file.toNat - 1,by omega,by omega,?_,?_⟩
 ·simp [List.getD,show file.toNat - 1 < fs.length by omega]
 ·simp [isF,h1,h2,List.getD,show file.toNat - 1 < fs.length by omega]
set_option maxHeartbeats 1000000 in
theorem toldGone (k:Nat):ToldF 51 (EOpen k) (spec RGone):=by
 refine Ze5 Zac Zad FO [.row,.row,.num,.num,.num,.num] ?_
 intro ps qs h _
 obtain ⟨⟨fs,ms,ep⟩,c,seq,file,ok,hc1,hc2,hn1,hn2,rfl,rfl⟩:=Zaj h
 have hfl:fs.length<=1000000:=ok.fl
 have hml:ms.length<=1000000:=ok.ml
 have e4:FO 4 [pRow encF fs,pRow encM ms,pI ep,pI c,pI seq,pI 2,pI 0,pI 0,pI 0,pS ⟨⟨[]⟩⟩,pI 0,pS ⟨⟨[]⟩⟩]=some (pSt (Za9 ⟨fs,ms,ep⟩ c (seq,2,0,0) 0 f00)++pMk (seq,2,0,0)):=FO4 hfl hml hc1 hc2 (by omega)
 have hqn:isF ⟨fs,ms,ep⟩ file=false->goneS ⟨fs,ms,ep⟩ c seq file=(Za9 ⟨fs,ms,ep⟩ c (seq,2,0,0) 0 f00,(seq,2,0,0)):=fun h=>by simp [goneS,h]
 generalize Za9 ⟨fs,ms,ep⟩ c (seq,2,0,0) 0 f00=s0 at *
 by_cases d1:1<=file
 ·by_cases d2:file<=fs.length
  ·obtain ⟨j,hj,rfl,hg,hF⟩:=isF_yes (ms:=ms) (ep:=ep) d1 d2
   obtain ⟨cn,_,_⟩:=cellF fs j hj
   have w1:IntKind.i64.wrap (j:Int)=(j:Int):=wrapI _ (by omega) (by omega)
   have i1:=Zaq encF fs j 3 3 .i64 rfl hj (by decide)
   have i2:=Zaq encF fs j 3 1 .i64 rfl hj (by decide)
   by_cases hn:fs[j].1.toList=[]
   ·have hF':isF ⟨fs,ms,ep⟩ ((j:Int)+1)=false:=by rw [hF,hn];simp [e0]
    rw [hqn hF']
    generalize fs[j].1=nm at *
    refine ⟨_,_,_,_,_,_,Zai tabO,g110,fun w FP=>?_,?_⟩
    ·simp [-Zae,Zab,Zaa,Base.ev,SX.ev,evs,Value.oneCell',Zaf,binPV,e4,w1,i1,i2,cn,hn,hj,z4]
     all_goals omega
    ·simp [evs,SX.ev,e4]
   ·have hF':isF ⟨fs,ms,ep⟩ ((j:Int)+1)=true:=by
     rw [hF]
     simpa [e0] using hn
    have hq:goneS ⟨fs,ms,ep⟩ c seq ((j:Int)+1)=(Za9 ⟨fs,ms,ep⟩ c (seq,0,(j:Int)+1,0) ((j:Int)+1) f00,(seq,0,(j:Int)+1,0)):=by simp [goneS,hF']
    have e5:FO 4 [pRow encF fs,pRow encM ms,pI ep,pI c,pI seq,pI 0,pI ((j:Int)+1),pI 0,pI ((j:Int)+1),pS ⟨⟨[]⟩⟩,pI 0,pS ⟨⟨[]⟩⟩]=some (pSt (Za9 ⟨fs,ms,ep⟩ c (seq,0,(j:Int)+1,0) ((j:Int)+1) f00)++pMk (seq,0,(j:Int)+1,0)):=FO4 hfl hml hc1 hc2 (by omega)
    rw [hq]
    generalize fs[j].1=nm at *
    generalize Za9 ⟨fs,ms,ep⟩ c (seq,0,(j:Int)+1,0) ((j:Int)+1) f00=s' at *
    refine ⟨_,_,_,_,_,_,Zai tabO,g111,fun w FP=>?_,?_⟩
    ·simp [-Zae,Zab,Zaa,Base.ev,SX.ev,evs,Value.oneCell',Zaf,binPV,e5,w1,i1,i2,cn,hn,hj,z4]
     all_goals omega
    ·simp [evs,SX.ev,e5]
  ·rw [hqn (by simp [isF,d2])]
   refine ⟨_,_,_,_,_,_,Zai tabO,g10,fun w FP=>?_,?_⟩
   ·simp [-Zae,Zab,Zaa,Base.ev,SX.ev,evs,Value.oneCell',Zaf,binPV,e4,z4]
    all_goals omega
   ·simp [evs,SX.ev,e4]
 ·rw [hqn (by simp [isF,d1])]
  refine ⟨_,_,_,_,_,_,Zai tabO,g0,fun w FP=>?_,?_⟩
  ·simp [-Zae,Zab,Zaa,Base.ev,SX.ev,evs,Value.oneCell',Zaf,binPV,e4,z4]
   all_goals omega
  ·simp [evs,SX.ev,e4]

def RBoot (ps qs:List PV):Prop:=∃ s:StM,StOk s/\ps=pSt s/\qs=pSt (bootS s)
theorem fBoot:∀ ps q1 q2,RBoot ps q1->RBoot ps q2->q1=q2:=by
 rintro ps q1 q2 ⟨s,_,rfl,rfl⟩ ⟨s',_,h,rfl⟩
 simp only [List.cons.injEq,PV.v.injEq,Value.int.injEq,true_and,and_true] at h
 rw [Zkj h.1 h.2.1 h.2.2]
theorem toldBoot (k:Nat):ToldF 52 (EBoot k) (spec RBoot):=by
 refine Ze5 Zac Zad FO [.row,.row,.num] ?_
 intro ps qs h _
 obtain ⟨⟨fs,ms,ep⟩,ok,rfl,rfl⟩:=Zaj h
 have he:=ok.ep
 simp only at he
 have w1:IntKind.i64.wrap (ep+1)=ep+1:=wrapI _ (by omega) (by omega)
 refine ⟨_,_,_,_,_,_,Zai tabO,bt,fun w FP=>?_,?_⟩
 ·simp [-Zae,Zab,Zaa,Base.ev,SX.ev,evs,Value.oneCell',binPV,w1,r_min]
 ·simp [evs,SX.ev,binPV,w1,r_min,bootS]
def RNew (ps qs:List PV):Prop:=ps=[]/\qs=pSt newS
theorem fNew:∀ ps q1 q2,RNew ps q1->RNew ps q2->q1=q2:=by
 rintro ps q1 q2 ⟨_,rfl⟩ ⟨_,rfl⟩;rfl
theorem toldNew (k:Nat):ToldF 45 (ENew k) (spec RNew):=by
 refine Ze5 Zac Zad FO [] ?_
 intro ps qs h _
 obtain ⟨rfl,rfl⟩:=Zaj h
 refine ⟨_,_,_,_,_,_,Zai tabO,nw,fun w FP=>?_,?_⟩
 ·simp
 ·rfl

def Zxk (ps qs:List PV):Prop:=∃ (s:StM) (c seq file:Int) (l:List (Int × ByteArray)),StOk s/\-9223372036854775808<=c/\c<=9223372036854775807/\-9223372036854775808<=file/\file<=9223372036854775807/\l.length<=1000000/\(∀ w ∈ l,-9223372036854775808<=w.1/\w.1<=9223372036854775807/\w.2.size<=1000000)/\ps=pSt s++[pI c,pI seq,pI file,pRow encW l]/\qs=pSt (Zdp s c seq file l).1++pMk (Zdp s c seq file l).2
theorem fFlush:∀ ps q1 q2,Zxk ps q1->Zxk ps q2->q1=q2:=by
 rintro ps q1 q2 ⟨s,c,seq,file,l,_,_,_,_,_,_,_,rfl,rfl⟩ ⟨s',c',seq',file',l',_,_,_,_,_,_,_,h,rfl⟩
 simp only [List.cons_append,List.nil_append,List.cons.injEq,PV.v.injEq,Value.int.injEq,Value.string.injEq,true_and,and_true] at h
 obtain ⟨h1,h2,h3,rfl,rfl,rfl,h4⟩:=h
 rw [Zkj h1 h2 h3,fil.pRow_inj Zvo h4]
theorem cutU:flU=flU.take 6++.block (Zao (nth flU 6)) (.loop (Zak (nth flU 6))) :: flU.drop 7:=by kernel_rfl
abbrev stU (fs:List FileM) (ms:List MarkM) (ep c seq file:Int) (l:List (Int × ByteArray)) (b:Bool) (i:Nat):List PV:=[pI c,pI file,pRow encW l,pB b,pI (i:Int),pRow encF fs,pRow encM ms,pI ep,pI 0,pI 0,pI 0,pI 0,pI 0,pI seq,pI 0,pI 0,pI 0]
set_option maxHeartbeats 4000000 in
theorem toldFlush (k:Nat):ToldF 49 (Zqr k) (spec Zxk):=by
 refine Zek FO _ (Zar Tryz.prog 49) Tryz.func49 (by kernel_rfl) shU (by kernel_rfl) ?_ ?_
 ·intro ps qs h
  obtain ⟨s,c,seq,file,l,_,_,_,_,_,_,_,rfl,rfl⟩:=Zaj h
  exact Zbd rfl
 ·intro C ps qs hF h a w hsh
  obtain ⟨⟨fs,ms,ep⟩,c,seq,file,l,ok,hc1,hc2,hf1,hf2,hl,hwf,rfl,rfl⟩:=Zaj h
  have hfl:fs.length<=1000000:=ok.fl
  have hml:ms.length<=1000000:=ok.ml
  show wpL Tryz.prog flU _ a w
  have fin:∀ (s':StM) (m:MarkM),Zdp ⟨fs,ms,ep⟩ c seq file l=(s',m)->∀ qs a1 w1,qs=pSt s'++pMk m->Zah C shUR qs a1 w1->(AX.ret=.normal->wpL Tryz.prog [] (fun e a' w'=>(e=.normal \/ e=.ret)/\∃ sh' ps' es,Zah C sh' ps' a' w'/\resTo Tryz.prog Tryz.f49 sh' (Zqr k)=some es/\evs (fun i=>ps'[i]?) FO es=some (pSt (Zdp ⟨fs,ms,ep⟩ c seq file l).1++pMk (Zdp ⟨fs,ms,ep⟩ c seq file l).2)) a1 w1)/\(AX.ret ≠ .normal->(AX.ret.to=.normal \/ AX.ret.to=.ret)/\∃ sh' ps' es,Zah C sh' ps' a1 w1/\resTo Tryz.prog Tryz.f49 sh' (Zqr k)=some es/\evs (fun i=>ps'[i]?) FO es=some (pSt (Zdp ⟨fs,ms,ep⟩ c seq file l).1++pMk (Zdp ⟨fs,ms,ep⟩ c seq file l).2)):=by
   rintro s' m hq qs a1 w1 rfl h1
   exact ⟨nofun,fun _=>⟨.inr rfl,shUR,_,[SX.var 0,SX.var 1,SX.var 2,SX.var 3,SX.var 4,SX.var 5,SX.var 6],h1,by kernel_rfl,by rw [hq];rfl⟩⟩
  have e4:FO 4 [pRow encF fs,pRow encM ms,pI ep,pI c,pI seq,pI 2,pI 0,pI 0,pI 0,pS ⟨⟨[]⟩⟩,pI 0,pS ⟨⟨[]⟩⟩]=some (pSt (Za9 ⟨fs,ms,ep⟩ c (seq,2,0,0) 0 f00)++pMk (seq,2,0,0)):=FO4 hfl hml hc1 hc2 (by omega)
  have hqn:isF ⟨fs,ms,ep⟩ file=false->Zdp ⟨fs,ms,ep⟩ c seq file l=(Za9 ⟨fs,ms,ep⟩ c (seq,2,0,0) 0 f00,(seq,2,0,0)):=fun h=>by simp [Zdp,h]
  by_cases d1:1<=file
  ·by_cases d2:file<=fs.length
   ·obtain ⟨j,hj,rfl,hg,hFj⟩:=isF_yes (ms:=ms) (ep:=ep) d1 d2
    obtain ⟨cn,cv,cb⟩:=cellF fs j hj
    obtain ⟨v1,v2,v3⟩:=ok.fv _ (List.getElem_mem hj)
    have w1:IntKind.i64.wrap (j:Int)=(j:Int):=wrapI _ (by omega) (by omega)
    have i1:=Zaq encF fs j 3 3 .i64 rfl hj (by decide)
    have i2:=Zaq encF fs j 3 1 .i64 rfl hj (by decide)
    by_cases hn:fs[j].1.toList=[]
    ·have hF':isF ⟨fs,ms,ep⟩ ((j:Int)+1)=false:=by rw [hFj,hn];simp [e0]
     have hq:=hqn hF'
     rw [<- List.append_nil flU]
     generalize fs[j].1=nm at *
     refine Zag Zad Zac (Zai _) u110 hsh ?_ (fun qs a1 w1 hq1 h1=>fin _ _ hq qs a1 w1 (by simp [evs,SX.ev,hF,e4] at hq1;exact hq1.symm) h1)
     simp [-Zae,Zab,Zaa,Base.ev,SX.ev,evs,Value.oneCell',hF,Zaf,binPV,e4,w1,i1,i2,cn,hn,hj,z4]
     all_goals omega
    ·have hF':isF ⟨fs,ms,ep⟩ ((j:Int)+1)=true:=by
      rw [hFj]
      simpa [e0] using hn
     have post:∀ a w,Zah C shUl (stU fs ms ep c seq ((j:Int)+1) l (okWs l) l.length) a w->wpL Tryz.prog (flU.drop 7) (fun e a' w'=>(e=.normal \/ e=.ret)/\∃ sh' ps' es,Zah C sh' ps' a' w'/\resTo Tryz.prog Tryz.f49 sh' (Zqr k)=some es/\evs (fun i=>ps'[i]?) FO es=some (pSt (Zdp ⟨fs,ms,ep⟩ c seq ((j:Int)+1) l).1++pMk (Zdp ⟨fs,ms,ep⟩ c seq ((j:Int)+1) l).2)) a w:=by
      intro a w hin
      rw [<- List.append_nil (flU.drop 7)]
      cases hb:okWs l with
      | false =>
       rw [hb] at hin
       have e5:FO 4 [pRow encF fs,pRow encM ms,pI ep,pI c,pI seq,pI 1,pI 0,pI 0,pI 0,pS ⟨⟨[]⟩⟩,pI 0,pS ⟨⟨[]⟩⟩]=some (pSt (Za9 ⟨fs,ms,ep⟩ c (seq,1,0,0) 0 f00)++pMk (seq,1,0,0)):=FO4 hfl hml hc1 hc2 (by omega)
       have hq:Zdp ⟨fs,ms,ep⟩ c seq ((j:Int)+1) l=(Za9 ⟨fs,ms,ep⟩ c (seq,1,0,0) 0 f00,(seq,1,0,0)):=by simp [Zdp,hF',hb]
       refine Zag Zad Zac (Zai _) w0 hin ?_ (fun qs a1 w1 hq1 h1=>fin _ _ hq qs a1 w1 (by simp [evs,SX.ev,hF,e5] at hq1;exact hq1.symm) h1)
       simp [-Zae,Zab,Zaa,Base.ev,SX.ev,evs,Value.oneCell',hF,Zaf,binPV,e5,z4]
      | true =>
       rw [hb] at hin
       have hlen:l.length<=5:=by
        simp only [okWs,Bool.and_eq_true,decide_eq_true_eq] at hb
        exact hb.1.2
       have e6:=FO6 (b:=fs[j].2.2) (ws:=l) v3 (by omega) hwf
       have w2:IntKind.i64.wrap (fs[j].2.1+1)=fs[j].2.1+1:=wrapI _ (by omega) (by omega)
       have hq:Zdp ⟨fs,ms,ep⟩ c seq ((j:Int)+1) l=(Za9 ⟨fs,ms,ep⟩ c (seq,0,(j:Int)+1,(Zej fs[j] l).2.1) ((j:Int)+1) (Zej fs[j] l),(seq,0,(j:Int)+1,(Zej fs[j] l).2.1)):=by simp only [Zdp,hF',hb,if_true,hg]
       have e5:FO 4 [pRow encF fs,pRow encM ms,pI ep,pI c,pI seq,pI 0,pI ((j:Int)+1),pI (min (fs[j].2.1+1) 1073741824),pI ((j:Int)+1),pS fs[j].1,pI (min (fs[j].2.1+1) 1073741824),pS (bs (allW fs[j].2.2.data.toList l))]=some (pSt (Za9 ⟨fs,ms,ep⟩ c (seq,0,(j:Int)+1,(Zej fs[j] l).2.1) ((j:Int)+1) (Zej fs[j] l))++pMk (seq,0,(j:Int)+1,(Zej fs[j] l).2.1)):=FO4 hfl hml hc1 hc2 (by omega)
       have hm2:(Zej fs[j] l).2.1=min (fs[j].2.1+1) 1073741824:=rfl
       have rm:=r_min (fs[j].2.1+1) 1073741824
       rw [hm2] at hq e5
       generalize Za9 ⟨fs,ms,ep⟩ c (seq,0,(j:Int)+1,min (fs[j].2.1+1) 1073741824) ((j:Int)+1) (Zej fs[j] l)=s' at *
       generalize bs (allW fs[j].2.2.data.toList l)=body at *
       generalize min (fs[j].2.1+1) 1073741824=mv at *
       generalize fs[j]=f at *
       refine Zag Zad Zac (Zai _) sta.w1 hin ?_ (fun qs a1 w1' hq1 h1=>fin _ _ hq qs a1 w1' (by simp [evs,SX.ev,hF,binPV,w1,w2,rm,cn,cv,cb,e6,e5] at hq1;exact hq1.symm) h1)
       simp [-Zae,Zab,Zaa,Base.ev,SX.ev,evs,Value.oneCell',hF,Zaf,binPV,w1,w2,rm,i1,cn,cv,cb,e6,e5,z4,z6]
     have loop:∀ b0 a w,b0=(decide (1<=l.length) && decide (l.length<=5))->Zah C shUl (stU fs ms ep c seq ((j:Int)+1) l b0 0) a w->wpL Tryz.prog (.block (Zao (nth flU 6)) (.loop (Zak (nth flU 6))) :: flU.drop 7) (fun e a' w'=>(e=.normal \/ e=.ret)/\∃ sh' ps' es,Zah C sh' ps' a' w'/\resTo Tryz.prog Tryz.f49 sh' (Zqr k)=some es/\evs (fun i=>ps'[i]?) FO es=some (pSt (Zdp ⟨fs,ms,ep⟩ c seq ((j:Int)+1) l).1++pMk (Zdp ⟨fs,ms,ep⟩ c seq ((j:Int)+1) l).2)) a w:=by
      intro b0 a w hb0 hin
      refine Zau (fun q a w=>∃ i,i<=l.length/\q=l.length - i/\Zah C shUl (stU fs ms ep c seq ((j:Int)+1) l (b0 && (l.take i).all mayW) i) a w) ?_ (n:=l.length) ⟨0,by omega,by omega,by simpa using hin⟩
      rintro q a w ⟨i,hi,rfl,hin⟩
      show wpL Tryz.prog lpU _ a w
      rw [<- List.append_nil lpU]
      by_cases hlt:i < l.length
      ·obtain ⟨c0',c1'⟩:=cellW2 l i hlt
       obtain ⟨y1,y2,y3⟩:=hwf _ (List.getElem_mem hlt)
       have ix:=Zaq encW l i 2 2 .i64 rfl hlt (by decide)
       have v3:IntKind.i64.wrap ((i:Int)+1)=(i:Int)+1:=wrapI _ (by omega) (by omega)
       have e5:=FO5 (o:=l[i].1) (s:=l[i].2) y1 y2 (by omega)
       have hstep:(l.take (i+1)).all mayW=((l.take i).all mayW && mayW l[i]):=by
        rw [List.take_add_one,List.getElem?_eq_getElem hlt]
        simp only [List.all_append,Option.toList_some,List.all_cons,List.all_nil,Bool.and_true]
       rw [show (l[i].1,l[i].2)=l[i] from rfl] at e5
       have done:∀ b,b=(b0 && (l.take (i+1)).all mayW)->∀ qs a1 w1,qs=stU fs ms ep c seq ((j:Int)+1) l b (i+1)->Zah C shUl qs a1 w1->∃ n',n' < l.length - i/\∃ i',i'<=l.length/\n'=l.length - i'/\Zah C shUl (stU fs ms ep c seq ((j:Int)+1) l (b0 && (l.take i').all mayW) i') a1 w1:=fun b hb qs a1 w1 hq h=>⟨l.length - (i+1),by omega,i+1,by omega,rfl,by rw [<- hb,<- hq];exact h⟩
       rw [hstep] at done
       generalize (l.take i).all mayW=t at *
       cases hbt:(b0 && t) with
       | false =>
        rw [hbt] at hin
        refine Zag Zad Zac (Zai _) l0 hin ?_ (fun qs a1 w1 hq h1=>⟨fun _=>.inl ⟨rfl,done false (by rw [<- Bool.and_assoc,hbt];rfl) qs a1 w1 (by simp [evs,SX.ev,binPV,v3] at hq;exact hq.symm) h1⟩,fun h=>absurd rfl h⟩)
        simp [-Zae,Zab,Zaa,Base.ev,SX.ev,evs,Value.oneCell',hF,Zaf,binPV,v3,hlt]
       | true =>
        rw [hbt] at hin
        cases hm:mayW l[i] with
        | false =>
         rw [hm] at e5 done
         generalize l[i]=y at *
         refine Zag Zad Zac (Zai _) l10 hin ?_ (fun qs a1 w1 hq h1=>⟨fun _=>.inl ⟨rfl,done false (by simp) qs a1 w1 (by simp [evs,SX.ev,binPV,v3] at hq;exact hq.symm) h1⟩,fun h=>absurd rfl h⟩)
         simp [-Zae,Zab,Zaa,Base.ev,SX.ev,evs,Value.oneCell',hF,Zaf,binPV,v3,hlt,ix,c0',c1',e5,z5]
        | true =>
         rw [hm] at e5 done
         generalize l[i]=y at *
         refine Zag Zad Zac (Zai _) l11 hin ?_ (fun qs a1 w1 hq h1=>⟨fun _=>.inl ⟨rfl,done true (by rw [<- Bool.and_assoc,hbt];rfl) qs a1 w1 (by simp [evs,SX.ev,binPV,v3] at hq;exact hq.symm) h1⟩,fun h=>absurd rfl h⟩)
         simp [-Zae,Zab,Zaa,Base.ev,SX.ev,evs,Value.oneCell',hF,Zaf,binPV,v3,hlt,ix,c0',c1',e5,z5]
      ·have hie:i=l.length:=by omega
       subst hie
       have hall:(b0 && (l.take l.length).all mayW)=okWs l:=by rw [List.take_length,hb0];rfl
       rw [hall] at hin
       generalize okWs l=bb at hin post
       refine Zag Zad Zac (Zai _) lex hin ?_ ?_
       ·simp [-Zae,Zab,Zaa,Base.ev,SX.ev,evs,Value.oneCell',Zaf,binPV]
       ·intro qs a1 w1 hq h1
        refine ⟨nofun,fun _=>.inr (.inl ⟨by rw [show Zao (nth flU 6)=0 by kernel_rfl];rfl,?_⟩)⟩
        simp [evs,SX.ev] at hq
        subst hq
        exact post a1 w1 h1
     rw [cutU]
     generalize fs[j].1=nm at *
     by_cases h1:1<=l.length
     ·by_cases h5:l.length<=5
      ·refine Zag Zad Zac (Zai _) v11 hsh ?_ (fun qs a1 w1 hq h2=>⟨fun _=>loop true a1 w1 (by simp [h1,h5]) (by simp [evs,SX.ev] at hq;subst hq;exact h2),fun h=>absurd rfl h⟩)
       simp [-Zae,Zab,Zaa,Base.ev,SX.ev,evs,Value.oneCell',hF,Zaf,binPV,w1,i1,i2,cn,hn,hj]
       all_goals omega
      ·refine Zag Zad Zac (Zai _) v10 hsh ?_ (fun qs a1 w1 hq h2=>⟨fun _=>loop false a1 w1 (by simp [h5]) (by simp [evs,SX.ev] at hq;subst hq;exact h2),fun h=>absurd rfl h⟩)
       simp [-Zae,Zab,Zaa,Base.ev,SX.ev,evs,Value.oneCell',hF,Zaf,binPV,w1,i1,i2,cn,hn,hj]
       all_goals omega
     ·refine Zag Zad Zac (Zai _) v0 hsh ?_ (fun qs a1 w1 hq h2=>⟨fun _=>loop false a1 w1 (by simp [h1]) (by simp [evs,SX.ev] at hq;subst hq;exact h2),fun h=>absurd rfl h⟩)
      simp [-Zae,Zab,Zaa,Base.ev,SX.ev,evs,Value.oneCell',hF,Zaf,binPV,w1,i1,i2,cn,hn,hj]
      all_goals omega
   ·have hq:=hqn (by simp [isF,d2])
    rw [<- List.append_nil flU]
    refine Zag Zad Zac (Zai _) u10 hsh ?_ (fun qs a1 w1 hq1 h1=>fin _ _ hq qs a1 w1 (by simp [evs,SX.ev,hF,e4] at hq1;exact hq1.symm) h1)
    simp [-Zae,Zab,Zaa,Base.ev,SX.ev,evs,Value.oneCell',hF,Zaf,binPV,e4,z4]
    all_goals omega
  ·have hq:=hqn (by simp [isF,d1])
   rw [<- List.append_nil flU]
   refine Zag Zad Zac (Zai _) u0 hsh ?_ (fun qs a1 w1 hq1 h1=>fin _ _ hq qs a1 w1 (by simp [evs,SX.ev,hF,e4] at hq1;exact hq1.symm) h1)
   simp [-Zae,Zab,Zaa,Base.ev,SX.ev,evs,Value.oneCell',hF,Zaf,binPV,e4,z4]
   all_goals omega
end Go.Proofs.YtefkakjegdjojaaGreat.sta
