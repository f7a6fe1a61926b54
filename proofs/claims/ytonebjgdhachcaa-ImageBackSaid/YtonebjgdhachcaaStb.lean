/- What lasts behind each deed (the document's Zbz): opened, flushed, gone. -/
import Derived.Test.YtonebjgdhachcaaSta
namespace Go.Proofs.Ytonebjgdhachcaa.sta
open Go Go.RowKit eng SX Fact fil fileFronts dirs pck may
open fileFronts
open pck hiding F F20 F21
open dirs hiding shR shRl shRR flR lpR cutR f0 f1 f2 f3 m0 m1 m2
open may hiding m1 m2 m3 m4 r1 r2 r3 r4 r5
set_option linter.unusedVariables false
set_option linter.unusedSimpArgs false
set_option maxRecDepth 1000000

def EOpen (k:Nat):FnE:={ k:=k,ins:=[some 3,none,none,none],leaks:=[],outs:=[some 3,some 4],kinds:=[.row,.row,.num,.num,.num,.num,.num] }
def Zgw (k:Nat):FnE:={ k:=k,ins:=[some 3,none,none,none,none],leaks:=[],outs:=[some 3,some 4],kinds:=[.row,.row,.num,.num,.num,.num,.num] }
def EBoot (k:Nat):FnE:={ k:=k,ins:=[some 3],leaks:=[true,true,true],outs:=[some 3],kinds:=[.row,.row,.num] }
def ENew (k:Nat):FnE:={ k:=k,ins:=[],leaks:=[],outs:=[some 3],kinds:=[.row,.row,.num] }
def tabO (f:FuncId):Option FnE:=cond (Nat.beq f 48) (some (EName 1)) (cond (Nat.beq f 50) (some (EFind 2)) (cond (Nat.beq f 51) (some (ERoom 3)) (cond (Nat.beq f 49) (some (Zcv 4)) (cond (Nat.beq f 56) (some (EMay 5)) (cond (Nat.beq f 57) (some (EAll 6)) none)))))
def sbox (b:Bool):BoxT:=⟨30,0,false,[.leaf,.leaf,.leaf],none,false⟩
def zbox:BoxT:=⟨30,0,false,[.nil,.nil,.leaf],none,false⟩
def mbox:BoxT:=⟨40,0,false,[.leaf,.leaf,.leaf,.leaf],none,false⟩
def shU:Shape:=⟨[(0,.agg 3),(1,.leaf),(2,.leaf),(3,.leaf),(4,.leaf)],[],[some false,some false,none,none,none,none,some false],91,16⟩
def shUl:Shape:=⟨[(1,.leaf),(3,.leaf),(4,.leaf),(5,.ptr 0 0 0 0),(10,.ptr 1 0 0 0),(11,.ptr 2 0 0 0),(12,.ptr 3 0 0 0),(13,.leaf),(14,.leaf)],[sbox true,zbox,mbox,mbox],[none,none,some false,none,none,some false,some false,none,none,none,none,none,none,none,none,none,none],91,16⟩
def shUR:Shape:=⟨[(10,.ptr 0 0 0 0),(11,.ptr 1 0 0 0)],[sbox true,mbox],[some true,some true,none,none,none,none,none],91,16⟩
noncomputable def lpU:=flat (Zak (nth (flat (Zar Try.prog 16)) 6))
noncomputable def flU:=flat (Zar Try.prog 16)
@[simp] def zStb1:List SX:=[.var 0,.var 1,.var 2,.var 3,.var 4,.con (.int .i64 2),.con (.int .i64 0),.con (.int .i64 0),.con (.int .i64 0),.con (.string { data:={ toList:=[] } }),.con (.int .i64 0),.con (.string { data:={ toList:=[] } })]
@[simp] def zStb2:List SX:=[.var 5,.var 6,.var 7,.var 0,.var 13,.var 14,.var 1,rop ROp.min2 [.bin .add (.cell (.var 5) (.bin .sub (.var 1) (.con (.int .i64 1))) 3 1) (.con (.int .i64 1)),.con (.int .i64 1073741824)],.var 1,.cell (.var 5) (.bin .sub (.var 1) (.con (.int .i64 1))) 3 0,rop ROp.min2 [.bin .add (.cell (.var 5) (.bin .sub (.var 1) (.con (.int .i64 1))) 3 1) (.con (.int .i64 1)),.con (.int .i64 1073741824)],.fn 6 [.cell (.var 5) (.bin .sub (.var 1) (.con (.int .i64 1))) 3 2,.var 2] 0]
@[simp] def zStb3:SX:=.con (.string { data:={ toList:=[] } })
@[simp] def zStb4:SX:=.con (.int .i64 0)
@[simp] def zStb5:List SX:=[.var 0,.var 1,.var 2,.var 3,.var 4,zStb4,.fn 2 [.var 0,.var 5] 0,.cell (.var 0) (.bin .sub (.fn 2 [.var 0,.var 5] 0) (.con (.int .i64 1))) 3 1,zStb4,zStb3,zStb4,zStb3]
@[simp] def zStb6:SX:=.con (.int .i64 1)
@[simp] def zStb7:List SX:=[.var 5,.var 6,.var 7,.var 0,.var 13,zStb6,.var 15,.var 16,zStb4,zStb3,zStb4,zStb3]
@[simp] def zStb8:List SX:=[.var 0,.var 1,.var 2,.var 3,.var 4,zStb4,.fn 3 [.var 0] 0,zStb6,.fn 3 [.var 0] 0,.var 5,zStb6,zStb3]
@[simp] def zStb9:List SX:=[.var 0,.var 1,.var 2,.var 3,.var 4,.con (.int .i64 3),zStb4,zStb4,zStb4,zStb3,zStb4,zStb3]
@[simp] def Zep:List SX:=[.var 0,.var 1,.var 2,.var 3,.var 4,zStb4,.var 5,zStb4,.var 5,zStb3,zStb4,zStb3]
@[simp] def Zeo:List SX:=[.var 0,.var 1,.var 2,.var 3,.var 4,zStb6,zStb4,zStb4,zStb4,zStb3,zStb4,zStb3]
@[simp] def Zj0:SX:=.cell (.var 0) (.bin .sub (.var 5) zStb6) 3 0
@[simp] def Zle:List SX:=[.fn 4 zStb1 0,.fn 4 zStb1 1,.fn 4 zStb1 2,.fn 4 zStb1 3,.fn 4 zStb1 4,.fn 4 zStb1 5,.fn 4 zStb1 6]
@[simp] def Zfl:SX:=.bin .leq (.var 5) (.len (.var 0))
@[simp] def Zen:SX:=.bin .geq (.var 5) zStb6
@[simp] def Zi7:SX:=.bin .sub (.var 5) zStb6
@[simp] def Zi6:SX:=.bin .lss (.var 4) (.len (.var 2))
@[simp] def Zhg:SX:=.bin .neq Zj0 zStb3
@[simp] def zStb19:List SX:=[.var 0,.var 1,.var 2,.con (.bool false),.bin .add (.var 4) zStb6,.var 5,.var 6,.var 7,.var 8,.var 9,.var 10,.var 11,.var 12,.var 13,.var 14,.var 15,.var 16]
@[simp] def Zgp:SX:=.bin .sub (.var 1) zStb6
@[simp] def Zpk:List SX:=[.cell (.var 2) (.var 4) 2 0,.cell (.var 2) (.var 4) 2 1]
@[simp] def zStb22:List SX:=[.var 3,.var 5,.var 6,.con (.bool false),zStb4,.var 0,.var 1,.var 2,zStb4,zStb4,zStb4,zStb4,zStb4,.var 4,zStb4,zStb4,zStb4]
@[simp] def Zld:SX:=.bin .geq (.len (.var 6)) zStb6
@[simp] def Zgo:List SX:=[.var 0,.var 5]
@[simp] def Zpj:SX:=.bin .leq (.len (.var 6)) (.con (.int .i64 5))
@[simp] def Zlc:Fact:=.ok (.bin .add (.var 4) zStb6)
@[simp] def Zi5:Fact:=.is Zen (.bool true)
@[simp] def Zhf:Fact:=.ok (.fn 4 zStb1 2)
@[simp] def Zhe:Fact:=.ok (.fn 4 zStb1 3)
@[simp] def Zhd:Fact:=.ok (.fn 4 zStb1 4)
@[simp] def Zhc:Fact:=.ok (.fn 4 zStb1 5)
@[simp] def Zhb:Fact:=.ok (.fn 4 zStb1 6)
@[simp] def Zi4:Fact:=.ok (.len (.var 0))
@[simp] def Zlb:Fact:=.fn 49 (Zcv 4) zStb1
@[simp] def Zla:Fact:=.idx (.var 0) Zi7 3 3
@[simp] def Zk9:Fact:=.idx (.var 0) Zi7 3 1
@[simp] def Zk8:Fact:=.is Zfl (.bool true)
@[simp] def Zpi:SX:=.bin .sub (.fn 2 Zgo 0) zStb6
@[simp] def Zbn:Fact:=.ok zStb4
@[simp] def Zfe:Fact:=.ok (.var 2)
@[simp] def Zfd:Fact:=.ok (.var 3)
@[simp] def Zfc:Fact:=.ok (.var 4)
@[simp] def zStb43:SX:=rop ROp.min2 [.bin .add (.var 2) zStb6,.con (.int .i64 1073741824)]
@[simp] def Zfk:Fact:=.ok (.var 5)
@[simp] def Zph:Fact:=.idx (.var 2) (.var 4) 2 2
@[simp] def Zsa:Fact:=.is (.fn 1 [.var 5] 0) (.bool true)
@[simp] def Zpg:Fact:=.fn 48 (EName 1) [.var 5]
@[simp] def Zpf:Fact:=.ok (.con (.bool false))
@[simp] def Zne:Fact:=.ok (.len (.var 6))
@[simp] def Zpe:Fact:=.is Zhg (.bool true)
theorem o0:runTo Try.prog (orcFn tabO) 10000 14 (EOpen 9) [.row,.row,.num,.num,.num,.num] [0] hApp=some ([Zfe,Zfd,Zfc,Zfk,Zpg,.is (.fn 1 [.var 5] 0) (.bool false),.fn 49 (Zcv 4) Zeo,.ok (.fn 4 Zeo 2),.ok (.fn 4 Zeo 3),.ok (.fn 4 Zeo 4),.ok (.fn 4 Zeo 5),.ok (.fn 4 Zeo 6)],[.fn 4 Zeo 0,.fn 4 Zeo 1,.fn 4 Zeo 2,.fn 4 Zeo 3,.fn 4 Zeo 4,.fn 4 Zeo 5,.fn 4 Zeo 6]):=by kernel_rfl
theorem o11:runTo Try.prog (orcFn tabO) 10000 14 (EOpen 9) [.row,.row,.num,.num,.num,.num] [1,1] hApp=some ([Zfe,Zfd,Zfc,Zfk,Zpg,Zsa,.fn 50 (EFind 2) Zgo,.ok (.fn 2 Zgo 0),.is (.fn 2 Zgo 1) (.bool true),.ok Zpi,.idx (.var 0) Zpi 3 3,.idx (.var 0) Zpi 3 2,.ok (.cell (.var 0) Zpi 3 1),.fn 49 (Zcv 4) zStb5,.ok (.fn 4 zStb5 2),.ok (.fn 4 zStb5 3),.ok (.fn 4 zStb5 4),.ok (.fn 4 zStb5 5),.ok (.fn 4 zStb5 6)],[.fn 4 zStb5 0,.fn 4 zStb5 1,.fn 4 zStb5 2,.fn 4 zStb5 3,.fn 4 zStb5 4,.fn 4 zStb5 5,.fn 4 zStb5 6]):=by kernel_rfl
theorem o100:runTo Try.prog (orcFn tabO) 10000 14 (EOpen 9) [.row,.row,.num,.num,.num,.num] [1,0,0] hApp=some ([Zfe,Zfd,Zfc,Zfk,Zpg,Zsa,.fn 50 (EFind 2) Zgo,.ok (.fn 2 Zgo 0),.is (.fn 2 Zgo 1) (.bool false),.fn 51 (ERoom 3) [.var 0],.ok (.fn 3 [.var 0] 0),.is (.fn 3 [.var 0] 1) (.bool false),.fn 49 (Zcv 4) zStb9,.ok (.fn 4 zStb9 2),.ok (.fn 4 zStb9 3),.ok (.fn 4 zStb9 4),.ok (.fn 4 zStb9 5),.ok (.fn 4 zStb9 6)],[.fn 4 zStb9 0,.fn 4 zStb9 1,.fn 4 zStb9 2,.fn 4 zStb9 3,.fn 4 zStb9 4,.fn 4 zStb9 5,.fn 4 zStb9 6]):=by kernel_rfl
theorem o101:runTo Try.prog (orcFn tabO) 10000 14 (EOpen 9) [.row,.row,.num,.num,.num,.num] [1,0,1] hApp=some ([Zfe,Zfd,Zfc,Zfk,Zpg,Zsa,.fn 50 (EFind 2) Zgo,.ok (.fn 2 Zgo 0),.is (.fn 2 Zgo 1) (.bool false),.fn 51 (ERoom 3) [.var 0],.ok (.fn 3 [.var 0] 0),.is (.fn 3 [.var 0] 1) (.bool true),.fn 49 (Zcv 4) zStb8,.ok (.fn 4 zStb8 2),.ok (.fn 4 zStb8 3),.ok (.fn 4 zStb8 4),.ok (.fn 4 zStb8 5),.ok (.fn 4 zStb8 6)],[.fn 4 zStb8 0,.fn 4 zStb8 1,.fn 4 zStb8 2,.fn 4 zStb8 3,.fn 4 zStb8 4,.fn 4 zStb8 5,.fn 4 zStb8 6]):=by kernel_rfl
theorem g0:runTo Try.prog (orcFn tabO) 10000 19 (EOpen 9) [.row,.row,.num,.num,.num,.num] [0] hApp=some ([Zfe,Zfd,Zfc,Zfk,.ok Zen,.is Zen (.bool false),Zlb,Zhf,Zhe,Zhd,Zhc,Zhb],Zle):=by kernel_rfl
theorem g10:runTo Try.prog (orcFn tabO) 10000 19 (EOpen 9) [.row,.row,.num,.num,.num,.num] [1,0] hApp=some ([Zfe,Zfd,Zfc,Zfk,.ok Zen,Zi5,Zi4,.ok Zfl,.is Zfl (.bool false),Zlb,Zhf,Zhe,Zhd,Zhc,Zhb],Zle):=by kernel_rfl
theorem g110:runTo Try.prog (orcFn tabO) 10000 19 (EOpen 9) [.row,.row,.num,.num,.num,.num] [1,1,0] hApp=some ([Zfe,Zfd,Zfc,Zfk,.ok Zen,Zi5,Zi4,.ok Zfl,Zk8,.ok Zi7,Zla,Zk9,.ok Zj0,.ok Zhg,.is Zhg (.bool false),Zlb,Zhf,Zhe,Zhd,Zhc,Zhb],Zle):=by kernel_rfl
theorem g111:runTo Try.prog (orcFn tabO) 10000 19 (EOpen 9) [.row,.row,.num,.num,.num,.num] [1,1,1] hApp=some ([Zfe,Zfd,Zfc,Zfk,.ok Zen,Zi5,Zi4,.ok Zfl,Zk8,.ok Zi7,Zla,Zk9,.ok Zj0,.ok Zhg,Zpe,.fn 49 (Zcv 4) Zep,.ok (.fn 4 Zep 2),.ok (.fn 4 Zep 3),.ok (.fn 4 Zep 4),.ok (.fn 4 Zep 5),.ok (.fn 4 Zep 6)],[.fn 4 Zep 0,.fn 4 Zep 1,.fn 4 Zep 2,.fn 4 Zep 3,.fn 4 Zep 4,.fn 4 Zep 5,.fn 4 Zep 6]):=by kernel_rfl
theorem bt:runTo Try.prog (orcFn tabO) 10000 22 (EBoot 9) [.row,.row,.num] []=some ([Zfe,.ok (.bin .add (.var 2) zStb6),.ok zStb43],[.var 0,.var 1,zStb43]):=by kernel_rfl
theorem nw:runTo Try.prog (orcFn tabO) 10000 27 (ENew 9) [] []=some ([],[.lit 6 [zStb3,zStb4,zStb3,zStb3,zStb4,zStb3,zStb3,zStb4,zStb3,zStb3,zStb4,zStb3,zStb3,zStb4,zStb3,zStb3,zStb4,zStb3],.lit 3 [zStb4,zStb4,zStb4,zStb4,zStb4,zStb4,zStb4,zStb4,zStb4,zStb4,zStb4,zStb4],zStb4]):=by kernel_rfl
theorem u0:segTo Try.prog (orcFn tabO) 10000 flU shU [0] shUR [(4,0),(5,0)]=some (.ret,[.ok Zen,.is Zen (.bool false),Zlb,Zhf,Zhe,Zhd,Zhc,Zhb,Zhf,Zhe,Zhd,Zhc,Zhb],Zle):=by kernel_rfl
theorem u10:segTo Try.prog (orcFn tabO) 10000 flU shU [1,0] shUR [(4,0),(5,0)]=some (.ret,[.ok Zen,Zi5,Zi4,.ok Zfl,.is Zfl (.bool false),Zlb,Zhf,Zhe,Zhd,Zhc,Zhb,Zhf,Zhe,Zhd,Zhc,Zhb],Zle):=by kernel_rfl
theorem u110:segTo Try.prog (orcFn tabO) 10000 flU shU [1,1,0] shUR [(4,0),(5,0)]=some (.ret,[.ok Zen,Zi5,Zi4,.ok Zfl,Zk8,.ok Zi7,Zla,Zk9,.ok Zj0,.ok Zhg,.is Zhg (.bool false),Zlb,Zhf,Zhe,Zhd,Zhc,Zhb,Zhf,Zhe,Zhd,Zhc,Zhb],Zle):=by kernel_rfl
theorem v0:segTo Try.prog (orcFn tabO) 10000 (flU.take 6) shU [1,1,1,0] shUl [(3,0),(4,0),(5,0),(6,0)]=some (.normal,[.ok Zen,Zi5,Zi4,.ok Zfl,Zk8,.ok Zi7,Zla,Zk9,.ok Zj0,.ok Zhg,Zpe,Zne,.ok Zld,.is Zld (.bool false),Zfd,Zfk,Zpf,Zbn,Zfe,Zbn,Zbn,Zbn,Zbn,Zbn,Zfc,Zbn,Zbn,Zbn],zStb22):=by kernel_rfl
theorem v10:segTo Try.prog (orcFn tabO) 10000 (flU.take 6) shU [1,1,1,1,0] shUl [(3,0),(4,0),(5,0),(6,0)]=some (.normal,[.ok Zen,Zi5,Zi4,.ok Zfl,Zk8,.ok Zi7,Zla,Zk9,.ok Zj0,.ok Zhg,Zpe,Zne,.ok Zld,.is Zld (.bool true),Zne,.ok Zpj,.is Zpj (.bool false),Zfd,Zfk,Zpf,Zbn,Zfe,Zbn,Zbn,Zbn,Zbn,Zbn,Zfc,Zbn,Zbn,Zbn],zStb22):=by kernel_rfl
theorem v11:segTo Try.prog (orcFn tabO) 10000 (flU.take 6) shU [1,1,1,1,1] shUl [(3,0),(4,0),(5,0),(6,0)]=some (.normal,[.ok Zen,Zi5,Zi4,.ok Zfl,Zk8,.ok Zi7,Zla,Zk9,.ok Zj0,.ok Zhg,Zpe,Zne,.ok Zld,.is Zld (.bool true),Zne,.ok Zpj,.is Zpj (.bool true),Zfd,Zfk,.ok (.con (.bool true)),Zbn,Zfe,Zbn,Zbn,Zbn,Zbn,Zbn,Zfc,Zbn,Zbn,Zbn],[.var 3,.var 5,.var 6,.con (.bool true),zStb4,.var 0,.var 1,.var 2,zStb4,zStb4,zStb4,zStb4,zStb4,.var 4,zStb4,zStb4,zStb4]):=by kernel_rfl
theorem lex:segTo Try.prog (orcFn tabO) 10000 lpU shUl [0] shUl [(0,0),(1,0),(2,0),(3,0)]=some (.exit 0,[.ok (.len (.var 2)),.ok Zi6,.is Zi6 (.bool false),.ok (.var 0),.ok (.var 1),Zfd,Zfc,.ok (.var 7),.ok (.var 8),.ok (.var 9),.ok (.var 10),.ok (.var 11),.ok (.var 12),.ok (.var 13),.ok (.var 14),.ok (.var 15),.ok (.var 16)],[.var 0,.var 1,.var 2,.var 3,.var 4,.var 5,.var 6,.var 7,.var 8,.var 9,.var 10,.var 11,.var 12,.var 13,.var 14,.var 15,.var 16]):=by kernel_rfl
theorem l0:segTo Try.prog (orcFn tabO) 10000 lpU shUl [1,0] shUl [(0,0),(1,0),(2,0),(3,0)]=some (.normal,[.ok (.len (.var 2)),.ok Zi6,.is Zi6 (.bool true),.is (.var 3) (.bool false),Zlc,.ok (.var 0),.ok (.var 1),Zpf,Zlc,.ok (.var 7),.ok (.var 8),.ok (.var 9),.ok (.var 10),.ok (.var 11),.ok (.var 12),.ok (.var 13),.ok (.var 14),.ok (.var 15),.ok (.var 16)],zStb19):=by kernel_rfl
theorem l10:segTo Try.prog (orcFn tabO) 10000 lpU shUl [1,1,0] shUl [(0,0),(1,0),(2,0),(3,0)]=some (.normal,[.ok (.len (.var 2)),.ok Zi6,.is Zi6 (.bool true),.is (.var 3) (.bool true),Zph,Zph,.ok (.cell (.var 2) (.var 4) 2 0),.ok (.cell (.var 2) (.var 4) 2 1),.fn 56 (EMay 5) Zpk,.is (.fn 5 Zpk 0) (.bool false),Zlc,.ok (.var 0),.ok (.var 1),Zpf,Zlc,.ok (.var 7),.ok (.var 8),.ok (.var 9),.ok (.var 10),.ok (.var 11),.ok (.var 12),.ok (.var 13),.ok (.var 14),.ok (.var 15),.ok (.var 16)],zStb19):=by kernel_rfl
theorem l11:segTo Try.prog (orcFn tabO) 10000 lpU shUl [1,1,1] shUl [(0,0),(1,0),(2,0),(3,0)]=some (.normal,[.ok (.len (.var 2)),.ok Zi6,.is Zi6 (.bool true),.is (.var 3) (.bool true),Zph,Zph,.ok (.cell (.var 2) (.var 4) 2 0),.ok (.cell (.var 2) (.var 4) 2 1),.fn 56 (EMay 5) Zpk,.is (.fn 5 Zpk 0) (.bool true),Zlc,.ok (.var 0),.ok (.var 1),.ok (.con (.bool true)),Zlc,.ok (.var 7),.ok (.var 8),.ok (.var 9),.ok (.var 10),.ok (.var 11),.ok (.var 12),.ok (.var 13),.ok (.var 14),.ok (.var 15),.ok (.var 16)],[.var 0,.var 1,.var 2,.con (.bool true),.bin .add (.var 4) zStb6,.var 5,.var 6,.var 7,.var 8,.var 9,.var 10,.var 11,.var 12,.var 13,.var 14,.var 15,.var 16]):=by kernel_rfl
theorem w0:segTo Try.prog (orcFn tabO) 10000 (flU.drop 7) shUl [0] shUR [(1,0),(2,0)]=some (.ret,[.is (.var 3) (.bool false),.fn 49 (Zcv 4) zStb7,.ok (.fn 4 zStb7 2),.ok (.fn 4 zStb7 3),.ok (.fn 4 zStb7 4),.ok (.fn 4 zStb7 5),.ok (.fn 4 zStb7 6),.ok (.fn 4 zStb7 2),.ok (.fn 4 zStb7 3),.ok (.fn 4 zStb7 4),.ok (.fn 4 zStb7 5),.ok (.fn 4 zStb7 6)],[.fn 4 zStb7 0,.fn 4 zStb7 1,.fn 4 zStb7 2,.fn 4 zStb7 3,.fn 4 zStb7 4,.fn 4 zStb7 5,.fn 4 zStb7 6]):=by kernel_rfl
theorem w1:segTo Try.prog (orcFn tabO) 10000 (flU.drop 7) shUl [1] shUR [(1,0),(2,0)]=some (.ret,[.is (.var 3) (.bool true),.ok Zgp,.idx (.var 5) Zgp 3 3,.idx (.var 5) Zgp 3 3,.ok (.cell (.var 5) Zgp 3 0),.ok (.cell (.var 5) Zgp 3 1),.ok (.cell (.var 5) Zgp 3 2),.fn 57 (EAll 6) [.cell (.var 5) Zgp 3 2,.var 2],.ok (.fn 6 [.cell (.var 5) Zgp 3 2,.var 2] 0),.ok (.bin .add (.cell (.var 5) Zgp 3 1) zStb6),.ok (rop ROp.min2 [.bin .add (.cell (.var 5) Zgp 3 1) zStb6,.con (.int .i64 1073741824)]),.fn 49 (Zcv 4) zStb2,.ok (.fn 4 zStb2 2),.ok (.fn 4 zStb2 3),.ok (.fn 4 zStb2 4),.ok (.fn 4 zStb2 5),.ok (.fn 4 zStb2 6),.ok (.fn 4 zStb2 2),.ok (.fn 4 zStb2 3),.ok (.fn 4 zStb2 4),.ok (.fn 4 zStb2 5),.ok (.fn 4 zStb2 6)],[.fn 4 zStb2 0,.fn 4 zStb2 1,.fn 4 zStb2 2,.fn 4 zStb2 3,.fn 4 zStb2 4,.fn 4 zStb2 5,.fn 4 zStb2 6]):=by kernel_rfl

@[simp] theorem kOpen (k:Nat):(EOpen k).k=k:=rfl
@[simp] theorem kFlush (k:Nat):(Zgw k).k=k:=rfl
@[simp] theorem kBoot (k:Nat):(EBoot k).k=k:=rfl
@[simp] theorem kNew (k:Nat):(ENew k).k=k:=rfl
structure StOk (s:StM):Prop where
 fl:s.files.length<=1000000
 ml:s.marks.length<=1000000
 fv:∀ f ∈ s.files,-1000000000000<=f.2.1/\f.2.1<=1000000000000/\f.2.2.size<=1000
 ep:-1000000000000<=s.epoch/\s.epoch<=1000000000000
def f00:FileM:=(e0,0,e0)
def openS (s:StM) (c seq:Int) (name:ByteArray):StM × MarkM :=
 if okN name then match s.files.findIdx? (isN name) with
  | some i=>(Za0 s c (seq,0,(i:Int)+1,(s.files.getD i f00).2.1) 0 f00,(seq,0,(i:Int)+1,(s.files.getD i f00).2.1))
  | none=>match s.files.findIdx? (isN e0) with
   | some i=>(Za0 s c (seq,0,(i:Int)+1,1) ((i:Int)+1) (name,1,e0),(seq,0,(i:Int)+1,1))
   | none=>(Za0 s c (seq,3,0,0) 0 f00,(seq,3,0,0))
 else (Za0 s c (seq,1,0,0) 0 f00,(seq,1,0,0))
def isF (s:StM) (file:Int):Bool:=decide (1<=file) && decide (file<=s.files.length) && !((s.files.getD (file.toNat - 1) f00).1.toList == e0.toList)
def goneS (s:StM) (c seq file:Int):StM × MarkM :=
 if isF s file then (Za0 s c (seq,0,file,0) file f00,(seq,0,file,0)) else (Za0 s c (seq,2,0,0) 0 f00,(seq,2,0,0))
def okWs (l:List (Int × ByteArray)):Bool:=decide (1<=l.length) && decide (l.length<=5) && l.all mayW
def Zb0 (f:FileM) (l:List (Int × ByteArray)):FileM:=(f.1,min (f.2.1+1) 1073741824,bs (allW f.2.2.data.toList l))
def Zbm (s:StM) (c seq file:Int) (l:List (Int × ByteArray)):StM × MarkM :=
 if isF s file then (if okWs l then (Za0 s c (seq,0,file,(Zb0 (s.files.getD (file.toNat - 1) f00) l).2.1) file (Zb0 (s.files.getD (file.toNat - 1) f00) l),(seq,0,file,(Zb0 (s.files.getD (file.toNat - 1) f00) l).2.1))
  else (Za0 s c (seq,1,0,0) 0 f00,(seq,1,0,0)))
 else (Za0 s c (seq,2,0,0) 0 f00,(seq,2,0,0))
def bootS (s:StM):StM:=⟨s.files,s.marks,min (s.epoch+1) 1073741824⟩
def newS:StM:=⟨List.replicate 6 f00,List.replicate 3 (0,0,0,0),0⟩
noncomputable def FO:Fns:=fun k=>match k with | 1=>spec RName | 2=>spec RFind | 3=>spec RRoom | 4=>spec Znb | 5=>spec RMay | 6=>spec RAll | _=>fun _=>none
theorem z1:ToldF 48 (EName 1) (FO 1):=toldName 1
theorem z2:ToldF 50 (EFind 2) (FO 2):=toldRefFind 2
theorem z3:ToldF 51 (ERoom 3) (FO 3):=toldRefRoom 3
theorem z4:ToldF 49 (Zcv 4) (FO 4):=toldMarked 4
theorem z5:ToldF 56 (EMay 5) (FO 5):=toldRef 5
theorem z6:ToldF 57 (EAll 6) (FO 6):=ral.told 6
theorem FO1 {s:ByteArray} (h:s.size<=9223372036854775807):FO 1 [pS s]=some [pB (okN s)]:=Zao fName ⟨s,h,rfl,rfl⟩
theorem FO2 {l:List FileM} {s:ByteArray} (h:l.length<=1000000) (hs:s.size<=9223372036854775807):FO 2 [pRow encF l,pS s]=some (ansQ (findN l s)):=Zao fFind ⟨l,s,h,hs,rfl,rfl⟩
theorem FO3 {l:List FileM} (h:l.length<=1000000):FO 3 [pRow encF l]=some (ansQ (l.findIdx? (isN e0))):=Zao fRoom ⟨l,h,rfl,rfl⟩
theorem FO4 {fs:List FileM} {ms:List MarkM} {ep c m1 m2 m3 m4 at' f2:Int} {f1 f3:ByteArray} (h1:fs.length<=1000000) (h2:ms.length<=1000000) (h3:-9223372036854775808<=c) (h4:c<=9223372036854775807) (h5:at'<=fs.length) :
  FO 4 [pRow encF fs,pRow encM ms,pI ep,pI c,pI m1,pI m2,pI m3,pI m4,pI at',pS f1,pI f2,pS f3]=some (pSt (Za0 ⟨fs,ms,ep⟩ c (m1,m2,m3,m4) at' (f1,f2,f3))++pMk (m1,m2,m3,m4)) :=
 Zao fMarked ⟨⟨fs,ms,ep⟩,c,(m1,m2,m3,m4),at',(f1,f2,f3),h1,h2,h3,h4,h5,rfl,rfl⟩
theorem FO5 {o:Int} {s:ByteArray} (h1:-9223372036854775808<=o) (h2:o<=9223372036854775807) (h3:s.size<=9223372036854775807):FO 5 [pI o,pS s]=some [pB (mayW (o,s))]:=Zao fMay ⟨o,s,h1,h2,h3,rfl,rfl⟩
theorem FO6 {b:ByteArray} {ws:List (Int × ByteArray)} (h1:b.size<=1000) (h2:ws.length<=1000) (h3:∀ w ∈ ws,-9223372036854775808<=w.1/\w.1<=9223372036854775807/\w.2.size<=1000000):FO 6 [pS b,pRow encW ws]=some [pS (bs (allW b.data.toList ws))]:=Zao fAll ⟨b,ws,h1,h2,h3,rfl,rfl⟩
def ROpen (ps qs:List PV):Prop:=∃ (s:StM) (c seq:Int) (name:ByteArray),StOk s/\-9223372036854775808<=c/\c<=9223372036854775807/\name.size<=9223372036854775807/\ps=pSt s++[pI c,pI seq,pS name]/\qs=pSt (openS s c seq name).1++pMk (openS s c seq name).2
theorem Zdv {s s':StM} (h1:pRow encF s.files=pRow encF s'.files) (h2:pRow encM s.marks=pRow encM s'.marks) (h3:s.epoch=s'.epoch):s=s':=by
 cases s;cases s'
 simp only at h1 h2 h3
 rw [fil.pRow_inj Ze9 h1,fil.pRow_inj Zgd h2,h3]
theorem fOpen:∀ ps q1 q2,ROpen ps q1->ROpen ps q2->q1=q2:=by
 rintro ps q1 q2 ⟨s,c,seq,name,_,_,_,_,rfl,rfl⟩ ⟨s',c',seq',name',_,_,_,_,h,rfl⟩
 simp only [List.cons_append,List.nil_append,List.cons.injEq,PV.v.injEq,Value.int.injEq,Value.string.injEq,true_and,and_true] at h
 obtain ⟨h1,h2,h3,rfl,rfl,rfl⟩:=h
 rw [Zdv h1 h2 h3]
set_option maxHeartbeats 1000000 in
theorem toldOpen (k:Nat):ToldF 14 (EOpen k) (spec ROpen):=by
 refine Zb9 Zad Zac FO [.row,.row,.num,.num,.num,.num] ?_
 intro ps qs h _
 obtain ⟨⟨fs,ms,ep⟩,c,seq,name,ok,hc1,hc2,hn,rfl,rfl⟩:=Zai h
 have hfl:fs.length<=1000000:=ok.fl
 have hml:ms.length<=1000000:=ok.ml
 have e1:=FO1 hn
 have e2:=FO2 hfl hn
 have e3:=FO3 hfl
 cases hm:okN name with
 | false =>
  rw [hm] at e1
  have hq:openS ⟨fs,ms,ep⟩ c seq name=(Za0 ⟨fs,ms,ep⟩ c (seq,1,0,0) 0 f00,(seq,1,0,0)):=by simp [openS,hm]
  have e4:FO 4 [pRow encF fs,pRow encM ms,pI ep,pI c,pI seq,pI 1,pI 0,pI 0,pI 0,pS ⟨⟨[]⟩⟩,pI 0,pS ⟨⟨[]⟩⟩]=some (pSt (Za0 ⟨fs,ms,ep⟩ c (seq,1,0,0) 0 f00)++pMk (seq,1,0,0)):=FO4 hfl hml hc1 hc2 (by omega)
  rw [hq]
  generalize Za0 ⟨fs,ms,ep⟩ c (seq,1,0,0) 0 f00=s' at *
  refine ⟨_,_,_,_,_,_,Zaj tabO,o0,fun w FP=>?_,?_⟩
  ·simp only [fmC,fmN]
   simp [-Zae,Zab,Zaa,Base.ev,SX.ev,evs,Value.oneCell',e1,e4,z1,z4]
  ·simp [evs,SX.ev,e4]
 | true =>
  rw [hm] at e1
  rw [findN,if_pos hm] at e2
  cases hf:fs.findIdx? (isN name) with
  | some i =>
   rw [hf] at e2
   have hi:i < fs.length:=by rw [List.findIdx?_eq_some_iff_getElem] at hf;exact hf.1
   obtain ⟨_,cv,_⟩:=cellF fs i hi
   have hg:fs.getD i f00=fs[i]:=by simp [List.getD,hi]
   have w1:IntKind.i64.wrap (i:Int)=(i:Int):=wrapI _ (by omega) (by omega)
   have i1:=Zaq encF fs i 3 3 .i64 rfl hi (by decide)
   have i2:=Zaq encF fs i 3 2 .i64 rfl hi (by decide)
   have hq:openS ⟨fs,ms,ep⟩ c seq name=(Za0 ⟨fs,ms,ep⟩ c (seq,0,(i:Int)+1,fs[i].2.1) 0 f00,(seq,0,(i:Int)+1,fs[i].2.1)):=by simp only [openS,hm,if_true,hf,hg]
   have e4:FO 4 [pRow encF fs,pRow encM ms,pI ep,pI c,pI seq,pI 0,pI ((i:Int)+1),pI fs[i].2.1,pI 0,pS ⟨⟨[]⟩⟩,pI 0,pS ⟨⟨[]⟩⟩]=some (pSt (Za0 ⟨fs,ms,ep⟩ c (seq,0,(i:Int)+1,fs[i].2.1) 0 f00)++pMk (seq,0,(i:Int)+1,fs[i].2.1)):=FO4 hfl hml hc1 hc2 (by omega)
   rw [hq]
   generalize fs[i].2.1=ver at *
   generalize Za0 ⟨fs,ms,ep⟩ c (seq,0,(i:Int)+1,ver) 0 f00=s' at *
   refine ⟨_,_,_,_,_,_,Zaj tabO,o11,fun w FP=>?_,?_⟩
   ·simp only [fmC,fmN]
    simp [-Zae,Zab,Zaa,Base.ev,SX.ev,evs,Value.oneCell',binPV,e1,e2,e4,ansQ,w1,i1,i2,cv,z1,z2,z4]
   ·simp [evs,SX.ev,binPV,e2,e4,ansQ,w1,cv]
  | none =>
   rw [hf] at e2
   cases hr:fs.findIdx? (isN e0) with
   | none =>
    rw [hr] at e3
    have hq:openS ⟨fs,ms,ep⟩ c seq name=(Za0 ⟨fs,ms,ep⟩ c (seq,3,0,0) 0 f00,(seq,3,0,0)):=by simp only [openS,hm,if_true,hf,hr]
    have e4:FO 4 [pRow encF fs,pRow encM ms,pI ep,pI c,pI seq,pI 3,pI 0,pI 0,pI 0,pS ⟨⟨[]⟩⟩,pI 0,pS ⟨⟨[]⟩⟩]=some (pSt (Za0 ⟨fs,ms,ep⟩ c (seq,3,0,0) 0 f00)++pMk (seq,3,0,0)):=FO4 hfl hml hc1 hc2 (by omega)
    rw [hq]
    generalize Za0 ⟨fs,ms,ep⟩ c (seq,3,0,0) 0 f00=s' at *
    refine ⟨_,_,_,_,_,_,Zaj tabO,o100,fun w FP=>?_,?_⟩
    ·simp only [fmC,fmN]
     simp [-Zae,Zab,Zaa,Base.ev,SX.ev,evs,Value.oneCell',binPV,e1,e2,e3,e4,ansQ,z1,z2,z3,z4]
    ·simp [evs,SX.ev,e4]
   | some i =>
    rw [hr] at e3
    have hi:i < fs.length:=by rw [List.findIdx?_eq_some_iff_getElem] at hr;exact hr.1
    have hq:openS ⟨fs,ms,ep⟩ c seq name=(Za0 ⟨fs,ms,ep⟩ c (seq,0,(i:Int)+1,1) ((i:Int)+1) (name,1,e0),(seq,0,(i:Int)+1,1)):=by simp only [openS,hm,if_true,hf,hr]
    have e4:FO 4 [pRow encF fs,pRow encM ms,pI ep,pI c,pI seq,pI 0,pI ((i:Int)+1),pI 1,pI ((i:Int)+1),pS name,pI 1,pS ⟨⟨[]⟩⟩]=some (pSt (Za0 ⟨fs,ms,ep⟩ c (seq,0,(i:Int)+1,1) ((i:Int)+1) (name,1,e0))++pMk (seq,0,(i:Int)+1,1)):=FO4 hfl hml hc1 hc2 (by omega)
    rw [hq]
    generalize Za0 ⟨fs,ms,ep⟩ c (seq,0,(i:Int)+1,1) ((i:Int)+1) (name,1,e0)=s' at *
    refine ⟨_,_,_,_,_,_,Zaj tabO,o101,fun w FP=>?_,?_⟩
    ·simp only [fmC,fmN]
     simp [-Zae,Zab,Zaa,Base.ev,SX.ev,evs,Value.oneCell',binPV,e1,e2,e3,e4,ansQ,z1,z2,z3,z4]
    ·simp [evs,SX.ev,e3,e4,ansQ]

def RGone (ps qs:List PV):Prop:=∃ (s:StM) (c seq file:Int),StOk s/\-9223372036854775808<=c/\c<=9223372036854775807/\-9223372036854775808<=file/\file<=9223372036854775807/\ps=pSt s++[pI c,pI seq,pI file]/\qs=pSt (goneS s c seq file).1++pMk (goneS s c seq file).2
theorem fGone:∀ ps q1 q2,RGone ps q1->RGone ps q2->q1=q2:=by
 rintro ps q1 q2 ⟨s,c,seq,name,_,_,_,_,_,rfl,rfl⟩ ⟨s',c',seq',name',_,_,_,_,_,h,rfl⟩
 simp only [List.cons_append,List.nil_append,List.cons.injEq,PV.v.injEq,Value.int.injEq,Value.string.injEq,true_and,and_true] at h
 obtain ⟨h1,h2,h3,rfl,rfl,rfl⟩:=h
 rw [Zdv h1 h2 h3]
theorem isF_yes {fs:List FileM} {ms:List MarkM} {ep file:Int} (h1:1<=file) (h2:file<=fs.length):∃ j:Nat,∃ hj:j < fs.length,file=(j:Int)+1/\fs.getD (file.toNat - 1) f00=fs[j]/\isF ⟨fs,ms,ep⟩ file=!(fs[j].1.toList == e0.toList):=by
 refine ⟨file.toNat - 1,by omega,by omega,?_,?_⟩
 ·simp [List.getD,show file.toNat - 1 < fs.length by omega]
 ·simp [isF,h1,h2,List.getD,show file.toNat - 1 < fs.length by omega]
set_option maxHeartbeats 1000000 in
theorem toldGone (k:Nat):ToldF 19 (EOpen k) (spec RGone):=by
 refine Zb9 Zad Zac FO [.row,.row,.num,.num,.num,.num] ?_
 intro ps qs h _
 obtain ⟨⟨fs,ms,ep⟩,c,seq,file,ok,hc1,hc2,hn1,hn2,rfl,rfl⟩:=Zai h
 have hfl:fs.length<=1000000:=ok.fl
 have hml:ms.length<=1000000:=ok.ml
 have e4:FO 4 [pRow encF fs,pRow encM ms,pI ep,pI c,pI seq,pI 2,pI 0,pI 0,pI 0,pS ⟨⟨[]⟩⟩,pI 0,pS ⟨⟨[]⟩⟩]=some (pSt (Za0 ⟨fs,ms,ep⟩ c (seq,2,0,0) 0 f00)++pMk (seq,2,0,0)):=FO4 hfl hml hc1 hc2 (by omega)
 have hqn:isF ⟨fs,ms,ep⟩ file=false->goneS ⟨fs,ms,ep⟩ c seq file=(Za0 ⟨fs,ms,ep⟩ c (seq,2,0,0) 0 f00,(seq,2,0,0)):=fun h=>by simp [goneS,h]
 generalize Za0 ⟨fs,ms,ep⟩ c (seq,2,0,0) 0 f00=s0 at *
 by_cases d1:1<=file
 ·by_cases d2:file<=fs.length
  ·obtain ⟨j,hj,rfl,hg,hF⟩:=isF_yes (ms:=ms) (ep:=ep) d1 d2
   obtain ⟨cn,_,_⟩:=cellF fs j hj
   have w1:IntKind.i64.wrap (j:Int)=(j:Int):=wrapI _ (by omega) (by omega)
   have i1:=Zaq encF fs j 3 3 .i64 rfl hj (by decide)
   have i2:=Zaq encF fs j 3 1 .i64 rfl hj (by decide)
   by_cases hn:fs[j].1.toList=[]
   ·have hF':isF ⟨fs,ms,ep⟩ ((j:Int)+1)=false:=by rw [hF,hn];simp [e0]
    rw [hqn hF']
    generalize fs[j].1=nm at *
    refine ⟨_,_,_,_,_,_,Zaj tabO,g110,fun w FP=>?_,?_⟩
    ·simp only [fmC,fmN]
     simp [-Zae,Zab,Zaa,Base.ev,SX.ev,evs,Value.oneCell',Zaf,binPV,e4,w1,i1,i2,cn,hn,hj,z4]
     all_goals omega
    ·simp [evs,SX.ev,e4]
   ·have hF':isF ⟨fs,ms,ep⟩ ((j:Int)+1)=true:=by
     rw [hF]
     simpa [e0] using hn
    have hq:goneS ⟨fs,ms,ep⟩ c seq ((j:Int)+1)=(Za0 ⟨fs,ms,ep⟩ c (seq,0,(j:Int)+1,0) ((j:Int)+1) f00,(seq,0,(j:Int)+1,0)):=by simp [goneS,hF']
    have e5:FO 4 [pRow encF fs,pRow encM ms,pI ep,pI c,pI seq,pI 0,pI ((j:Int)+1),pI 0,pI ((j:Int)+1),pS ⟨⟨[]⟩⟩,pI 0,pS ⟨⟨[]⟩⟩]=some (pSt (Za0 ⟨fs,ms,ep⟩ c (seq,0,(j:Int)+1,0) ((j:Int)+1) f00)++pMk (seq,0,(j:Int)+1,0)):=FO4 hfl hml hc1 hc2 (by omega)
    rw [hq]
    generalize fs[j].1=nm at *
    generalize Za0 ⟨fs,ms,ep⟩ c (seq,0,(j:Int)+1,0) ((j:Int)+1) f00=s' at *
    refine ⟨_,_,_,_,_,_,Zaj tabO,g111,fun w FP=>?_,?_⟩
    ·simp only [fmC,fmN]
     simp [-Zae,Zab,Zaa,Base.ev,SX.ev,evs,Value.oneCell',Zaf,binPV,e5,w1,i1,i2,cn,hn,hj,z4]
     all_goals omega
    ·simp [evs,SX.ev,e5]
  ·rw [hqn (by simp [isF,d2])]
   refine ⟨_,_,_,_,_,_,Zaj tabO,g10,fun w FP=>?_,?_⟩
   ·simp only [fmC,fmN]
    simp [-Zae,Zab,Zaa,Base.ev,SX.ev,evs,Value.oneCell',Zaf,binPV,e4,z4]
    all_goals omega
   ·simp [evs,SX.ev,e4]
 ·rw [hqn (by simp [isF,d1])]
  refine ⟨_,_,_,_,_,_,Zaj tabO,g0,fun w FP=>?_,?_⟩
  ·simp only [fmC,fmN]
   simp [-Zae,Zab,Zaa,Base.ev,SX.ev,evs,Value.oneCell',Zaf,binPV,e4,z4]
   all_goals omega
  ·simp [evs,SX.ev,e4]

def RBoot (ps qs:List PV):Prop:=∃ s:StM,StOk s/\ps=pSt s/\qs=pSt (bootS s)
theorem fBoot:∀ ps q1 q2,RBoot ps q1->RBoot ps q2->q1=q2:=by
 rintro ps q1 q2 ⟨s,_,rfl,rfl⟩ ⟨s',_,h,rfl⟩
 simp only [List.cons.injEq,PV.v.injEq,Value.int.injEq,true_and,and_true] at h
 rw [Zdv h.1 h.2.1 h.2.2]
theorem toldBoot (k:Nat):ToldF 22 (EBoot k) (spec RBoot):=by
 refine Zb9 Zad Zac FO [.row,.row,.num] ?_
 intro ps qs h _
 obtain ⟨⟨fs,ms,ep⟩,ok,rfl,rfl⟩:=Zai h
 have he:=ok.ep
 simp only at he
 have w1:IntKind.i64.wrap (ep+1)=ep+1:=wrapI _ (by omega) (by omega)
 refine ⟨_,_,_,_,_,_,Zaj tabO,bt,fun w FP=>?_,?_⟩
 ·simp only [fmC,fmN]
  simp [-Zae,Zab,Zaa,Base.ev,SX.ev,evs,Value.oneCell',binPV,w1,r_min]
 ·simp [evs,SX.ev,binPV,w1,r_min,bootS]
def RNew (ps qs:List PV):Prop:=ps=[]/\qs=pSt newS
theorem fNew:∀ ps q1 q2,RNew ps q1->RNew ps q2->q1=q2:=by
 rintro ps q1 q2 ⟨_,rfl⟩ ⟨_,rfl⟩;rfl
theorem toldNew (k:Nat):ToldF 27 (ENew k) (spec RNew):=by
 refine Zb9 Zad Zac FO [] ?_
 intro ps qs h _
 obtain ⟨rfl,rfl⟩:=Zai h
 refine ⟨_,_,_,_,_,_,Zaj tabO,nw,fun w FP=>?_,?_⟩
 ·simp
 ·rfl

def Zr0 (ps qs:List PV):Prop:=∃ (s:StM) (c seq file:Int) (l:List (Int × ByteArray)),StOk s/\-9223372036854775808<=c/\c<=9223372036854775807/\-9223372036854775808<=file/\file<=9223372036854775807/\l.length<=1000000/\(∀ w ∈ l,-9223372036854775808<=w.1/\w.1<=9223372036854775807/\w.2.size<=1000000)/\ps=pSt s++[pI c,pI seq,pI file,pRow encW l]/\qs=pSt (Zbm s c seq file l).1++pMk (Zbm s c seq file l).2
theorem fFlush:∀ ps q1 q2,Zr0 ps q1->Zr0 ps q2->q1=q2:=by
 rintro ps q1 q2 ⟨s,c,seq,file,l,_,_,_,_,_,_,_,rfl,rfl⟩ ⟨s',c',seq',file',l',_,_,_,_,_,_,_,h,rfl⟩
 simp only [List.cons_append,List.nil_append,List.cons.injEq,PV.v.injEq,Value.int.injEq,Value.string.injEq,true_and,and_true] at h
 obtain ⟨h1,h2,h3,rfl,rfl,rfl,h4⟩:=h
 rw [Zdv h1 h2 h3,fil.pRow_inj Zm1 h4]
theorem cutU:flU=flU.take 6++.block (Zan (nth flU 6)) (.loop (Zak (nth flU 6))) :: flU.drop 7:=by kernel_rfl
abbrev stU (fs:List FileM) (ms:List MarkM) (ep c seq file:Int) (l:List (Int × ByteArray)) (b:Bool) (i:Nat):List PV:=[pI c,pI file,pRow encW l,pB b,pI (i:Int),pRow encF fs,pRow encM ms,pI ep,pI 0,pI 0,pI 0,pI 0,pI 0,pI seq,pI 0,pI 0,pI 0]
set_option maxHeartbeats 4000000 in
theorem toldFlush (k:Nat):ToldF 16 (Zgw k) (spec Zr0):=by
 refine Zcq FO _ (Zar Try.prog 16) Try.func16 (by kernel_rfl) shU (by kernel_rfl) ?_ ?_
 ·intro ps qs h i hi
  obtain ⟨s,c,seq,file,l,_,_,_,_,_,_,_,rfl,rfl⟩:=Zai h
  simp [shU] at hi
  match i,hi with
  | 0,hi=>simp at hi
  | 1,hi=>simp at hi
  | 2,hi=>exact ⟨_,rfl,rfl⟩
  | 3,hi=>exact ⟨_,rfl,rfl⟩
  | 4,hi=>exact ⟨_,rfl,rfl⟩
  | 5,hi=>exact ⟨_,rfl,rfl⟩
  | 6,hi=>simp at hi
  | i+7,hi=>simp at hi
 ·intro C ps qs hF h a w hsh
  obtain ⟨⟨fs,ms,ep⟩,c,seq,file,l,ok,hc1,hc2,hf1,hf2,hl,hwf,rfl,rfl⟩:=Zai h
  have hfl:fs.length<=1000000:=ok.fl
  have hml:ms.length<=1000000:=ok.ml
  show wpL Try.prog flU _ a w
  have fin:∀ (s':StM) (m:MarkM),Zbm ⟨fs,ms,ep⟩ c seq file l=(s',m)->∀ qs a1 w1,qs=pSt s'++pMk m->Zah C shUR qs a1 w1->(AX.ret=.normal->wpL Try.prog [] (fun e a' w'=>(e=.normal \/ e=.ret)/\∃ sh' ps' es,Zah C sh' ps' a' w'/\resTo Try.prog Try.f16 sh' (Zgw k)=some es/\evs (fun i=>ps'[i]?) FO es=some (pSt (Zbm ⟨fs,ms,ep⟩ c seq file l).1++pMk (Zbm ⟨fs,ms,ep⟩ c seq file l).2)) a1 w1)/\(AX.ret ≠ .normal->(AX.ret.to=.normal \/ AX.ret.to=.ret)/\∃ sh' ps' es,Zah C sh' ps' a1 w1/\resTo Try.prog Try.f16 sh' (Zgw k)=some es/\evs (fun i=>ps'[i]?) FO es=some (pSt (Zbm ⟨fs,ms,ep⟩ c seq file l).1++pMk (Zbm ⟨fs,ms,ep⟩ c seq file l).2)):=by
   rintro s' m hq qs a1 w1 rfl h1
   exact ⟨fun h=>(by cases h),fun _=>⟨.inr rfl,shUR,_,[SX.var 0,SX.var 1,SX.var 2,SX.var 3,SX.var 4,SX.var 5,SX.var 6],h1,by kernel_rfl,by rw [hq];rfl⟩⟩
  have e4:FO 4 [pRow encF fs,pRow encM ms,pI ep,pI c,pI seq,pI 2,pI 0,pI 0,pI 0,pS ⟨⟨[]⟩⟩,pI 0,pS ⟨⟨[]⟩⟩]=some (pSt (Za0 ⟨fs,ms,ep⟩ c (seq,2,0,0) 0 f00)++pMk (seq,2,0,0)):=FO4 hfl hml hc1 hc2 (by omega)
  have hqn:isF ⟨fs,ms,ep⟩ file=false->Zbm ⟨fs,ms,ep⟩ c seq file l=(Za0 ⟨fs,ms,ep⟩ c (seq,2,0,0) 0 f00,(seq,2,0,0)):=fun h=>by simp [Zbm,h]
  by_cases d1:1<=file
  ·by_cases d2:file<=fs.length
   ·obtain ⟨j,hj,rfl,hg,hFj⟩:=isF_yes (ms:=ms) (ep:=ep) d1 d2
    obtain ⟨cn,cv,cb⟩:=cellF fs j hj
    obtain ⟨v1,v2,v3⟩:=ok.fv _ (List.getElem_mem hj)
    have w1:IntKind.i64.wrap (j:Int)=(j:Int):=wrapI _ (by omega) (by omega)
    have i1:=Zaq encF fs j 3 3 .i64 rfl hj (by decide)
    have i2:=Zaq encF fs j 3 1 .i64 rfl hj (by decide)
    by_cases hn:fs[j].1.toList=[]
    ·have hF':isF ⟨fs,ms,ep⟩ ((j:Int)+1)=false:=by rw [hFj,hn];simp [e0]
     have hq:=hqn hF'
     rw [<- List.append_nil flU]
     generalize fs[j].1=nm at *
     refine Zag Zac Zad (Zaj _) u110 hsh ?_ (fun qs a1 w1 hq1 h1=>fin _ _ hq qs a1 w1 (by simp [evs,SX.ev,hF,e4] at hq1;exact hq1.symm) h1)
     simp only [fmC,fmN]
     simp [-Zae,Zab,Zaa,Base.ev,SX.ev,evs,Value.oneCell',hF,Zaf,binPV,e4,w1,i1,i2,cn,hn,hj,z4]
     all_goals omega
    ·have hF':isF ⟨fs,ms,ep⟩ ((j:Int)+1)=true:=by
      rw [hFj]
      simpa [e0] using hn
     have post:∀ a w,Zah C shUl (stU fs ms ep c seq ((j:Int)+1) l (okWs l) l.length) a w->wpL Try.prog (flU.drop 7) (fun e a' w'=>(e=.normal \/ e=.ret)/\∃ sh' ps' es,Zah C sh' ps' a' w'/\resTo Try.prog Try.f16 sh' (Zgw k)=some es/\evs (fun i=>ps'[i]?) FO es=some (pSt (Zbm ⟨fs,ms,ep⟩ c seq ((j:Int)+1) l).1++pMk (Zbm ⟨fs,ms,ep⟩ c seq ((j:Int)+1) l).2)) a w:=by
      intro a w hin
      rw [<- List.append_nil (flU.drop 7)]
      cases hb:okWs l with
      | false =>
       rw [hb] at hin
       have e5:FO 4 [pRow encF fs,pRow encM ms,pI ep,pI c,pI seq,pI 1,pI 0,pI 0,pI 0,pS ⟨⟨[]⟩⟩,pI 0,pS ⟨⟨[]⟩⟩]=some (pSt (Za0 ⟨fs,ms,ep⟩ c (seq,1,0,0) 0 f00)++pMk (seq,1,0,0)):=FO4 hfl hml hc1 hc2 (by omega)
       have hq:Zbm ⟨fs,ms,ep⟩ c seq ((j:Int)+1) l=(Za0 ⟨fs,ms,ep⟩ c (seq,1,0,0) 0 f00,(seq,1,0,0)):=by simp [Zbm,hF',hb]
       refine Zag Zac Zad (Zaj _) w0 hin ?_ (fun qs a1 w1 hq1 h1=>fin _ _ hq qs a1 w1 (by simp [evs,SX.ev,hF,e5] at hq1;exact hq1.symm) h1)
       simp only [fmC,fmN]
       simp [-Zae,Zab,Zaa,Base.ev,SX.ev,evs,Value.oneCell',hF,Zaf,binPV,e5,z4]
      | true =>
       rw [hb] at hin
       have hlen:l.length<=5:=by
        simp only [okWs,Bool.and_eq_true,decide_eq_true_eq] at hb
        exact hb.1.2
       have e6:=FO6 (b:=fs[j].2.2) (ws:=l) v3 (by omega) hwf
       have w2:IntKind.i64.wrap (fs[j].2.1+1)=fs[j].2.1+1:=wrapI _ (by omega) (by omega)
       have hq:Zbm ⟨fs,ms,ep⟩ c seq ((j:Int)+1) l=(Za0 ⟨fs,ms,ep⟩ c (seq,0,(j:Int)+1,(Zb0 fs[j] l).2.1) ((j:Int)+1) (Zb0 fs[j] l),(seq,0,(j:Int)+1,(Zb0 fs[j] l).2.1)):=by simp only [Zbm,hF',hb,if_true,hg]
       have e5:FO 4 [pRow encF fs,pRow encM ms,pI ep,pI c,pI seq,pI 0,pI ((j:Int)+1),pI (min (fs[j].2.1+1) 1073741824),pI ((j:Int)+1),pS fs[j].1,pI (min (fs[j].2.1+1) 1073741824),pS (bs (allW fs[j].2.2.data.toList l))]=some (pSt (Za0 ⟨fs,ms,ep⟩ c (seq,0,(j:Int)+1,(Zb0 fs[j] l).2.1) ((j:Int)+1) (Zb0 fs[j] l))++pMk (seq,0,(j:Int)+1,(Zb0 fs[j] l).2.1)):=FO4 hfl hml hc1 hc2 (by omega)
       have hm2:(Zb0 fs[j] l).2.1=min (fs[j].2.1+1) 1073741824:=rfl
       have rm:=r_min (fs[j].2.1+1) 1073741824
       rw [hm2] at hq e5
       generalize Za0 ⟨fs,ms,ep⟩ c (seq,0,(j:Int)+1,min (fs[j].2.1+1) 1073741824) ((j:Int)+1) (Zb0 fs[j] l)=s' at *
       generalize bs (allW fs[j].2.2.data.toList l)=body at *
       generalize min (fs[j].2.1+1) 1073741824=mv at *
       generalize fs[j]=f at *
       refine Zag Zac Zad (Zaj _) sta.w1 hin ?_ (fun qs a1 w1' hq1 h1=>fin _ _ hq qs a1 w1' (by simp [evs,SX.ev,hF,binPV,w1,w2,rm,cn,cv,cb,e6,e5] at hq1;exact hq1.symm) h1)
       simp only [fmC,fmN]
       simp [-Zae,Zab,Zaa,Base.ev,SX.ev,evs,Value.oneCell',hF,Zaf,binPV,w1,w2,rm,i1,cn,cv,cb,e6,e5,z4,z6]
     have loop:∀ b0 a w,b0=(decide (1<=l.length) && decide (l.length<=5))->Zah C shUl (stU fs ms ep c seq ((j:Int)+1) l b0 0) a w->wpL Try.prog (.block (Zan (nth flU 6)) (.loop (Zak (nth flU 6))) :: flU.drop 7) (fun e a' w'=>(e=.normal \/ e=.ret)/\∃ sh' ps' es,Zah C sh' ps' a' w'/\resTo Try.prog Try.f16 sh' (Zgw k)=some es/\evs (fun i=>ps'[i]?) FO es=some (pSt (Zbm ⟨fs,ms,ep⟩ c seq ((j:Int)+1) l).1++pMk (Zbm ⟨fs,ms,ep⟩ c seq ((j:Int)+1) l).2)) a w:=by
      intro b0 a w hb0 hin
      refine Zay (fun q a w=>∃ i,i<=l.length/\q=l.length - i/\Zah C shUl (stU fs ms ep c seq ((j:Int)+1) l (b0 && (l.take i).all mayW) i) a w) ?_ (n:=l.length) ⟨0,by omega,by omega,by simpa using hin⟩
      rintro q a w ⟨i,hi,rfl,hin⟩
      show wpL Try.prog lpU _ a w
      rw [<- List.append_nil lpU]
      by_cases hlt:i < l.length
      ·obtain ⟨c0',c1'⟩:=cellW2 l i hlt
       obtain ⟨y1,y2,y3⟩:=hwf _ (List.getElem_mem hlt)
       have ix:=Zaq encW l i 2 2 .i64 rfl hlt (by decide)
       have v3:IntKind.i64.wrap ((i:Int)+1)=(i:Int)+1:=wrapI _ (by omega) (by omega)
       have e5:=FO5 (o:=l[i].1) (s:=l[i].2) y1 y2 (by omega)
       have hstep:(l.take (i+1)).all mayW=((l.take i).all mayW && mayW l[i]):=by
        rw [List.take_add_one,List.getElem?_eq_getElem hlt]
        simp only [List.all_append,Option.toList_some,List.all_cons,List.all_nil,Bool.and_true]
       rw [show (l[i].1,l[i].2)=l[i] from rfl] at e5
       have done:∀ b,b=(b0 && (l.take (i+1)).all mayW)->∀ qs a1 w1,qs=stU fs ms ep c seq ((j:Int)+1) l b (i+1)->Zah C shUl qs a1 w1->∃ n',n' < l.length - i/\∃ i',i'<=l.length/\n'=l.length - i'/\Zah C shUl (stU fs ms ep c seq ((j:Int)+1) l (b0 && (l.take i').all mayW) i') a1 w1:=fun b hb qs a1 w1 hq h=>⟨l.length - (i+1),by omega,i+1,by omega,rfl,by rw [<- hb,<- hq];exact h⟩
       rw [hstep] at done
       generalize (l.take i).all mayW=t at *
       cases hbt:(b0 && t) with
       | false =>
        rw [hbt] at hin
        refine Zag Zac Zad (Zaj _) l0 hin ?_ (fun qs a1 w1 hq h1=>⟨fun _=>.inl ⟨rfl,done false (by rw [<- Bool.and_assoc,hbt];rfl) qs a1 w1 (by simp [evs,SX.ev,binPV,v3] at hq;exact hq.symm) h1⟩,fun h=>absurd rfl h⟩)
        simp only [fmC,fmN]
        simp [-Zae,Zab,Zaa,Base.ev,SX.ev,evs,Value.oneCell',hF,Zaf,binPV,v3,hlt]
       | true =>
        rw [hbt] at hin
        cases hm:mayW l[i] with
        | false =>
         rw [hm] at e5 done
         generalize l[i]=y at *
         refine Zag Zac Zad (Zaj _) l10 hin ?_ (fun qs a1 w1 hq h1=>⟨fun _=>.inl ⟨rfl,done false (by simp) qs a1 w1 (by simp [evs,SX.ev,binPV,v3] at hq;exact hq.symm) h1⟩,fun h=>absurd rfl h⟩)
         simp only [fmC,fmN]
         simp [-Zae,Zab,Zaa,Base.ev,SX.ev,evs,Value.oneCell',hF,Zaf,binPV,v3,hlt,ix,c0',c1',e5,z5]
        | true =>
         rw [hm] at e5 done
         generalize l[i]=y at *
         refine Zag Zac Zad (Zaj _) l11 hin ?_ (fun qs a1 w1 hq h1=>⟨fun _=>.inl ⟨rfl,done true (by rw [<- Bool.and_assoc,hbt];rfl) qs a1 w1 (by simp [evs,SX.ev,binPV,v3] at hq;exact hq.symm) h1⟩,fun h=>absurd rfl h⟩)
         simp only [fmC,fmN]
         simp [-Zae,Zab,Zaa,Base.ev,SX.ev,evs,Value.oneCell',hF,Zaf,binPV,v3,hlt,ix,c0',c1',e5,z5]
      ·have hie:i=l.length:=by omega
       subst hie
       have hall:(b0 && (l.take l.length).all mayW)=okWs l:=by rw [List.take_length,hb0];rfl
       rw [hall] at hin
       generalize okWs l=bb at hin post
       refine Zag Zac Zad (Zaj _) lex hin ?_ ?_
       ·simp only [fmC,fmN]
        simp [-Zae,Zab,Zaa,Base.ev,SX.ev,evs,Value.oneCell',Zaf,binPV]
       ·intro qs a1 w1 hq h1
        refine ⟨fun h=>(by cases h),fun _=>.inr (.inl ⟨by rw [show Zan (nth flU 6)=0 by kernel_rfl];rfl,?_⟩)⟩
        simp [evs,SX.ev] at hq
        subst hq
        exact post a1 w1 h1
     rw [cutU]
     generalize fs[j].1=nm at *
     by_cases h1:1<=l.length
     ·by_cases h5:l.length<=5
      ·refine Zag Zac Zad (Zaj _) v11 hsh ?_ (fun qs a1 w1 hq h2=>⟨fun _=>loop true a1 w1 (by simp [h1,h5]) (by simp [evs,SX.ev] at hq;subst hq;exact h2),fun h=>absurd rfl h⟩)
       simp only [fmC,fmN]
       simp [-Zae,Zab,Zaa,Base.ev,SX.ev,evs,Value.oneCell',hF,Zaf,binPV,w1,i1,i2,cn,hn,hj]
       all_goals omega
      ·refine Zag Zac Zad (Zaj _) v10 hsh ?_ (fun qs a1 w1 hq h2=>⟨fun _=>loop false a1 w1 (by simp [h5]) (by simp [evs,SX.ev] at hq;subst hq;exact h2),fun h=>absurd rfl h⟩)
       simp only [fmC,fmN]
       simp [-Zae,Zab,Zaa,Base.ev,SX.ev,evs,Value.oneCell',hF,Zaf,binPV,w1,i1,i2,cn,hn,hj]
       all_goals omega
     ·refine Zag Zac Zad (Zaj _) v0 hsh ?_ (fun qs a1 w1 hq h2=>⟨fun _=>loop false a1 w1 (by simp [h1]) (by simp [evs,SX.ev] at hq;subst hq;exact h2),fun h=>absurd rfl h⟩)
      simp only [fmC,fmN]
      simp [-Zae,Zab,Zaa,Base.ev,SX.ev,evs,Value.oneCell',hF,Zaf,binPV,w1,i1,i2,cn,hn,hj]
      all_goals omega
   ·have hq:=hqn (by simp [isF,d2])
    rw [<- List.append_nil flU]
    refine Zag Zac Zad (Zaj _) u10 hsh ?_ (fun qs a1 w1 hq1 h1=>fin _ _ hq qs a1 w1 (by simp [evs,SX.ev,hF,e4] at hq1;exact hq1.symm) h1)
    simp only [fmC,fmN]
    simp [-Zae,Zab,Zaa,Base.ev,SX.ev,evs,Value.oneCell',hF,Zaf,binPV,e4,z4]
    all_goals omega
  ·have hq:=hqn (by simp [isF,d1])
   rw [<- List.append_nil flU]
   refine Zag Zac Zad (Zaj _) u0 hsh ?_ (fun qs a1 w1 hq1 h1=>fin _ _ hq qs a1 w1 (by simp [evs,SX.ev,hF,e4] at hq1;exact hq1.symm) h1)
   simp only [fmC,fmN]
   simp [-Zae,Zab,Zaa,Base.ev,SX.ev,evs,Value.oneCell',hF,Zaf,binPV,e4,z4]
   all_goals omega
end Go.Proofs.Ytonebjgdhachcaa.sta
