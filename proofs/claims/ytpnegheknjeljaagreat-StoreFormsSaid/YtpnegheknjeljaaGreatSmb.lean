/- What lasts: whether it may be (package state and the document's Zcn): told. -/
import Derived.Test.YtpnegheknjeljaaGreatSmq
namespace Go.Proofs.YtpnegheknjeljaaGreat.sta
open Go Go.RowKit eng SX Fact fil fileFronts dirs pck may
open fileFronts
open pck hiding F F20 F21
open dirs hiding shR shRl shRR flR lpR cutR f0 f1 f2 f3 x2 x3 n1
open may hiding r1 r2 r3 r4 r5
set_option linter.unusedVariables false
set_option linter.unusedSimpArgs false
set_option maxRecDepth 1000000

def EFr (k:Nat):FnE:={ k:=k,ins:=[none,none,none],leaks:=[false,false,false],outs:=[],kinds:=[] }
def ENd (k:Nat):FnE:={ k:=k,ins:=[none,none],leaks:=[false,false],outs:=[],kinds:=[] }
def EMk (k:Nat):FnE:={ k:=k,ins:=[some 4],leaks:=[false,false,false,false],outs:=[],kinds:=[] }
def EMb (k:Nat):FnE:={ k:=k,ins:=[some 3],leaks:=[false,false,false],outs:=[],kinds:=[] }
def EMayS (k:Nat):FnE:={ k:=k,ins:=[some 3],leaks:=[false,false,false],outs:=[none],kinds:=[.truth] }
def ENumB (k:Nat):FnE:={ k:=k,ins:=[none],leaks:=[false],outs:=[none],kinds:=[.num] }
def ENumT (k:Nat):FnE:={ k:=k,ins:=[none],leaks:=[false],outs:=[none],kinds:=[.truth] }
def ENameN (k:Nat):FnE:={ k:=k,ins:=[none],leaks:=[false],outs:=[none],kinds:=[.num] }
def sbx:BoxT:=⟨33,0,false,[.leaf,.leaf,.leaf],none,false⟩
def pvS1:Value:=.iface 9 (.string ⟨⟨[UInt8.ofNat 115,UInt8.ofNat 116,UInt8.ofNat 97,UInt8.ofNat 116,UInt8.ofNat 101,UInt8.ofNat 58,UInt8.ofNat 32,UInt8.ofNat 110,UInt8.ofNat 111,UInt8.ofNat 116,UInt8.ofNat 32,UInt8.ofNat 115,UInt8.ofNat 111,UInt8.ofNat 32,UInt8.ofNat 109,UInt8.ofNat 97,UInt8.ofNat 110,UInt8.ofNat 121,UInt8.ofNat 32,UInt8.ofNat 102,UInt8.ofNat 105,UInt8.ofNat 108,UInt8.ofNat 101,UInt8.ofNat 115,UInt8.ofNat 44,UInt8.ofNat 32,UInt8.ofNat 111,UInt8.ofNat 114,UInt8.ofNat 32,UInt8.ofNat 110,UInt8.ofNat 111,UInt8.ofNat 116,UInt8.ofNat 32,UInt8.ofNat 115,UInt8.ofNat 111,UInt8.ofNat 32,UInt8.ofNat 109,UInt8.ofNat 97,UInt8.ofNat 110,UInt8.ofNat 121,UInt8.ofNat 32,UInt8.ofNat 109,UInt8.ofNat 97,UInt8.ofNat 114,UInt8.ofNat 107,UInt8.ofNat 115]⟩⟩)
def pvS2:Value:=.iface 9 (.string ⟨⟨[UInt8.ofNat 115,UInt8.ofNat 116,UInt8.ofNat 97,UInt8.ofNat 116,UInt8.ofNat 101,UInt8.ofNat 58,UInt8.ofNat 32,UInt8.ofNat 97,UInt8.ofNat 32,UInt8.ofNat 110,UInt8.ofNat 97,UInt8.ofNat 109,UInt8.ofNat 101,UInt8.ofNat 32,UInt8.ofNat 116,UInt8.ofNat 104,UInt8.ofNat 97,UInt8.ofNat 116,UInt8.ofNat 32,UInt8.ofNat 109,UInt8.ofNat 97,UInt8.ofNat 121,UInt8.ofNat 32,UInt8.ofNat 110,UInt8.ofNat 111,UInt8.ofNat 116,UInt8.ofNat 32,UInt8.ofNat 98,UInt8.ofNat 101,UInt8.ofNat 44,UInt8.ofNat 32,UInt8.ofNat 111,UInt8.ofNat 114,UInt8.ofNat 32,UInt8.ofNat 97,UInt8.ofNat 110,UInt8.ofNat 111,UInt8.ofNat 116,UInt8.ofNat 104,UInt8.ofNat 101,UInt8.ofNat 114,UInt8.ofNat 32,UInt8.ofNat 111,UInt8.ofNat 110,UInt8.ofNat 101,UInt8.ofNat 39,UInt8.ofNat 115]⟩⟩)
def pvS3:Value:=.iface 9 (.string ⟨⟨[UInt8.ofNat 115,UInt8.ofNat 116,UInt8.ofNat 97,UInt8.ofNat 116,UInt8.ofNat 101,UInt8.ofNat 58,UInt8.ofNat 32,UInt8.ofNat 97,UInt8.ofNat 32,UInt8.ofNat 110,UInt8.ofNat 117,UInt8.ofNat 109,UInt8.ofNat 98,UInt8.ofNat 101,UInt8.ofNat 114,UInt8.ofNat 32,UInt8.ofNat 116,UInt8.ofNat 104,UInt8.ofNat 97,UInt8.ofNat 116,UInt8.ofNat 32,UInt8.ofNat 109,UInt8.ofNat 97,UInt8.ofNat 121,UInt8.ofNat 32,UInt8.ofNat 110,UInt8.ofNat 111,UInt8.ofNat 116,UInt8.ofNat 32,UInt8.ofNat 98,UInt8.ofNat 101]⟩⟩)
noncomputable def flFr:=flat (Zat Tryz.prog 167)
def shFr:Shape:=⟨[(0,.leaf),(1,.leaf),(2,.leaf)],[],[none,none,none],15,167⟩
def shFrP:Shape:=⟨[],[],[],15,167⟩
noncomputable def flNd:=flat (Zat Tryz.prog 165)
def shNd:Shape:=⟨[(0,.leaf),(1,.leaf)],[],[some false,none],30,165⟩
def shNdP:Shape:=⟨[],[],[],30,165⟩
noncomputable def flMk:=flat (Zat Tryz.prog 166)
def shMk:Shape:=⟨[(0,.agg 4)],[],[none,none,none,none],14,166⟩
def shMkP:Shape:=⟨[],[],[],14,166⟩
noncomputable def flMb:=flat (Zat Tryz.prog 153)
noncomputable def lpM1:=flat (Zaq (nth flMb 4))
noncomputable def lpM2:=flat (Zaq (nth flMb 6))
def shMb:Shape:=⟨[(0,.agg 3)],[],[some false,some false,none],46,153⟩
def shM1:Shape:=⟨[(1,.ptr 0 0 0 0),(18,.leaf),(19,.leaf),(20,.leaf)],[sbx],[some false,none,none,some false,some false,none],46,153⟩
def shM2:Shape:=⟨[(1,.ptr 0 0 0 0),(34,.leaf),(35,.leaf),(36,.leaf)],[sbx],[some false,none,none,some false,some false,none],46,153⟩
def shMbP:Shape:=⟨[],[],[],46,153⟩
def tabNf (f:FuncId):Option FnE:=cond (Nat.beq f 177) (some (EFind 1)) none
def tabNx (f:FuncId):Option (FnE × List Value):=cond (Nat.beq f 167) (some (EFr 2,[pvS3])) (cond (Nat.beq f 165) (some (ENd 3,[pvS2,pvS3])) (cond (Nat.beq f 166) (some (EMk 4,[pvS3])) (cond (Nat.beq f 153) (some (EMb 5,[pvS1,pvS2,pvS3])) none)))
def orcN:Orc:=orcOr (orcFn tabNf) (orcX tabNx)
@[simp] def Zdf:SX:=rop ROp.notB [rop ROp.allB [rop ROp.eqS [.cell (.var 0) (.var 2) 3 0,.con (.string { data:={ toList:=[] } })],rop ROp.eqI [.cell (.var 0) (.var 2) 3 1,.con (.int .i64 0)],rop ROp.eqS [.cell (.var 0) (.var 2) 3 2,.con (.string { data:={ toList:=[] } })]]]
@[simp] def Zce:SX:=.bin .neq (.fn 1 [.var 0,.cell (.var 0) (.var 1) 3 0] 0) (.bin .add (.var 1) (.con (.int .i64 1)))
@[simp] def Zly:List SX:=[.var 0,.con (.int .i64 0),.con (.int .i64 1073741824)]
@[simp] def Zde:List SX:=[.var 0,.cell (.var 0) (.var 1) 3 0]
@[simp] def Zez:List SX:=[.cell (.var 0) (.var 1) 3 1,.con (.int .i64 1),.con (.int .i64 1073741824)]
@[simp] def Zi4:List SX:=[.cell (.var 0) (.var 2) 4 0,.cell (.var 0) (.var 2) 4 1,.cell (.var 0) (.var 2) 4 2,.cell (.var 0) (.var 2) 4 3]
@[simp] def Zgn:List SX:=[.var 1,.con (.int .i64 0),.con (.int .i64 3)]
@[simp] def Zby:SX:=.bin .lss (.var 2) (.var 1)
@[simp] def Zd1:SX:=.bin .add (.var 2) (.con (.int .i64 1))
@[simp] def Zhm:List SX:=[.slen (.cell (.var 0) (.var 1) 3 2),.con (.int .i64 0),.con (.int .i64 24)]
@[simp] def Zhl:List SX:=[.var 2,.con (.int .i64 0),.con (.int .i64 6)]
@[simp] def Zd4:SX:=.bin .neq (.len (.var 0)) (.con (.int .i64 6))
@[simp] def Zhk:Fact:=Fact.fx 153 (EMb 5) ([pvS1,pvS2,pvS3]) [.var 0,.var 1,.var 2]
@[simp] def Zhj:List SX:=[.var 3,.con (.int .i64 0),.con (.int .i64 1073741824)]
@[simp] def Zhi:List SX:=[.var 5,.con (.int .i64 0),.con (.int .i64 1073741824)]
@[simp] def Zfh:Fact:=.ok (.bin .add (.var 1) (.con (.int .i64 1)))
@[simp] def Zbw:Fact:=.idx (.var 0) (.var 1) 3 3
@[simp] def Zfg:Fact:=Fact.fx 167 (EFr 2) ([pvS3]) Zly
@[simp] def Zhh:SX:=.bin .neq (.len (.var 1)) (.con (.int .i64 3))
@[simp] def Zcp:Fact:=.idx (.var 0) (.var 2) 3 3
@[simp] def Zc7:SX:=.cell (.var 0) (.var 1) 3 2
@[simp] def Zff:Fact:=.ok (.cell (.var 0) (.var 1) 3 0)
@[simp] def Zfe:Fact:=.ok (.cell (.var 0) (.var 1) 3 1)
@[simp] def Zhg:Fact:=Fact.fx 167 (EFr 2) ([pvS3]) Zgn
@[simp] def Zkm:List SX:=[.var 0,.var 1,Zd1,.var 3,.var 4,.var 5]
@[simp] def Zhf:Fact:=.is (.fn 2 Zly 0) (.int .i64 0)
@[simp] def Zd3:SX:=.bin .lss (.var 0) (.var 1)
@[simp] def Zd2:Fact:=.is Zby (.bool true)
@[simp] def Zkl:Fact:=Fact.fx 165 (ENd 3) ([pvS2,pvS3]) [.var 3,.var 2]
@[simp] def Zhe:Fact:=.is (.fn 1 Zde 1) (.bool true)
@[simp] def Zfd:Fact:=.fn 177 (EFind 1) Zde
@[simp] def Zhd:Fact:=.ok (.cell (.var 0) (.var 2) 3 0)
@[simp] def Zhc:Fact:=.ok (.cell (.var 0) (.var 2) 3 1)
@[simp] def Zhb:Fact:=.ok (.cell (.var 0) (.var 2) 3 2)
@[simp] def Zha:SX:=.fn 5 [.var 0,.var 1,.var 2] 0
@[simp] def Zkk:Fact:=Fact.fx 167 (EFr 2) ([pvS3]) Zhl
theorem fr0:segTo Tryz.prog fil.noOrc 10000 flFr shFr [0,0] shFrP [] hP=some (.normal,[.ok Zd3,.is Zd3 (.bool false),.ok (.bin .gtr (.var 0) (.var 2)),.is (.bin .gtr (.var 0) (.var 2)) (.bool false)],[]):=by kernel_rfl
theorem fr1:segTo Tryz.prog fil.noOrc 10000 flFr shFr [1] shFrP [] hP=some (.panic pvS3,[.ok Zd3,.is Zd3 (.bool true)],[]):=by kernel_rfl
theorem fr2:segTo Tryz.prog fil.noOrc 10000 flFr shFr [0,1] shFrP [] hP=some (.panic pvS3,[.ok Zd3,.is Zd3 (.bool false),.ok (.bin .gtr (.var 0) (.var 2)),.is (.bin .gtr (.var 0) (.var 2)) (.bool true)],[]):=by kernel_rfl
theorem nd0:segTo Tryz.prog orcN 10000 flNd shNd [1,0,0,0] shNdP [] hP=some (.normal,[Zbw,Zbw,Zff,Zfe,.ok Zc7,Zfd,.ok (.fn 1 Zde 0),Zhe,Zfh,.ok Zce,.is Zce (.bool false),Fact.fx 167 (EFr 2) ([pvS3]) Zez,.is (.fn 2 Zez 0) (.int .i64 0),.ok (.slen Zc7),Fact.fx 167 (EFr 2) ([pvS3]) Zhm,.is (.fn 2 Zhm 0) (.int .i64 0)],[]):=by kernel_rfl
theorem nd1:segTo Tryz.prog orcN 10000 flNd shNd [0,1] shNdP [] hP=some (.panic pvS2,[Zbw,Zbw,Zff,Zfe,.ok Zc7,Zfd,.ok (.fn 1 Zde 0),.is (.fn 1 Zde 1) (.bool false),Zfh,.ok Zce,.is Zce (.bool true)],[]):=by kernel_rfl
theorem nd2:segTo Tryz.prog orcN 10000 flNd shNd [1,1] shNdP [] hP=some (.panic pvS2,[Zbw,Zbw,Zff,Zfe,.ok Zc7,Zfd,.ok (.fn 1 Zde 0),Zhe,Zfh,.ok Zce,.is Zce (.bool true)],[]):=by kernel_rfl
theorem nd3:segTo Tryz.prog orcN 10000 flNd shNd [1,0,1] shNdP [] hP=some (.panic pvS3,[Zbw,Zbw,Zff,Zfe,.ok Zc7,Zfd,.ok (.fn 1 Zde 0),Zhe,Zfh,.ok Zce,.is Zce (.bool false),Fact.fx 167 (EFr 2) ([pvS3]) Zez,.is (.fn 2 Zez 0) (.int .i64 1)],[]):=by kernel_rfl
theorem nd4:segTo Tryz.prog orcN 10000 flNd shNd [1,0,0,1] shNdP [] hP=some (.panic pvS3,[Zbw,Zbw,Zff,Zfe,.ok Zc7,Zfd,.ok (.fn 1 Zde 0),Zhe,Zfh,.ok Zce,.is Zce (.bool false),Fact.fx 167 (EFr 2) ([pvS3]) Zez,.is (.fn 2 Zez 0) (.int .i64 0),.ok (.slen Zc7),Fact.fx 167 (EFr 2) ([pvS3]) Zhm,.is (.fn 2 Zhm 0) (.int .i64 1)],[]):=by kernel_rfl
theorem mk0:segTo Tryz.prog orcN 10000 flMk shMk [0,0,0,0] shMkP [] hP=some (.normal,[Zfg,Zhf,Zhg,.is (.fn 2 Zgn 0) (.int .i64 0),Zkk,.is (.fn 2 Zhl 0) (.int .i64 0),Fact.fx 167 (EFr 2) ([pvS3]) Zhj,.is (.fn 2 Zhj 0) (.int .i64 0)],[]):=by kernel_rfl
theorem mk1:segTo Tryz.prog orcN 10000 flMk shMk [1] shMkP [] hP=some (.panic pvS3,[Zfg,.is (.fn 2 Zly 0) (.int .i64 1)],[]):=by kernel_rfl
theorem mk2:segTo Tryz.prog orcN 10000 flMk shMk [0,1] shMkP [] hP=some (.panic pvS3,[Zfg,Zhf,Zhg,.is (.fn 2 Zgn 0) (.int .i64 1)],[]):=by kernel_rfl
theorem mk3:segTo Tryz.prog orcN 10000 flMk shMk [0,0,1] shMkP [] hP=some (.panic pvS3,[Zfg,Zhf,Zhg,.is (.fn 2 Zgn 0) (.int .i64 0),Zkk,.is (.fn 2 Zhl 0) (.int .i64 1)],[]):=by kernel_rfl
theorem mk4:segTo Tryz.prog orcN 10000 flMk shMk [0,0,0,1] shMkP [] hP=some (.panic pvS3,[Zfg,Zhf,Zhg,.is (.fn 2 Zgn 0) (.int .i64 0),Zkk,.is (.fn 2 Zhl 0) (.int .i64 0),Fact.fx 167 (EFr 2) ([pvS3]) Zhj,.is (.fn 2 Zhj 0) (.int .i64 1)],[]):=by kernel_rfl
theorem mb0:segTo Tryz.prog orcN 10000 (flMb.take 4) shMb [0,0] shM1 [(2,0)] hP=some (.normal,[.ok (.len (.var 0)),.ok Zd4,.is Zd4 (.bool false),.ok (.len (.var 1)),.ok Zhh,.is Zhh (.bool false),.ok (.len (.var 0)),.ok (.len (.var 0)),.ok (.con (.int .i64 0)),.ok (.var 2)],[.var 0,.len (.var 0),.con (.int .i64 0),.var 0,.var 1,.var 2]):=by kernel_rfl
theorem mb1:segTo Tryz.prog orcN 10000 (flMb.take 4) shMb [1] shMbP [] hP=some (.panic pvS1,[.ok (.len (.var 0)),.ok Zd4,.is Zd4 (.bool true)],[]):=by kernel_rfl
theorem mb2:segTo Tryz.prog orcN 10000 (flMb.take 4) shMb [0,1] shMbP [] hP=some (.panic pvS1,[.ok (.len (.var 0)),.ok Zd4,.is Zd4 (.bool false),.ok (.len (.var 1)),.ok Zhh,.is Zhh (.bool true)],[]):=by kernel_rfl
theorem mx1:segTo Tryz.prog orcN 10000 lpM1 shM1 [0] shM1 [(0,0)] hP=some (.exit 0,[.ok Zby,.is Zby (.bool false),.ok (.var 1),.ok (.var 2),.ok (.var 5)],[.var 0,.var 1,.var 2,.var 3,.var 4,.var 5]):=by kernel_rfl
theorem me1:segTo Tryz.prog orcN 10000 lpM1 shM1 [1,0] shM1 [(0,0)] hP=some (.normal,[.ok Zby,Zd2,Zcp,Zcp,Zhd,Zhc,Zhb,.ok Zdf,.is Zdf (.bool false),.ok Zd1,.ok (.var 1),.ok Zd1,.ok (.var 5)],Zkm):=by kernel_rfl
theorem mn1:segTo Tryz.prog orcN 10000 lpM1 shM1 [1,1,0] shM1 [(0,0)] hP=some (.normal,[.ok Zby,Zd2,Zcp,Zcp,Zhd,Zhc,Zhb,.ok Zdf,.is Zdf (.bool true),Zkl,.is (.fn 3 [.var 3,.var 2] 0) (.int .i64 0),.ok Zd1,.ok (.var 1),.ok Zd1,.ok (.var 5)],Zkm):=by kernel_rfl
theorem mb3:segTo Tryz.prog orcN 10000 lpM1 shM1 [1,1,1] shMbP [] hP=some (.panic pvS2,[.ok Zby,Zd2,Zcp,Zcp,Zhd,Zhc,Zhb,.ok Zdf,.is Zdf (.bool true),Zkl,.is (.fn 3 [.var 3,.var 2] 0) (.int .i64 1)],[]):=by kernel_rfl
theorem mb4:segTo Tryz.prog orcN 10000 lpM1 shM1 [1,1,2] shMbP [] hP=some (.panic pvS3,[.ok Zby,Zd2,Zcp,Zcp,Zhd,Zhc,Zhb,.ok Zdf,.is Zdf (.bool true),Zkl,.is (.fn 3 [.var 3,.var 2] 0) (.int .i64 2)],[]):=by kernel_rfl
theorem mid:segTo Tryz.prog orcN 10000 ((flMb.drop 5).take 1) shM1 [] shM2 [(0,0)] hP=some (.normal,[.ok (.len (.var 4)),.ok (.len (.var 4)),.ok (.con (.int .i64 0)),.ok (.var 5)],[.var 4,.len (.var 4),.con (.int .i64 0),.var 3,.var 4,.var 5]):=by kernel_rfl
theorem mx2:segTo Tryz.prog orcN 10000 lpM2 shM2 [0] shM2 [(0,0)] hP=some (.exit 2,[.ok Zby,.is Zby (.bool false),.ok (.var 1),.ok (.var 2),.ok (.var 5)],[.var 0,.var 1,.var 2,.var 3,.var 4,.var 5]):=by kernel_rfl
theorem me2:segTo Tryz.prog orcN 10000 lpM2 shM2 [1,0] shM2 [(0,0)] hP=some (.normal,[.ok Zby,Zd2,.idx (.var 0) (.var 2) 4 4,.idx (.var 0) (.var 2) 4 4,.ok (.cell (.var 0) (.var 2) 4 0),.ok (.cell (.var 0) (.var 2) 4 1),.ok (.cell (.var 0) (.var 2) 4 2),.ok (.cell (.var 0) (.var 2) 4 3),Fact.fx 166 (EMk 4) ([pvS3]) Zi4,.is (.fn 4 Zi4 0) (.int .i64 0),.ok Zd1,.ok (.var 1),.ok Zd1,.ok (.var 5)],Zkm):=by kernel_rfl
theorem mb5:segTo Tryz.prog orcN 10000 lpM2 shM2 [1,1] shMbP [] hP=some (.panic pvS3,[.ok Zby,Zd2,.idx (.var 0) (.var 2) 4 4,.idx (.var 0) (.var 2) 4 4,.ok (.cell (.var 0) (.var 2) 4 0),.ok (.cell (.var 0) (.var 2) 4 1),.ok (.cell (.var 0) (.var 2) 4 2),.ok (.cell (.var 0) (.var 2) 4 3),Fact.fx 166 (EMk 4) ([pvS3]) Zi4,.is (.fn 4 Zi4 0) (.int .i64 1)],[]):=by kernel_rfl
theorem mz0:segTo Tryz.prog orcN 10000 (flMb.drop 7) shM2 [0] shMbP [] hP=some (.normal,[Fact.fx 167 (EFr 2) ([pvS3]) Zhi,.is (.fn 2 Zhi 0) (.int .i64 0)],[]):=by kernel_rfl
theorem mz1:segTo Tryz.prog orcN 10000 (flMb.drop 7) shM2 [1] shMbP [] hP=some (.panic pvS3,[Fact.fx 167 (EFr 2) ([pvS3]) Zhi,.is (.fn 2 Zhi 0) (.int .i64 1)],[]):=by kernel_rfl
theorem my0:runTo Tryz.prog orcN 10000 132 (EMayS 6) [.row,.row,.num] [0] hP=some ([.ok (.var 2),Zhk,.is Zha (.int .i64 0)],[.con (.bool true)]):=by kernel_rfl
theorem my1:runTo Tryz.prog orcN 10000 132 (EMayS 6) [.row,.row,.num] [1] hP=some ([.ok (.var 2),Zhk,.is Zha (.int .i64 1)],[.con (.bool false)]):=by kernel_rfl
theorem my2:runTo Tryz.prog orcN 10000 132 (EMayS 6) [.row,.row,.num] [2] hP=some ([.ok (.var 2),Zhk,.is Zha (.int .i64 2)],[.con (.bool false)]):=by kernel_rfl
theorem my3:runTo Tryz.prog orcN 10000 132 (EMayS 6) [.row,.row,.num] [3] hP=some ([.ok (.var 2),Zhk,.is Zha (.int .i64 3)],[.con (.bool false)]):=by kernel_rfl

@[simp] theorem kFr (k:Nat):(EFr k).k=k:=rfl
@[simp] theorem kNd (k:Nat):(ENd k).k=k:=rfl
@[simp] theorem kMkk (k:Nat):(EMk k).k=k:=rfl
@[simp] theorem kMbb (k:Nat):(EMb k).k=k:=rfl
@[simp] theorem kMayS (k:Nat):(EMayS k).k=k:=rfl
@[simp] theorem kNumB (k:Nat):(ENumB k).k=k:=rfl
@[simp] theorem kNumT (k:Nat):(ENumT k).k=k:=rfl
@[simp] theorem kNameN (k:Nat):(ENameN k).k=k:=rfl
theorem rnot (b:Bool):ropPV .notB [pB b]=some (pB (!b)):=rfl
theorem cmpE (f:FileM):∃ t1 t2 t3,ropPV .eqS [pS f.1,pS ⟨⟨[]⟩⟩]=some (pB t1)/\ropPV .eqI [pI f.2.1,pI 0]=some (pB t2)/\ropPV .eqS [pS f.2.2,pS ⟨⟨[]⟩⟩]=some (pB t3)/\ropPV .allB [pB t1,pB t2,pB t3]=some (pB (isE0 f)):=by
 refine ⟨_,_,_,rfl,rfl,rfl,?_⟩
 show some (pB (f.1.toList == e0.toList && (f.2.1 == 0 && (f.2.2.toList == e0.toList && true))))=_
 rw [Zql,Bool.and_true]
 simp only [isE0]
 congr 4
structure MayPre (s:StM):Prop where
 fl:s.files.length<=1000000
 ml:s.marks.length<=1000000
 fv:∀ f ∈ s.files,f.1.size<=1000000/\f.2.2.size<=1000000
def bad01 (b:Bool):Nat:=if b then 0 else 1
def RFr (ps qs:List PV):Prop:=∃ n a b:Int,ps=[pI n,pI a,pI b]/\qs=[pI (bad01 (numB n a b):Nat)]
theorem fFr:∀ ps q1 q2,RFr ps q1->RFr ps q2->q1=q2:=by
 rintro ps q1 q2 ⟨n,a,b,rfl,rfl⟩ ⟨n',a',b',h,rfl⟩
 simp only [List.cons.injEq,PV.v.injEq,Value.int.injEq,true_and,and_true] at h
 obtain ⟨rfl,rfl,rfl⟩:=h;rfl
def RNd (ps qs:List PV):Prop:=∃ (s:StM) (i:Nat),MayPre s/\i < s.files.length/\ps=[pRow encF s.files,pI (i:Int)]/\qs=[pI (Zg2 s.files i (s.files.getD i f00):Nat)]
theorem fNd:∀ ps q1 q2,RNd ps q1->RNd ps q2->q1=q2:=by
 rintro ps q1 q2 ⟨⟨l,m,e⟩,i,_,_,rfl,rfl⟩ ⟨⟨l',m',e'⟩,i',_,_,h,rfl⟩
 simp only [List.cons.injEq,PV.v.injEq,Value.int.injEq,true_and,and_true,Int.ofNat_inj] at h
 obtain ⟨h,rfl⟩:=h
 simp only [fil.pRow_inj Zln h]
def RMk (ps qs:List PV):Prop:=∃ m:MarkM,ps=pMk m/\qs=[pI (bad01 (markB m):Nat)]
theorem fMk:∀ ps q1 q2,RMk ps q1->RMk ps q2->q1=q2:=by
 rintro ps q1 q2 ⟨⟨a,b,c,d⟩,rfl,rfl⟩ ⟨⟨a',b',c',d'⟩,h,rfl⟩
 simp only [List.cons.injEq,PV.v.injEq,Value.int.injEq,true_and,and_true] at h
 obtain ⟨rfl,rfl,rfl,rfl⟩:=h;rfl
def RMb (ps qs:List PV):Prop:=∃ s:StM,MayPre s/\ps=pSt s/\qs=[pI (mustN s:Nat)]
theorem fMb:∀ ps q1 q2,RMb ps q1->RMb ps q2->q1=q2:=by
 rintro ps q1 q2 ⟨s,_,rfl,rfl⟩ ⟨s',_,h,rfl⟩
 simp only [List.cons.injEq,PV.v.injEq,Value.int.injEq,true_and,and_true] at h
 rw [Znj h.1 h.2.1 h.2.2]
def RMayS (ps qs:List PV):Prop:=∃ s:StM,MayPre s/\ps=pSt s/\qs=[pB (mayS s)]
theorem fMayS:∀ ps q1 q2,RMayS ps q1->RMayS ps q2->q1=q2:=by
 rintro ps q1 q2 ⟨s,_,rfl,rfl⟩ ⟨s',_,h,rfl⟩
 simp only [List.cons.injEq,PV.v.injEq,Value.int.injEq,true_and,and_true] at h
 rw [Znj h.1 h.2.1 h.2.2]
def RNumB (ps qs:List PV):Prop:=∃ n:Int,ps=[pI n]/\qs=[pB (numB n 0 1073741824)]
noncomputable def FB:Fns:=fun k=>match k with | 1=>spec RFind | 2=>spec RFr | 3=>spec RNd | 4=>spec RMk | 5=>spec RMb | 7=>spec RName | 8=>spec RNumB | _=>fun _=>none
theorem FB1 {l:List FileM} {s:ByteArray} (h:l.length<=1000000) (hs:s.size<=1000000):FB 1 [pRow encF l,pS s]=some (ansQ (findN l s)):=Zap fFind ⟨l,s,h,by omega,rfl,rfl⟩
theorem FB2 (n a b:Int):FB 2 [pI n,pI a,pI b]=some [pI (bad01 (numB n a b):Nat)]:=Zap fFr ⟨n,a,b,rfl,rfl⟩
theorem FB3 {s:StM} {i:Nat} (h:MayPre s) (hi:i < s.files.length):FB 3 [pRow encF s.files,pI (i:Int)]=some [pI (Zg2 s.files i (s.files.getD i f00):Nat)]:=Zap fNd ⟨s,i,h,hi,rfl,rfl⟩
theorem FB4 (m:MarkM):FB 4 (pMk m)=some [pI (bad01 (markB m):Nat)]:=Zap fMk ⟨m,rfl,rfl⟩
theorem FB5 {s:StM} (h:MayPre s):FB 5 (pSt s)=some [pI (mustN s:Nat)]:=Zap fMb ⟨s,h,rfl,rfl⟩
theorem Za5:OrcOk Tryz.prog orcN:=Zjy (Zar tabNf) (Zil tabNx)

theorem toldFr (k:Nat):ToldX 167 (EFr k) [pvS3] (spec RFr):=by
 refine Zf4 FB _ (Zat Tryz.prog 167) Tryz.func167 (by kernel_rfl) shFr (by kernel_rfl) ?_ ?_
 ·intro ps qs h
  obtain ⟨n,a,b,rfl,rfl⟩:=Zah h
  exact Zc0 rfl
 ·intro C ps qs hF h x w hsh
  obtain ⟨n,a,b,rfl,rfl⟩:=Zah h
  show wpL Tryz.prog flFr _ x w
  rw [<- List.append_nil flFr]
  by_cases h1:n < a
  ·have hq0:[pI (bad01 (numB n a b):Nat)]=[pI (0+1:Nat)]:=by simp [numB,bad01,show ¬ a<=n by omega]
   refine Zae names_ok mixed_ok fil.noOrc_ok fr1 hsh ?_ (fun qs a1 w1 hq hx=>⟨nofun,fun _=>.inr ⟨0,_,_,_,hq0,rfl,rfl,hx⟩⟩)
   simp [-Zac,Zab,Zaa,Base.ev,SX.ev,evs,Value.oneCell',binPV,h1]
  by_cases h2:b < n
  ·have hq0:[pI (bad01 (numB n a b):Nat)]=[pI (0+1:Nat)]:=by simp [numB,bad01,show ¬ n<=b by omega]
   refine Zae names_ok mixed_ok fil.noOrc_ok fr2 hsh ?_ (fun qs a1 w1 hq hx=>⟨nofun,fun _=>.inr ⟨0,_,_,_,hq0,rfl,rfl,hx⟩⟩)
   simp [-Zac,Zab,Zaa,Base.ev,SX.ev,evs,Value.oneCell',binPV,h1,h2]
  ·have hq0:[pI (bad01 (numB n a b):Nat)]=[pI 0]:=by simp [numB,bad01,show a<=n by omega,show n<=b by omega]
   refine Zae names_ok mixed_ok fil.noOrc_ok fr0 hsh ?_ (fun qs a1 w1 hq hx=>⟨fun _=>.inl ⟨_,hq0,.inl rfl,shFrP,_,[],hx,by kernel_rfl,rfl⟩,fun h=>absurd rfl h⟩)
   simp [-Zac,Zab,Zaa,Base.ev,SX.ev,evs,Value.oneCell',binPV,h1,h2]
theorem b1:ToldF 177 (EFind 1) (FB 1):=toldFind 1
theorem b2:ToldX 167 (EFr 2) [pvS3] (FB 2):=toldFr 2

theorem toldMk (k:Nat):ToldX 166 (EMk k) [pvS3] (spec RMk):=by
 refine Zf4 FB _ (Zat Tryz.prog 166) Tryz.func166 (by kernel_rfl) shMk (by kernel_rfl) ?_ ?_
 ·intro ps qs h
  obtain ⟨⟨a,b,c,d⟩,rfl,rfl⟩:=Zah h
  exact Zc0 rfl
 ·intro C ps qs hF h x w hsh
  obtain ⟨⟨a,b,c,d⟩,rfl,rfl⟩:=Zah h
  show wpL Tryz.prog flMk _ x w
  rw [<- List.append_nil flMk]
  have g1:=FB2 a 0 1073741824
  have g2:=FB2 b 0 3
  have g3:=FB2 c 0 6
  have g4:=FB2 d 0 1073741824
  have hm:markB (a,b,c,d)=(numB a 0 1073741824 && (numB b 0 3 && (numB c 0 6 && numB d 0 1073741824))):=rfl
  rw [hm]
  generalize numB a 0 1073741824=t1 at *
  generalize numB b 0 3=t2 at *
  generalize numB c 0 6=t3 at *
  generalize numB d 0 1073741824=t4 at *
  cases t1 with
  | false =>
   simp only [bad01,Bool.false_eq_true,if_false] at g1
   refine Zae names_ok mixed_ok Za5 mk1 hsh ?_ (fun qs a1 w1 hq hx=>⟨nofun,fun _=>.inr ⟨0,_,_,_,rfl,rfl,rfl,hx⟩⟩)
   simp [-Zac,Zab,Zaa,Base.ev,SX.ev,evs,Value.oneCell',hF,g1,b2]
  | true =>
   simp only [bad01,if_true] at g1
   cases t2 with
   | false =>
    simp only [bad01,Bool.false_eq_true,if_false] at g2
    refine Zae names_ok mixed_ok Za5 mk2 hsh ?_ (fun qs a1 w1 hq hx=>⟨nofun,fun _=>.inr ⟨0,_,_,_,rfl,rfl,rfl,hx⟩⟩)
    simp [-Zac,Zab,Zaa,Base.ev,SX.ev,evs,Value.oneCell',hF,g1,g2,b2]
   | true =>
    simp only [bad01,if_true] at g2
    cases t3 with
    | false =>
     simp only [bad01,Bool.false_eq_true,if_false] at g3
     refine Zae names_ok mixed_ok Za5 mk3 hsh ?_ (fun qs a1 w1 hq hx=>⟨nofun,fun _=>.inr ⟨0,_,_,_,rfl,rfl,rfl,hx⟩⟩)
     simp [-Zac,Zab,Zaa,Base.ev,SX.ev,evs,Value.oneCell',hF,g1,g2,g3,b2]
    | true =>
     simp only [bad01,if_true] at g3
     cases t4 with
     | false =>
      simp only [bad01,Bool.false_eq_true,if_false] at g4
      refine Zae names_ok mixed_ok Za5 mk4 hsh ?_ (fun qs a1 w1 hq hx=>⟨nofun,fun _=>.inr ⟨0,_,_,_,rfl,rfl,rfl,hx⟩⟩)
      simp [-Zac,Zab,Zaa,Base.ev,SX.ev,evs,Value.oneCell',hF,g1,g2,g3,g4,b2]
     | true =>
      simp only [bad01,if_true] at g4
      refine Zae names_ok mixed_ok Za5 mk0 hsh ?_ (fun qs a1 w1 hq hx=>⟨fun _=>.inl ⟨_,rfl,.inl rfl,shMkP,_,[],hx,by kernel_rfl,rfl⟩,fun h=>absurd rfl h⟩)
      simp [-Zac,Zab,Zaa,Base.ev,SX.ev,evs,Value.oneCell',hF,g1,g2,g3,g4,b2]

theorem toldNd (k:Nat):ToldX 165 (ENd k) [pvS2,pvS3] (spec RNd):=by
 refine Zf4 FB _ (Zat Tryz.prog 165) Tryz.func165 (by kernel_rfl) shNd (by kernel_rfl) ?_ ?_
 ·intro ps qs h
  obtain ⟨s,n,_,_,rfl,rfl⟩:=Zah h
  exact Zc0 rfl
 ·intro C ps qs hF h x w hsh
  obtain ⟨⟨fs,ms,ep⟩,i,hp,hi,rfl,rfl⟩:=Zah h
  have hi:i < fs.length:=hi
  show wpL Tryz.prog flNd _ x w
  rw [<- List.append_nil flNd]
  obtain ⟨c0,c1,c2⟩:=cellF fs i hi
  have hfl:fs.length<=1000000:=hp.fl
  have ix:=Zbi encF fs i 3 3 .i64 rfl hi (by decide)
  have v3:IntKind.i64.wrap ((i:Int)+1)=(i:Int)+1:=wrapI _ (by omega) (by omega)
  obtain ⟨hs1,hs2⟩:=hp.fv _ (List.getElem_mem hi)
  have g1:=FB1 (l:=fs) (s:=fs[i].1) hfl hs1
  have g2:=FB2 fs[i].2.1 1 1073741824
  have g3:=FB2 (fs[i].2.2.size:Int) 0 24
  have hg:fs.getD i f00=fs[i]:=by simp [List.getD,hi]
  have h24:numB (fs[i].2.2.size:Int) 0 24=decide (fs[i].2.2.size<=24):=by
   simp only [numB,show (0:Int)<=(fs[i].2.2.size:Int) by omega,decide_true,Bool.true_and,decide_eq_decide]
   all_goals omega
  rw [h24] at g3
  have hN:Zg2 fs i fs[i]=if findN fs fs[i].1=some i then (if numB fs[i].2.1 1 1073741824 && decide (fs[i].2.2.size<=24) then 0 else 2) else 1:=rfl
  simp only [hg,hN]
  clear hN
  cases hf:findN fs fs[i].1 with
  | none =>
   rw [hf] at g1
   simp only [ansQ] at g1
   generalize fs[i]=f at *
   refine Zae names_ok mixed_ok Za5 nd1 hsh ?_ (fun qs a1 w1 hq hx=>⟨nofun,fun _=>.inr ⟨0,_,_,_,rfl,rfl,rfl,hx⟩⟩)
   simp [-Zac,Zab,Zaa,Base.ev,SX.ev,evs,Value.oneCell',hF,Zad,binPV,v3,ix,c0,c1,c2,g1,b1]
   all_goals omega
  | some j =>
   rw [hf] at g1
   simp only [ansQ] at g1
   by_cases hj:j=i
   ·subst hj
    simp only [if_true]
    cases hv:numB fs[j].2.1 1 1073741824 with
    | false =>
     rw [hv] at g2
     simp only [bad01,Bool.false_eq_true,if_false] at g2
     generalize fs[j]=f at *
     refine Zae names_ok mixed_ok Za5 nd3 hsh ?_ (fun qs a1 w1 hq hx=>⟨nofun,fun _=>.inr ⟨1,_,_,_,rfl,rfl,rfl,hx⟩⟩)
     simp [-Zac,Zab,Zaa,Base.ev,SX.ev,evs,Value.oneCell',hF,Zad,binPV,v3,ix,c0,c1,c2,g1,g2,b1,b2]
    | true =>
     rw [hv] at g2
     simp only [bad01,if_true] at g2
     cases hb:decide (fs[j].2.2.size<=24) with
     | false =>
      rw [hb] at g3
      simp only [bad01,Bool.false_eq_true,if_false] at g3
      generalize fs[j]=f at *
      refine Zae names_ok mixed_ok Za5 nd4 hsh ?_ (fun qs a1 w1 hq hx=>⟨nofun,fun _=>.inr ⟨1,_,_,_,rfl,rfl,rfl,hx⟩⟩)
      simp [-Zac,Zab,Zaa,Base.ev,SX.ev,evs,Value.oneCell',hF,Zad,binPV,Zbc,v3,ix,c0,c1,c2,g1,g2,g3,b1,b2]
     | true =>
      rw [hb] at g3
      simp only [bad01,if_true] at g3
      generalize fs[j]=f at *
      refine Zae names_ok mixed_ok Za5 nd0 hsh ?_ (fun qs a1 w1 hq hx=>⟨fun _=>.inl ⟨_,rfl,.inl rfl,shNdP,_,[],hx,by kernel_rfl,rfl⟩,fun h=>absurd rfl h⟩)
      simp [-Zac,Zab,Zaa,Base.ev,SX.ev,evs,Value.oneCell',hF,Zad,binPV,Zbc,v3,ix,c0,c1,c2,g1,g2,g3,b1,b2]
   ·have hji:¬ ((j+1:Nat):Int)=(i:Int)+1:=by omega
    simp only [if_neg (show ¬ some j=some i by simpa using hj)]
    generalize fs[i]=f at *
    refine Zae names_ok mixed_ok Za5 nd2 hsh ?_ (fun qs a1 w1 hq hx=>⟨nofun,fun _=>.inr ⟨0,_,_,_,rfl,rfl,rfl,hx⟩⟩)
    simp [-Zac,Zab,Zaa,Base.ev,SX.ev,evs,Value.oneCell',hF,Zad,binPV,v3,ix,c0,c1,c2,g1,b1]
    all_goals omega
theorem b3:ToldX 165 (ENd 3) [pvS2,pvS3] (FB 3):=toldNd 3
theorem b4:ToldX 166 (EMk 4) [pvS3] (FB 4):=toldMk 4

theorem named_le (fs:List FileM) (i:Nat) (f:FileM):Zg2 fs i f=0 \/ Zg2 fs i f=1 \/ Zg2 fs i f=2:=by
 unfold Zg2
 split
 ·split <;> simp
 ·simp
theorem cutM1:flMb=flMb.take 4++.block (Zbj (nth flMb 4)) (.loop (Zaq (nth flMb 4))) :: flMb.drop 5:=by kernel_rfl
theorem cutM2:flMb.drop 5=(flMb.drop 5).take 1++.block (Zbj (nth flMb 6)) (.loop (Zaq (nth flMb 6))) :: flMb.drop 7:=by kernel_rfl
set_option maxHeartbeats 1000000 in
theorem toldMb (k:Nat):ToldX 153 (EMb k) [pvS1,pvS2,pvS3] (spec RMb):=by
 refine Zf4 FB _ (Zat Tryz.prog 153) Tryz.func153 (by kernel_rfl) shMb (by kernel_rfl) ?_ ?_
 ·intro ps qs h
  obtain ⟨s,_,rfl,rfl⟩:=Zah h
  exact Zc0 rfl
 ·intro C ps qs hF h x w hsh
  obtain ⟨⟨fs,ms,ep⟩,hp,rfl,rfl⟩:=Zah h
  have hfl:fs.length<=1000000:=hp.fl
  have hml:ms.length<=1000000:=hp.ml
  show wpL Tryz.prog flMb _ x w
  rw [cutM1]
  by_cases h6:fs.length=6
  ·have h6':(fs.length:Int)=6:=by omega
   by_cases h3:ms.length=3
   ·have h3':(ms.length:Int)=3:=by omega
    refine Zae names_ok mixed_ok Za5 mb0 hsh ?_ ?_
    ·simp [-Zac,Zab,Zaa,Base.ev,SX.ev,evs,Value.oneCell',hF,Zad,binPV,h6',h3']
    intro qs a1 w1 hq h1
    refine ⟨fun _=>?_,fun h=>absurd rfl h⟩
    simp [evs,SX.ev,Zad] at hq
    subst hq
    refine Zda (fun n a w=>∃ i,i<=fs.length/\n=fs.length - i/\(∀ j (hj:j < fs.length),j < i->fileN fs j fs[j]=0)/\Zam C shM1 [pRow encF fs,pI (fs.length:Int),pI (i:Int),pRow encF fs,pRow encM ms,pI ep] a w) ?_ (n:=fs.length) ⟨0,by omega,by omega,fun j _ hj=>absurd hj (by omega),h1⟩
    rintro n a w ⟨i,hi,rfl,hb,hin⟩
    show wpL Tryz.prog lpM1 _ a w
    rw [<- List.append_nil lpM1]
    by_cases hlt:i < fs.length
    ·obtain ⟨c0,c1,c2⟩:=cellF fs i hlt
     have ix:=Zbi encF fs i 3 3 .i64 rfl hlt (by decide)
     have v3:IntKind.i64.wrap ((i:Int)+1)=(i:Int)+1:=wrapI _ (by omega) (by omega)
     obtain ⟨t1,t2,t3,r1,r2,r3,ra⟩:=cmpE fs[i]
     have g3:FB 3 [pRow encF fs,pI (i:Int)]=some [pI (Zg2 fs i (fs.getD i f00):Nat)]:=FB3 (s:=⟨fs,ms,ep⟩) hp hlt
     have hg:fs.getD i f00=fs[i]:=by simp [List.getD,hlt]
     rw [hg] at g3
     have hfN:fileN fs i fs[i]=if isE0 fs[i] then 0 else Zg2 fs i fs[i]:=rfl
     have bad:∀ r,r ≠ 0->fileN fs i fs[i]=r->mustN ⟨fs,ms,ep⟩=r+1:=fun r h0 hr=>by
      have:=filesN_at fs fs 0 i hlt (fun k hk hlt'=>by rw [Nat.zero_add];exact hb k hk hlt') (by rw [Nat.zero_add,hr];exact h0)
      rw [Nat.zero_add,hr] at this
      unfold mustN
      rw [if_pos ⟨h6,h3⟩,if_neg (by rw [this];exact h0),this]
     have next:fileN fs i fs[i]=0->∀ j (hj:j < fs.length),j < i+1->fileN fs j fs[j]=0:=fun h0 j hj hji=>by
      by_cases hje:j=i
      ·subst hje;exact h0
      ·exact hb j hj (by omega)
     cases hE:isE0 fs[i] with
     | true =>
      rw [hE] at ra
      have hnx:=next (by rw [hfN,hE];rfl)
      clear bad next hb hfN hE
      generalize fs[i]=f at *
      refine Zae names_ok mixed_ok Za5 me1 hin ?_ (fun qs a1 w1 hq h1=>⟨fun _=>.inl ⟨rfl,fs.length - (i+1),by omega,i+1,by omega,rfl,hnx,by simp [evs,SX.ev,binPV,v3] at hq;subst hq;exact h1⟩,fun h=>absurd rfl h⟩)
      simp [-Zac,Zab,Zaa,Base.ev,SX.ev,evs,Value.oneCell',hF,Zad,binPV,v3,hlt,ix,c0,c1,c2,r1,r2,r3,ra,rnot]
     | false =>
      rw [hE] at ra
      have hfN':fileN fs i fs[i]=Zg2 fs i fs[i]:=by rw [hfN,hE];rfl
      rw [hfN'] at bad next
      have hnm:=named_le fs i fs[i]
      generalize Zg2 fs i fs[i]=nm at *
      clear hE hfN hfN' hb
      rcases hnm with rfl | rfl | rfl
      ·have hnx:=next rfl
       clear bad next
       generalize fs[i]=f at *
       refine Zae names_ok mixed_ok Za5 mn1 hin ?_ (fun qs a1 w1 hq h1=>⟨fun _=>.inl ⟨rfl,fs.length - (i+1),by omega,i+1,by omega,rfl,hnx,by simp [evs,SX.ev,binPV,v3] at hq;subst hq;exact h1⟩,fun h=>absurd rfl h⟩)
       simp [-Zac,Zab,Zaa,Base.ev,SX.ev,evs,Value.oneCell',hF,Zad,binPV,v3,hlt,ix,c0,c1,c2,r1,r2,r3,ra,rnot,g3,b3]
      ·have hq0:[pI (mustN ⟨fs,ms,ep⟩:Nat)]=[pI (1+1:Nat)]:=by rw [bad 1 (by omega) rfl]
       clear bad next
       generalize fs[i]=f at *
       refine Zae names_ok mixed_ok Za5 mb3 hin ?_ (fun qs a1 w1 hq h1=>⟨nofun,fun _=>.inr (.inr (.inr ⟨_,rfl,.inr ⟨1,_,_,_,hq0,rfl,rfl,h1⟩⟩))⟩)
       simp [-Zac,Zab,Zaa,Base.ev,SX.ev,evs,Value.oneCell',hF,Zad,binPV,v3,hlt,ix,c0,c1,c2,r1,r2,r3,ra,rnot,g3,b3]
      ·have hq0:[pI (mustN ⟨fs,ms,ep⟩:Nat)]=[pI (2+1:Nat)]:=by rw [bad 2 (by omega) rfl]
       clear bad next
       generalize fs[i]=f at *
       refine Zae names_ok mixed_ok Za5 mb4 hin ?_ (fun qs a1 w1 hq h1=>⟨nofun,fun _=>.inr (.inr (.inr ⟨_,rfl,.inr ⟨2,_,_,_,hq0,rfl,rfl,h1⟩⟩))⟩)
       simp [-Zac,Zab,Zaa,Base.ev,SX.ev,evs,Value.oneCell',hF,Zad,binPV,v3,hlt,ix,c0,c1,c2,r1,r2,r3,ra,rnot,g3,b3]
    ·have hie:i=fs.length:=by omega
     subst hie
     have hfz:Zfy fs 0 fs=0:=(Zfx fs fs 0).2 fun j hj=>by rw [Nat.zero_add];exact hb j hj hj
     have hM:mustN ⟨fs,ms,ep⟩=if ms.all markB && numB ep 0 1073741824 then 0 else 3:=by
      unfold mustN
      rw [if_pos ⟨h6,h3⟩,if_pos hfz]
     clear hb hfz
     refine Zae names_ok mixed_ok Za5 mx1 hin ?_ ?_
     ·simp [-Zac,Zab,Zaa,Base.ev,SX.ev,evs,Value.oneCell',binPV]
     intro qs a1 w1 hq h1
     refine ⟨nofun,fun _=>.inr (.inl ⟨by rw [show Zbj (nth flMb 4)=0 by kernel_rfl];rfl,?_⟩)⟩
     simp [evs,SX.ev] at hq
     subst hq
     rw [cutM2]
     refine Zae names_ok mixed_ok Za5 mid h1 ?_ ?_
     ·simp [-Zac,Zab,Zaa,Base.ev,SX.ev,evs,Value.oneCell',Zad]
     intro qs a1 w1 hq h1
     refine ⟨fun _=>?_,fun h=>absurd rfl h⟩
     simp [evs,SX.ev,Zad] at hq
     subst hq
     refine Zda (fun n a w=>∃ i,i<=ms.length/\n=ms.length - i/\(∀ j (hj:j < ms.length),j < i->markB ms[j]=true)/\Zam C shM2 [pRow encM ms,pI (ms.length:Int),pI (i:Int),pRow encF fs,pRow encM ms,pI ep] a w) ?_ (n:=ms.length) ⟨0,by omega,by omega,fun j _ hj=>absurd hj (by omega),h1⟩
     rintro n a w ⟨i,hi,rfl,hb,hin⟩
     show wpL Tryz.prog lpM2 _ a w
     rw [<- List.append_nil lpM2]
     by_cases hlt:i < ms.length
     ·obtain ⟨c0,c1,c2,c3⟩:=Zrs ms i hlt
      have ix:=Zbi encM ms i 4 4 .i64 rfl hlt (by decide)
      have v3:IntKind.i64.wrap ((i:Int)+1)=(i:Int)+1:=wrapI _ (by omega) (by omega)
      have g4:FB 4 [pI ms[i].1,pI ms[i].2.1,pI ms[i].2.2.1,pI ms[i].2.2.2]=some [pI (bad01 (markB ms[i]):Nat)]:=FB4 ms[i]
      cases hm:markB ms[i] with
      | true =>
       rw [hm] at g4
       simp only [bad01,if_true] at g4
       have hnx:∀ j (hj:j < ms.length),j < i+1->markB ms[j]=true:=fun j hj hji=>by
        by_cases hje:j=i
        ·subst hje;exact hm
        ·exact hb j hj (by omega)
       clear hb hm
       generalize ms[i]=f at *
       refine Zae names_ok mixed_ok Za5 me2 hin ?_ (fun qs a1 w1 hq h1=>⟨fun _=>.inl ⟨rfl,ms.length - (i+1),by omega,i+1,by omega,rfl,hnx,by simp [evs,SX.ev,binPV,v3] at hq;subst hq;exact h1⟩,fun h=>absurd rfl h⟩)
       simp [-Zac,Zab,Zaa,Base.ev,SX.ev,evs,Value.oneCell',hF,Zad,binPV,v3,hlt,ix,c0,c1,c2,c3,g4,b4]
      | false =>
       rw [hm] at g4
       simp only [bad01,Bool.false_eq_true,if_false] at g4
       have hq0:[pI (mustN ⟨fs,ms,ep⟩:Nat)]=[pI (2+1:Nat)]:=by
        rw [hM,if_neg]
        intro h
        rw [Bool.and_eq_true,List.all_eq_true] at h
        rw [h.1 _ (List.getElem_mem hlt)] at hm
        cases hm
       clear hb hm
       generalize ms[i]=f at *
       refine Zae names_ok mixed_ok Za5 mb5 hin ?_ (fun qs a1 w1 hq h1=>⟨nofun,fun _=>.inr (.inr (.inr ⟨_,rfl,.inr ⟨2,_,_,_,hq0,rfl,rfl,h1⟩⟩))⟩)
       simp [-Zac,Zab,Zaa,Base.ev,SX.ev,evs,Value.oneCell',hF,Zad,binPV,v3,hlt,ix,c0,c1,c2,c3,g4,b4]
     ·have hie:i=ms.length:=by omega
      subst hie
      have hall:ms.all markB=true:=by
       rw [List.all_eq_true]
       intro m hm
       obtain ⟨j,hj,rfl⟩:=List.getElem_of_mem hm
       exact hb j hj hj
      rw [hall,Bool.true_and] at hM
      refine Zae names_ok mixed_ok Za5 mx2 hin ?_ ?_
      ·simp [-Zac,Zab,Zaa,Base.ev,SX.ev,evs,Value.oneCell',binPV]
      intro qs a1 w1 hq h1
      refine ⟨nofun,fun _=>.inr (.inl ⟨by rw [show Zbj (nth flMb 6)=2 by kernel_rfl];rfl,?_⟩)⟩
      simp [evs,SX.ev] at hq
      subst hq
      rw [<- List.append_nil (flMb.drop 7)]
      have g2:=FB2 ep 0 1073741824
      cases he:numB ep 0 1073741824 with
      | true =>
       rw [he] at g2 hM
       simp only [bad01,if_true] at g2 hM
       have hq0:[pI (mustN ⟨fs,ms,ep⟩:Nat)]=[pI 0]:=by rw [hM];rfl
       refine Zae names_ok mixed_ok Za5 mz0 h1 ?_ (fun qs a1 w1 hq hx=>⟨fun _=>.inl ⟨_,hq0,.inl rfl,shMbP,_,[],hx,by kernel_rfl,rfl⟩,fun h=>absurd rfl h⟩)
       simp [-Zac,Zab,Zaa,Base.ev,SX.ev,evs,Value.oneCell',hF,g2,b2]
      | false =>
       rw [he] at g2 hM
       simp only [bad01,Bool.false_eq_true,if_false] at g2 hM
       have hq0:[pI (mustN ⟨fs,ms,ep⟩:Nat)]=[pI (2+1:Nat)]:=by rw [hM]
       refine Zae names_ok mixed_ok Za5 mz1 h1 ?_ (fun qs a1 w1 hq hx=>⟨nofun,fun _=>.inr ⟨2,_,_,_,hq0,rfl,rfl,hx⟩⟩)
       simp [-Zac,Zab,Zaa,Base.ev,SX.ev,evs,Value.oneCell',hF,g2,b2]
   ·have h3':¬ (ms.length:Int)=3:=by omega
    have hq0:[pI (mustN ⟨fs,ms,ep⟩:Nat)]=[pI (0+1:Nat)]:=by
     unfold mustN
     rw [if_neg (fun h=>h3 h.2)]
    refine Zae names_ok mixed_ok Za5 mb2 hsh ?_ (fun qs a1 w1 hq hx=>⟨nofun,fun _=>.inr ⟨0,_,_,_,hq0,rfl,rfl,hx⟩⟩)
    simp [-Zac,Zab,Zaa,Base.ev,SX.ev,evs,Value.oneCell',hF,Zad,binPV,h6',h3',h3]
  ·have h6':¬ (fs.length:Int)=6:=by omega
   have hq0:[pI (mustN ⟨fs,ms,ep⟩:Nat)]=[pI (0+1:Nat)]:=by
    unfold mustN
    rw [if_neg (fun h=>h6 h.1)]
   refine Zae names_ok mixed_ok Za5 mb1 hsh ?_ (fun qs a1 w1 hq hx=>⟨nofun,fun _=>.inr ⟨0,_,_,_,hq0,rfl,rfl,hx⟩⟩)
   simp [-Zac,Zab,Zaa,Base.ev,SX.ev,evs,Value.oneCell',hF,Zad,binPV,h6',h6]
theorem b5:ToldX 153 (EMb 5) [pvS1,pvS2,pvS3] (FB 5):=toldMb 5
theorem must_le (s:StM):mustN s=0 \/ mustN s=1 \/ mustN s=2 \/ mustN s=3:=by
 have hx:∀ (fs r:List FileM) (i:Nat),Zfy fs i r=0 \/ Zfy fs i r=1 \/ Zfy fs i r=2:=by
  intro fs r
  induction r with
  | nil=>intro i;simp [Zfy]
  | cons f r ih =>
   intro i
   unfold Zfy
   split
   ·exact ih (i+1)
   ·unfold fileN
    split
    ·simp
    ·exact named_le fs i f
 have:=hx s.files s.files 0
 unfold mustN
 split
 ·split
  ·split <;> simp
  ·omega
 ·simp
theorem toldMayP (k:Nat):ToldF 132 (EMayS k) (spec RMayS):=by
 refine Zgh mixed_ok names_ok FB [.row,.row,.num] ?_
 intro ps qs h _
 obtain ⟨⟨fs,ms,ep⟩,hp,rfl,rfl⟩:=Zah h
 have g5:FB 5 [pRow encF fs,pRow encM ms,pI ep]=some [pI (mustN ⟨fs,ms,ep⟩:Nat)]:=FB5 hp
 have hm:mayS ⟨fs,ms,ep⟩=(mustN ⟨fs,ms,ep⟩ == 0):=rfl
 have hle:=must_le ⟨fs,ms,ep⟩
 rw [hm]
 generalize mustN ⟨fs,ms,ep⟩=r at *
 rcases hle with rfl | rfl | rfl | rfl
 ·refine ⟨_,_,_,_,_,_,Za5,my0,fun w FP=>?_,?_⟩
  ·simp [-Zac,Zab,Zaa,Base.ev,SX.ev,evs,Value.oneCell',g5,b5]
  ·simp [evs,SX.ev]
 ·refine ⟨_,_,_,_,_,_,Za5,my1,fun w FP=>?_,?_⟩
  ·simp [-Zac,Zab,Zaa,Base.ev,SX.ev,evs,Value.oneCell',g5,b5]
  ·simp [evs,SX.ev]
 ·refine ⟨_,_,_,_,_,_,Za5,my2,fun w FP=>?_,?_⟩
  ·simp [-Zac,Zab,Zaa,Base.ev,SX.ev,evs,Value.oneCell',g5,b5]
  ·simp [evs,SX.ev]
 ·refine ⟨_,_,_,_,_,_,Za5,my3,fun w FP=>?_,?_⟩
  ·simp [-Zac,Zab,Zaa,Base.ev,SX.ev,evs,Value.oneCell',g5,b5]
  ·simp [evs,SX.ev]
end Go.Proofs.YtpnegheknjeljaaGreat.sta
