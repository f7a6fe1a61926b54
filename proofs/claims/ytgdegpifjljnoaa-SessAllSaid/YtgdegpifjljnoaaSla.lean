/- SessAll by the symbolic engine. -/
import Derived.Test.YtgdegpifjljnoaaSjp
import Derived.Test.YtgdegpifjljnoaaSsf
import Derived.Test.YtgdegpifjljnoaaMkr
import Derived.Test.YtgdegpifjljnoaaFrameC
namespace Go.Proofs.Ytgdegpifjljnoaa.sessAll
open Go Go.RowKit eng SX Fact fil msm sjm sjd sjp
open sta (MarkM encM)
open mws (aP)
open myt (tP i64)
open mkr (EAkS toldAkS)
open fileFronts (Zac rowU)
set_option linter.unusedVariables false
set_option linter.unusedSimpArgs false
set_option maxRecDepth 1000000
def EDuN (k:Nat):FnE:={ k:=k,ins:=[some 11,none],leaks:=[false,false,false,false,false,false,false,false,false,false,false,false],outs:=[none],kinds:=[.num] }
def hA (_:FuncId) (o:Oper):Option Hint:=match o.op with | .binOp .neq 34 _ _ _=>some .parts | .binOp ..=>(match o.dst with | some d=>cond (Nat.ble 134 d) (some .lazy) none | none=>none) | .pick ..=>(match o.dst with | some d=>cond (Nat.ble 134 d) (some .lazy) none | none=>none) | _=>none
def tabA (f:FuncId):Option FnE:=cond (Nat.beq f 7) (some (ETrue 1)) (cond (Nat.beq f 10) (some (EJu 2)) (cond (Nat.beq f 11) (some (EJu 3)) (cond (Nat.beq f 12) (some (EDuN 4)) (cond (Nat.beq f 13) (some (EDuN 5)) none))))
def tabP (f:FuncId):Option PtrE:=cond (Nat.beq f 9) (some (EAkS 8)) none
def orcA:Orc:=orcOr (orcFn tabA) (orcP tabP)
noncomputable def flA:=flat (Zdy Try.prog 3)
def shA:Shape:=⟨[(0,.leaf),(1,.agg 3),(2,.agg 3),(3,.agg 3),(4,.leaf),(5,.agg 8),(6,.leaf),(7,.leaf),(8,.leaf)],[],[some true,none,none,none,none,none,none,none,none,none,none,none,none,none,none,none,none,none,some true,none,none,none],168,3⟩
def shAR:Shape:=⟨[(18,.leaf)],[],[none],168,3⟩
def z1:List SX:=[.conv .i64 (.bin .rem (.var 10) (.con (.int .u8 3))),.lit 2 [.conv .i64 (.bin .rem (.var 1) (.con (.int .u8 24))),.conv .i64 (.bin .rem (.var 2) (.con (.int .u8 24)))],.lit 3 [.con (.int .i64 1),.con (.int .i64 1),.con (.int .i64 0),.conv .i64 (.bin .rem (.var 4) (.con (.int .u8 24))),.conv .i64 (.bin .rem (.var 4) (.con (.int .u8 3))),.con (.int .i64 0),.con (.int .i64 0),.con (.int .i64 0),.con (.string { data:={ toList:=[] } }),.con (.int .i64 1),.con (.int .i64 2),.con (.int .i64 0),.conv .i64 (.bin .rem (.var 5) (.con (.int .u8 24))),.conv .i64 (.bin .rem (.var 5) (.con (.int .u8 3))),.con (.int .i64 0),.con (.int .i64 0),.con (.int .i64 0),.con (.string { data:={ toList:=[] } }),.con (.int .i64 1),.con (.int .i64 3),.con (.int .i64 0),.conv .i64 (.bin .rem (.var 6) (.con (.int .u8 24))),.conv .i64 (.bin .rem (.var 6) (.con (.int .u8 3))),.con (.int .i64 0),.con (.int .i64 0),.con (.int .i64 0),.con (.string { data:={ toList:=[] } })],.lit 3 [.conv .i64 (.bin .rem (.var 7) (.con (.int .u8 24))),.conv .i64 (.bin .rem (.var 7) (.con (.int .u8 4))),.con (.int .i64 1),.con (.int .i64 7),.conv .i64 (.bin .rem (.var 8) (.con (.int .u8 24))),.conv .i64 (.bin .rem (.var 8) (.con (.int .u8 4))),.con (.int .i64 2),.con (.int .i64 7),.conv .i64 (.bin .rem (.var 9) (.con (.int .u8 24))),.conv .i64 (.bin .rem (.var 9) (.con (.int .u8 4))),.con (.int .i64 3),.con (.int .i64 7)],.fn 8 [.var 0,.con (.int .i64 0)] 0,.fn 8 [.var 0,.con (.int .i64 0)] 1,.fn 8 [.var 0,.con (.int .i64 0)] 2,.fn 8 [.var 0,.con (.int .i64 0)] 3,.fn 8 [.var 0,.con (.int .i64 0)] 4,.fn 8 [.var 0,.con (.int .i64 0)] 5,.fn 8 [.var 0,.con (.int .i64 0)] 6,.fn 8 [.var 0,.con (.int .i64 0)] 7]
def z2:List SX:=[.conv .i64 (.bin .rem (.var 10) (.con (.int .u8 3))),.lit 3 [.conv .i64 (.bin .rem (.var 1) (.con (.int .u8 24))),.conv .i64 (.bin .rem (.var 2) (.con (.int .u8 24))),.conv .i64 (.bin .rem (.var 3) (.con (.int .u8 24)))],.lit 2 [.con (.int .i64 1),.con (.int .i64 1),.con (.int .i64 0),.conv .i64 (.bin .rem (.var 4) (.con (.int .u8 24))),.conv .i64 (.bin .rem (.var 4) (.con (.int .u8 3))),.con (.int .i64 0),.con (.int .i64 0),.con (.int .i64 0),.con (.string { data:={ toList:=[] } }),.con (.int .i64 1),.con (.int .i64 2),.con (.int .i64 0),.conv .i64 (.bin .rem (.var 5) (.con (.int .u8 24))),.conv .i64 (.bin .rem (.var 5) (.con (.int .u8 3))),.con (.int .i64 0),.con (.int .i64 0),.con (.int .i64 0),.con (.string { data:={ toList:=[] } })],.lit 3 [.conv .i64 (.bin .rem (.var 7) (.con (.int .u8 24))),.conv .i64 (.bin .rem (.var 7) (.con (.int .u8 4))),.con (.int .i64 1),.con (.int .i64 7),.conv .i64 (.bin .rem (.var 8) (.con (.int .u8 24))),.conv .i64 (.bin .rem (.var 8) (.con (.int .u8 4))),.con (.int .i64 2),.con (.int .i64 7),.conv .i64 (.bin .rem (.var 9) (.con (.int .u8 24))),.conv .i64 (.bin .rem (.var 9) (.con (.int .u8 4))),.con (.int .i64 3),.con (.int .i64 7)],.fn 8 [.var 0,.con (.int .i64 0)] 0,.fn 8 [.var 0,.con (.int .i64 0)] 1,.fn 8 [.var 0,.con (.int .i64 0)] 2,.fn 8 [.var 0,.con (.int .i64 0)] 3,.fn 8 [.var 0,.con (.int .i64 0)] 4,.fn 8 [.var 0,.con (.int .i64 0)] 5,.fn 8 [.var 0,.con (.int .i64 0)] 6,.fn 8 [.var 0,.con (.int .i64 0)] 7]
def z3:List SX:=[.conv .i64 (.bin .rem (.var 10) (.con (.int .u8 3))),.lit 3 [.conv .i64 (.bin .rem (.var 1) (.con (.int .u8 24))),.conv .i64 (.bin .rem (.var 2) (.con (.int .u8 24))),.conv .i64 (.bin .rem (.var 3) (.con (.int .u8 24)))],.lit 3 [.con (.int .i64 1),.con (.int .i64 1),.con (.int .i64 0),.conv .i64 (.bin .rem (.var 4) (.con (.int .u8 24))),.conv .i64 (.bin .rem (.var 4) (.con (.int .u8 3))),.con (.int .i64 0),.con (.int .i64 0),.con (.int .i64 0),.con (.string { data:={ toList:=[] } }),.con (.int .i64 1),.con (.int .i64 2),.con (.int .i64 0),.conv .i64 (.bin .rem (.var 5) (.con (.int .u8 24))),.conv .i64 (.bin .rem (.var 5) (.con (.int .u8 3))),.con (.int .i64 0),.con (.int .i64 0),.con (.int .i64 0),.con (.string { data:={ toList:=[] } }),.con (.int .i64 1),.con (.int .i64 3),.con (.int .i64 0),.conv .i64 (.bin .rem (.var 6) (.con (.int .u8 24))),.conv .i64 (.bin .rem (.var 6) (.con (.int .u8 3))),.con (.int .i64 0),.con (.int .i64 0),.con (.int .i64 0),.con (.string { data:={ toList:=[] } })],.lit 3 [.conv .i64 (.bin .rem (.var 7) (.con (.int .u8 24))),.conv .i64 (.bin .rem (.var 7) (.con (.int .u8 4))),.con (.int .i64 1),.con (.int .i64 7),.conv .i64 (.bin .rem (.var 8) (.con (.int .u8 24))),.conv .i64 (.bin .rem (.var 8) (.con (.int .u8 4))),.con (.int .i64 2),.con (.int .i64 7),.conv .i64 (.bin .rem (.var 9) (.con (.int .u8 24))),.conv .i64 (.bin .rem (.var 9) (.con (.int .u8 4))),.con (.int .i64 3),.con (.int .i64 7)],.fn 8 [.var 0,.con (.int .i64 0)] 0,.fn 8 [.var 0,.con (.int .i64 0)] 1,.fn 8 [.var 0,.con (.int .i64 0)] 2,.fn 8 [.var 0,.con (.int .i64 0)] 3,.fn 8 [.var 0,.con (.int .i64 0)] 4,.fn 8 [.var 0,.con (.int .i64 0)] 5,.fn 8 [.var 0,.con (.int .i64 0)] 6,.fn 8 [.var 0,.con (.int .i64 0)] 7]
@[simp] def zSla1:SX:=.lit 3 [.con (.int .i64 1),.con (.int .i64 1),.con (.int .i64 0),.conv .i64 (.bin .rem (.var 4) (.con (.int .u8 24))),.conv .i64 (.bin .rem (.var 4) (.con (.int .u8 3))),.con (.int .i64 0),.con (.int .i64 0),.con (.int .i64 0),.con (.string { data:={ toList:=[] } }),.con (.int .i64 1),.con (.int .i64 2),.con (.int .i64 0),.conv .i64 (.bin .rem (.var 5) (.con (.int .u8 24))),.conv .i64 (.bin .rem (.var 5) (.con (.int .u8 3))),.con (.int .i64 0),.con (.int .i64 0),.con (.int .i64 0),.con (.string { data:={ toList:=[] } }),.con (.int .i64 1),.con (.int .i64 3),.con (.int .i64 0),.conv .i64 (.bin .rem (.var 6) (.con (.int .u8 24))),.conv .i64 (.bin .rem (.var 6) (.con (.int .u8 3))),.con (.int .i64 0),.con (.int .i64 0),.con (.int .i64 0),.con (.string { data:={ toList:=[] } })]
@[simp] def zSla2:SX:=.lit 3 [.conv .i64 (.bin .rem (.var 7) (.con (.int .u8 24))),.conv .i64 (.bin .rem (.var 7) (.con (.int .u8 4))),.con (.int .i64 1),.con (.int .i64 7),.conv .i64 (.bin .rem (.var 8) (.con (.int .u8 24))),.conv .i64 (.bin .rem (.var 8) (.con (.int .u8 4))),.con (.int .i64 2),.con (.int .i64 7),.conv .i64 (.bin .rem (.var 9) (.con (.int .u8 24))),.conv .i64 (.bin .rem (.var 9) (.con (.int .u8 4))),.con (.int .i64 3),.con (.int .i64 7)]
@[simp] def zSla3:List SX:=[.conv .i64 (.bin .rem (.var 10) (.con (.int .u8 3))),.lit 3 [.conv .i64 (.bin .rem (.var 1) (.con (.int .u8 24))),.conv .i64 (.bin .rem (.var 2) (.con (.int .u8 24))),.conv .i64 (.bin .rem (.var 3) (.con (.int .u8 24)))],.lit 2 [.con (.int .i64 1),.con (.int .i64 1),.con (.int .i64 0),.conv .i64 (.bin .rem (.var 4) (.con (.int .u8 24))),.conv .i64 (.bin .rem (.var 4) (.con (.int .u8 3))),.con (.int .i64 0),.con (.int .i64 0),.con (.int .i64 0),.con (.string { data:={ toList:=[] } }),.con (.int .i64 1),.con (.int .i64 2),.con (.int .i64 0),.conv .i64 (.bin .rem (.var 5) (.con (.int .u8 24))),.conv .i64 (.bin .rem (.var 5) (.con (.int .u8 3))),.con (.int .i64 0),.con (.int .i64 0),.con (.int .i64 0),.con (.string { data:={ toList:=[] } })],zSla2,.var 11,.var 12,.var 13,.var 14,.var 15,.var 16,.var 17,.var 18]
@[simp] def zSla4:List SX:=[.conv .i64 (.bin .rem (.var 10) (.con (.int .u8 3))),.lit 3 [.conv .i64 (.bin .rem (.var 1) (.con (.int .u8 24))),.conv .i64 (.bin .rem (.var 2) (.con (.int .u8 24))),.conv .i64 (.bin .rem (.var 3) (.con (.int .u8 24)))],zSla1,zSla2,.var 11,.var 12,.var 13,.var 14,.var 15,.var 16,.var 17,.var 18]
@[simp] def zSla5:List SX:=[.conv .i64 (.bin .rem (.var 10) (.con (.int .u8 3))),.lit 2 [.conv .i64 (.bin .rem (.var 1) (.con (.int .u8 24))),.conv .i64 (.bin .rem (.var 2) (.con (.int .u8 24)))],zSla1,zSla2,.var 11,.var 12,.var 13,.var 14,.var 15,.var 16,.var 17,.var 18]
@[simp] def zSla6:List SX:=[.bin .eql (.bin .rem (.var 19) (.con (.int .u8 2))) (.con (.int .u8 0)),.con (.int .i64 0),.con (.int .i64 0),.con (.int .i64 0),.con (.int .i64 0),.con (.string { data:={ toList:=[] } }),.con (.int .i64 0),.con (.int .i64 0),.lit 0 [],.con (.int .i64 0),.conv .i64 (.var 20),.conv .i64 (.var 21)]
@[simp] def zSla7:List SX:=[.bin .eql (.bin .rem (.var 19) (.con (.int .u8 2))) (.con (.int .u8 0)),.con (.int .i64 0),.con (.int .i64 0),.con (.int .i64 0),.con (.int .i64 0),.con (.string { data:={ toList:=[] } }),.con (.int .i64 0),.con (.int .i64 0),.lit 0 [],.con (.int .i64 0),.conv .i64 (.var 20),.bin .add (.conv .i64 (.var 20)) (.con (.int .i64 10))]
@[simp] def zSla8:List SX:=[.bin .eql (.bin .rem (.var 19) (.con (.int .u8 2))) (.con (.int .u8 0)),.con (.int .i64 0),.con (.int .i64 0),.con (.int .i64 0),.con (.int .i64 0),.con (.string { data:={ toList:=[] } }),.con (.int .i64 0),.con (.int .i64 0),.lit 0 [],.con (.int .i64 0),.conv .i64 (.var 20),.bin .add (.conv .i64 (.var 20)) (.con (.int .i64 9))]
@[simp] def zSla9:SX:=.bin .rem (.var 10) (.con (.int .u8 3))
@[simp] def Zjc:SX:=.bin .eql (.bin .rem (.var 19) (.con (.int .u8 2))) (.con (.int .u8 0))
@[simp] def Zgn:SX:=.con (.int .u8 24)
@[simp] def Zbi:List SX:=[.var 0,.con (.int .i64 0)]
@[simp] def Zh5:SX:=.bin .rem (.var 19) (.con (.int .u8 8))
@[simp] def zSla14:SX:=rop ROp.notB [rop ROp.allB [rop ROp.eqI [.fn 2 zSla5 1,.fn 3 zSla5 1],rop ROp.eqI [.fn 2 zSla5 2,.fn 3 zSla5 2],rop ROp.eqI [.fn 2 zSla5 3,.fn 3 zSla5 3],rop ROp.eqI [.fn 2 zSla5 4,.fn 3 zSla5 4],rop ROp.eqI [.fn 2 zSla5 5,.fn 3 zSla5 5],rop ROp.eqI [.fn 2 zSla5 6,.fn 3 zSla5 6],rop ROp.eqI [.fn 2 zSla5 7,.fn 3 zSla5 7],rop ROp.eqI [.fn 2 zSla5 8,.fn 3 zSla5 8],rop ROp.eqS [.fn 2 zSla5 9,.fn 3 zSla5 9]]]
@[simp] def zSla15:SX:=rop ROp.notB [rop ROp.allB [rop ROp.eqI [.fn 2 zSla3 1,.fn 3 zSla3 1],rop ROp.eqI [.fn 2 zSla3 2,.fn 3 zSla3 2],rop ROp.eqI [.fn 2 zSla3 3,.fn 3 zSla3 3],rop ROp.eqI [.fn 2 zSla3 4,.fn 3 zSla3 4],rop ROp.eqI [.fn 2 zSla3 5,.fn 3 zSla3 5],rop ROp.eqI [.fn 2 zSla3 6,.fn 3 zSla3 6],rop ROp.eqI [.fn 2 zSla3 7,.fn 3 zSla3 7],rop ROp.eqI [.fn 2 zSla3 8,.fn 3 zSla3 8],rop ROp.eqS [.fn 2 zSla3 9,.fn 3 zSla3 9]]]
@[simp] def zSla16:SX:=rop ROp.notB [rop ROp.allB [rop ROp.eqI [.fn 2 zSla4 1,.fn 3 zSla4 1],rop ROp.eqI [.fn 2 zSla4 2,.fn 3 zSla4 2],rop ROp.eqI [.fn 2 zSla4 3,.fn 3 zSla4 3],rop ROp.eqI [.fn 2 zSla4 4,.fn 3 zSla4 4],rop ROp.eqI [.fn 2 zSla4 5,.fn 3 zSla4 5],rop ROp.eqI [.fn 2 zSla4 6,.fn 3 zSla4 6],rop ROp.eqI [.fn 2 zSla4 7,.fn 3 zSla4 7],rop ROp.eqI [.fn 2 zSla4 8,.fn 3 zSla4 8],rop ROp.eqS [.fn 2 zSla4 9,.fn 3 zSla4 9]]]
@[simp] def zSla17:SX:=rop ROp.notB [rop ROp.allB [rop ROp.eqI [.fn 2 z1 1,.fn 3 z1 1],rop ROp.eqI [.fn 2 z1 2,.fn 3 z1 2],rop ROp.eqI [.fn 2 z1 3,.fn 3 z1 3],rop ROp.eqI [.fn 2 z1 4,.fn 3 z1 4],rop ROp.eqI [.fn 2 z1 5,.fn 3 z1 5],rop ROp.eqI [.fn 2 z1 6,.fn 3 z1 6],rop ROp.eqI [.fn 2 z1 7,.fn 3 z1 7],rop ROp.eqI [.fn 2 z1 8,.fn 3 z1 8],rop ROp.eqS [.fn 2 z1 9,.fn 3 z1 9]]]
@[simp] def zSla18:SX:=rop ROp.notB [rop ROp.allB [rop ROp.eqI [.fn 2 z2 1,.fn 3 z2 1],rop ROp.eqI [.fn 2 z2 2,.fn 3 z2 2],rop ROp.eqI [.fn 2 z2 3,.fn 3 z2 3],rop ROp.eqI [.fn 2 z2 4,.fn 3 z2 4],rop ROp.eqI [.fn 2 z2 5,.fn 3 z2 5],rop ROp.eqI [.fn 2 z2 6,.fn 3 z2 6],rop ROp.eqI [.fn 2 z2 7,.fn 3 z2 7],rop ROp.eqI [.fn 2 z2 8,.fn 3 z2 8],rop ROp.eqS [.fn 2 z2 9,.fn 3 z2 9]]]
@[simp] def zSla19:SX:=rop ROp.notB [rop ROp.allB [rop ROp.eqI [.fn 2 z3 1,.fn 3 z3 1],rop ROp.eqI [.fn 2 z3 2,.fn 3 z3 2],rop ROp.eqI [.fn 2 z3 3,.fn 3 z3 3],rop ROp.eqI [.fn 2 z3 4,.fn 3 z3 4],rop ROp.eqI [.fn 2 z3 5,.fn 3 z3 5],rop ROp.eqI [.fn 2 z3 6,.fn 3 z3 6],rop ROp.eqI [.fn 2 z3 7,.fn 3 z3 7],rop ROp.eqI [.fn 2 z3 8,.fn 3 z3 8],rop ROp.eqS [.fn 2 z3 9,.fn 3 z3 9]]]
@[simp] def Zh4:SX:=.bin .gtr (.len (.var 0)) (.con (.int .i64 20))
@[simp] def Zn4:SX:=.bin .geq (.conv .u64 (.bin .sub (.var 11) (.var 10))) (.con (.int .u64 (Int.ofNat 10)))
@[simp] def Zla:SX:=rop ROp.eqB [.fn 4 zSla8 0,.con (.bool false)]
@[simp] def Zey:SX:=.conv .i64 (.var 20)
@[simp] def Zk9:Fact:=.ok (.bin .rem (.var 19) (.con (.int .u8 2)))
@[simp] def Zo5:SX:=.con (.int .u8 3)
@[simp] def Zo4:SX:=.con (.int .u8 4)
@[simp] def Zk8:SX:=rop ROp.eqB [.fn 4 zSla6 0,.fn 5 zSla6 0]
@[simp] def Zer:Fact:=.ok (.conv .i64 zSla9)
@[simp] def Zk7:SX:=.bin .eql Zh5 (.con (.int .u8 0))
@[simp] def Zk6:SX:=.bin .eql Zh5 (.con (.int .u8 1))
@[simp] def Zk5:SX:=rop ROp.eqB [.fn 4 zSla7 0,Zjc]
@[simp] def Zk4:SX:=.bin .gtr (.var 11) (.var 10)
@[simp] def Zk3:Fact:=.ok (.conv .i64 (.var 21))
@[simp] def Zk2:SX:=.bin .rem (.var 1) Zgn
@[simp] def Zk1:SX:=.bin .rem (.var 4) Zgn
@[simp] def Zk0:SX:=.bin .rem (.var 4) Zo5
@[simp] def Zkz:SX:=.bin .rem (.var 7) Zgn
@[simp] def Zky:SX:=.bin .rem (.var 7) Zo4
@[simp] def Zkx:SX:=.bin .rem (.var 2) Zgn
@[simp] def Zkw:SX:=.bin .rem (.var 5) Zgn
@[simp] def Zkv:SX:=.bin .rem (.var 5) Zo5
@[simp] def Zku:SX:=.bin .rem (.var 8) Zgn
@[simp] def Zkt:SX:=.bin .rem (.var 8) Zo4
@[simp] def Zks:SX:=.bin .rem (.var 3) Zgn
@[simp] def Zkr:SX:=.bin .rem (.var 6) Zgn
@[simp] def Zkq:SX:=.bin .rem (.var 6) Zo5
@[simp] def Zkp:SX:=.bin .rem (.var 9) Zgn
@[simp] def Zko:SX:=.bin .rem (.var 9) Zo4
@[simp] def Zgm:SX:=.con (.bool true)
@[simp] def Zo3:Fact:=.ok (.bin .add Zey (.con (.int .i64 10)))
@[simp] def Zo2:Fact:=.ok (.bin .add Zey (.con (.int .i64 9)))
@[simp] def Zn3:Fact:=.is (.fn 1 [] 0) (.bool true)
@[simp] def Zn2:SX:=.bin .sub (.var 11) (.var 10)
theorem q1:segTo Try.prog orcA 10000 flA shA [1,1] shAR [] hA=some (.ret,[.fn 7 (ETrue 1) [],Zn3,.ok (.len (.var 0)),.ok Zh4,.is Zh4 (.bool true),.ok Zgm],[Zgm]):=by kernel_rfl
theorem m10:segTo Try.prog orcA 10000 flA shA [1,0,1,0,0,0,0,0,1,1,1,1] shAR [] hA=some (.ret,[.fn 7 (ETrue 1) [],Zn3,.ok (.len (.var 0)),.ok Zh4,.is Zh4 (.bool false),.ok Zk2,.ok (.conv .i64 Zk2),.ok Zk1,.ok (.conv .i64 Zk1),.ok Zk0,.ok (.conv .i64 Zk0),.ok Zkz,.ok (.conv .i64 Zkz),.ok Zky,.ok (.conv .i64 Zky),.ok Zkx,.ok (.conv .i64 Zkx),.ok Zkw,.ok (.conv .i64 Zkw),.ok Zkv,.ok (.conv .i64 Zkv),.ok Zku,.ok (.conv .i64 Zku),.ok Zkt,.ok (.conv .i64 Zkt),.ok Zks,.ok (.conv .i64 Zks),.ok Zkr,.ok (.conv .i64 Zkr),.ok Zkq,.ok (.conv .i64 Zkq),.ok Zkp,.ok (.conv .i64 Zkp),.ok Zko,.ok (.conv .i64 Zko),.ok Zh5,.ok Zk7,.is Zk7 (.bool true),.ok Zh5,.ok Zk6,.is Zk6 (.bool false),.fp 9 (EAkS 8) Zbi,.ok (.fn 8 Zbi 0),.ok (.fn 8 Zbi 1),.ok (.fn 8 Zbi 2),.ok (.fn 8 Zbi 3),.ok (.fn 8 Zbi 4),.ok (.fn 8 Zbi 5),.ok (.fn 8 Zbi 6),.ok (.fn 8 Zbi 9),.ok zSla9,Zer,.fn 10 (EJu 2) zSla5,.ok (.fn 2 zSla5 0),.ok (.fn 2 zSla5 1),.ok (.fn 2 zSla5 2),.ok (.fn 2 zSla5 3),.ok (.fn 2 zSla5 4),.ok (.fn 2 zSla5 5),.ok (.fn 2 zSla5 6),.ok (.fn 2 zSla5 7),.ok (.fn 2 zSla5 8),.ok (.fn 2 zSla5 9),.ok zSla9,Zer,.fn 11 (EJu 3) zSla5,.ok (.fn 3 zSla5 0),.ok (.fn 3 zSla5 1),.ok (.fn 3 zSla5 2),.ok (.fn 3 zSla5 3),.ok (.fn 3 zSla5 4),.ok (.fn 3 zSla5 5),.ok (.fn 3 zSla5 6),.ok (.fn 3 zSla5 7),.ok (.fn 3 zSla5 8),.ok (.fn 3 zSla5 9),.ok (.bin .neq (.fn 2 zSla5 0) (.fn 3 zSla5 0)),.is (.bin .neq (.fn 2 zSla5 0) (.fn 3 zSla5 0)) (.bool false),.ok zSla14,.is zSla14 (.bool false),.ok zSla9,Zer,.fn 10 (EJu 2) z1,.ok (.fn 2 z1 0),.ok (.fn 2 z1 1),.ok (.fn 2 z1 2),.ok (.fn 2 z1 3),.ok (.fn 2 z1 4),.ok (.fn 2 z1 5),.ok (.fn 2 z1 6),.ok (.fn 2 z1 7),.ok (.fn 2 z1 8),.ok (.fn 2 z1 9),.ok zSla9,Zer,.fn 11 (EJu 3) z1,.ok (.fn 3 z1 0),.ok (.fn 3 z1 1),.ok (.fn 3 z1 2),.ok (.fn 3 z1 3),.ok (.fn 3 z1 4),.ok (.fn 3 z1 5),.ok (.fn 3 z1 6),.ok (.fn 3 z1 7),.ok (.fn 3 z1 8),.ok (.fn 3 z1 9),.ok (.bin .neq (.fn 2 z1 0) (.fn 3 z1 0)),.is (.bin .neq (.fn 2 z1 0) (.fn 3 z1 0)) (.bool false),.ok zSla17,.is zSla17 (.bool false),Zk9,.ok Zjc,.ok Zey,Zk3,.fn 12 (EDuN 4) zSla6,.ok (.fn 4 zSla6 0),Zk3,.fn 13 (EDuN 5) zSla6,.ok (.fn 5 zSla6 0),.ok Zk8,.is Zk8 (.bool true),.ok Zey,Zo2,.fn 12 (EDuN 4) zSla8,.ok (.fn 4 zSla8 0),.ok Zla,.is Zla (.bool true),.ok Zey,Zo3,.fn 12 (EDuN 4) zSla7,.ok (.fn 4 zSla7 0),Zk9,.ok Zjc,.ok Zk5,.is Zk5 (.bool true),.ok Zgm],[Zgm]):=by kernel_rfl
theorem m01:segTo Try.prog orcA 10000 flA shA [1,0,0,1,0,0,0,0,1,1,1,1] shAR [] hA=some (.ret,[.fn 7 (ETrue 1) [],Zn3,.ok (.len (.var 0)),.ok Zh4,.is Zh4 (.bool false),.ok Zk2,.ok (.conv .i64 Zk2),.ok Zk1,.ok (.conv .i64 Zk1),.ok Zk0,.ok (.conv .i64 Zk0),.ok Zkz,.ok (.conv .i64 Zkz),.ok Zky,.ok (.conv .i64 Zky),.ok Zkx,.ok (.conv .i64 Zkx),.ok Zkw,.ok (.conv .i64 Zkw),.ok Zkv,.ok (.conv .i64 Zkv),.ok Zku,.ok (.conv .i64 Zku),.ok Zkt,.ok (.conv .i64 Zkt),.ok Zks,.ok (.conv .i64 Zks),.ok Zkr,.ok (.conv .i64 Zkr),.ok Zkq,.ok (.conv .i64 Zkq),.ok Zkp,.ok (.conv .i64 Zkp),.ok Zko,.ok (.conv .i64 Zko),.ok Zh5,.ok Zk7,.is Zk7 (.bool false),.ok Zh5,.ok Zk6,.is Zk6 (.bool true),.fp 9 (EAkS 8) Zbi,.ok (.fn 8 Zbi 0),.ok (.fn 8 Zbi 1),.ok (.fn 8 Zbi 2),.ok (.fn 8 Zbi 3),.ok (.fn 8 Zbi 4),.ok (.fn 8 Zbi 5),.ok (.fn 8 Zbi 6),.ok (.fn 8 Zbi 9),.ok zSla9,Zer,.fn 10 (EJu 2) zSla3,.ok (.fn 2 zSla3 0),.ok (.fn 2 zSla3 1),.ok (.fn 2 zSla3 2),.ok (.fn 2 zSla3 3),.ok (.fn 2 zSla3 4),.ok (.fn 2 zSla3 5),.ok (.fn 2 zSla3 6),.ok (.fn 2 zSla3 7),.ok (.fn 2 zSla3 8),.ok (.fn 2 zSla3 9),.ok zSla9,Zer,.fn 11 (EJu 3) zSla3,.ok (.fn 3 zSla3 0),.ok (.fn 3 zSla3 1),.ok (.fn 3 zSla3 2),.ok (.fn 3 zSla3 3),.ok (.fn 3 zSla3 4),.ok (.fn 3 zSla3 5),.ok (.fn 3 zSla3 6),.ok (.fn 3 zSla3 7),.ok (.fn 3 zSla3 8),.ok (.fn 3 zSla3 9),.ok (.bin .neq (.fn 2 zSla3 0) (.fn 3 zSla3 0)),.is (.bin .neq (.fn 2 zSla3 0) (.fn 3 zSla3 0)) (.bool false),.ok zSla15,.is zSla15 (.bool false),.ok zSla9,Zer,.fn 10 (EJu 2) z2,.ok (.fn 2 z2 0),.ok (.fn 2 z2 1),.ok (.fn 2 z2 2),.ok (.fn 2 z2 3),.ok (.fn 2 z2 4),.ok (.fn 2 z2 5),.ok (.fn 2 z2 6),.ok (.fn 2 z2 7),.ok (.fn 2 z2 8),.ok (.fn 2 z2 9),.ok zSla9,Zer,.fn 11 (EJu 3) z2,.ok (.fn 3 z2 0),.ok (.fn 3 z2 1),.ok (.fn 3 z2 2),.ok (.fn 3 z2 3),.ok (.fn 3 z2 4),.ok (.fn 3 z2 5),.ok (.fn 3 z2 6),.ok (.fn 3 z2 7),.ok (.fn 3 z2 8),.ok (.fn 3 z2 9),.ok (.bin .neq (.fn 2 z2 0) (.fn 3 z2 0)),.is (.bin .neq (.fn 2 z2 0) (.fn 3 z2 0)) (.bool false),.ok zSla18,.is zSla18 (.bool false),Zk9,.ok Zjc,.ok Zey,Zk3,.fn 12 (EDuN 4) zSla6,.ok (.fn 4 zSla6 0),Zk3,.fn 13 (EDuN 5) zSla6,.ok (.fn 5 zSla6 0),.ok Zk8,.is Zk8 (.bool true),.ok Zey,Zo2,.fn 12 (EDuN 4) zSla8,.ok (.fn 4 zSla8 0),.ok Zla,.is Zla (.bool true),.ok Zey,Zo3,.fn 12 (EDuN 4) zSla7,.ok (.fn 4 zSla7 0),Zk9,.ok Zjc,.ok Zk5,.is Zk5 (.bool true),.ok Zgm],[Zgm]):=by kernel_rfl
theorem m00:segTo Try.prog orcA 10000 flA shA [1,0,0,0,0,0,0,0,1,1,1,1] shAR [] hA=some (.ret,[.fn 7 (ETrue 1) [],Zn3,.ok (.len (.var 0)),.ok Zh4,.is Zh4 (.bool false),.ok Zk2,.ok (.conv .i64 Zk2),.ok Zk1,.ok (.conv .i64 Zk1),.ok Zk0,.ok (.conv .i64 Zk0),.ok Zkz,.ok (.conv .i64 Zkz),.ok Zky,.ok (.conv .i64 Zky),.ok Zkx,.ok (.conv .i64 Zkx),.ok Zkw,.ok (.conv .i64 Zkw),.ok Zkv,.ok (.conv .i64 Zkv),.ok Zku,.ok (.conv .i64 Zku),.ok Zkt,.ok (.conv .i64 Zkt),.ok Zks,.ok (.conv .i64 Zks),.ok Zkr,.ok (.conv .i64 Zkr),.ok Zkq,.ok (.conv .i64 Zkq),.ok Zkp,.ok (.conv .i64 Zkp),.ok Zko,.ok (.conv .i64 Zko),.ok Zh5,.ok Zk7,.is Zk7 (.bool false),.ok Zh5,.ok Zk6,.is Zk6 (.bool false),.fp 9 (EAkS 8) Zbi,.ok (.fn 8 Zbi 0),.ok (.fn 8 Zbi 1),.ok (.fn 8 Zbi 2),.ok (.fn 8 Zbi 3),.ok (.fn 8 Zbi 4),.ok (.fn 8 Zbi 5),.ok (.fn 8 Zbi 6),.ok (.fn 8 Zbi 9),.ok zSla9,Zer,.fn 10 (EJu 2) zSla4,.ok (.fn 2 zSla4 0),.ok (.fn 2 zSla4 1),.ok (.fn 2 zSla4 2),.ok (.fn 2 zSla4 3),.ok (.fn 2 zSla4 4),.ok (.fn 2 zSla4 5),.ok (.fn 2 zSla4 6),.ok (.fn 2 zSla4 7),.ok (.fn 2 zSla4 8),.ok (.fn 2 zSla4 9),.ok zSla9,Zer,.fn 11 (EJu 3) zSla4,.ok (.fn 3 zSla4 0),.ok (.fn 3 zSla4 1),.ok (.fn 3 zSla4 2),.ok (.fn 3 zSla4 3),.ok (.fn 3 zSla4 4),.ok (.fn 3 zSla4 5),.ok (.fn 3 zSla4 6),.ok (.fn 3 zSla4 7),.ok (.fn 3 zSla4 8),.ok (.fn 3 zSla4 9),.ok (.bin .neq (.fn 2 zSla4 0) (.fn 3 zSla4 0)),.is (.bin .neq (.fn 2 zSla4 0) (.fn 3 zSla4 0)) (.bool false),.ok zSla16,.is zSla16 (.bool false),.ok zSla9,Zer,.fn 10 (EJu 2) z3,.ok (.fn 2 z3 0),.ok (.fn 2 z3 1),.ok (.fn 2 z3 2),.ok (.fn 2 z3 3),.ok (.fn 2 z3 4),.ok (.fn 2 z3 5),.ok (.fn 2 z3 6),.ok (.fn 2 z3 7),.ok (.fn 2 z3 8),.ok (.fn 2 z3 9),.ok zSla9,Zer,.fn 11 (EJu 3) z3,.ok (.fn 3 z3 0),.ok (.fn 3 z3 1),.ok (.fn 3 z3 2),.ok (.fn 3 z3 3),.ok (.fn 3 z3 4),.ok (.fn 3 z3 5),.ok (.fn 3 z3 6),.ok (.fn 3 z3 7),.ok (.fn 3 z3 8),.ok (.fn 3 z3 9),.ok (.bin .neq (.fn 2 z3 0) (.fn 3 z3 0)),.is (.bin .neq (.fn 2 z3 0) (.fn 3 z3 0)) (.bool false),.ok zSla19,.is zSla19 (.bool false),Zk9,.ok Zjc,.ok Zey,Zk3,.fn 12 (EDuN 4) zSla6,.ok (.fn 4 zSla6 0),Zk3,.fn 13 (EDuN 5) zSla6,.ok (.fn 5 zSla6 0),.ok Zk8,.is Zk8 (.bool true),.ok Zey,Zo2,.fn 12 (EDuN 4) zSla8,.ok (.fn 4 zSla8 0),.ok Zla,.is Zla (.bool true),.ok Zey,Zo3,.fn 12 (EDuN 4) zSla7,.ok (.fn 4 zSla7 0),Zk9,.ok Zjc,.ok Zk5,.is Zk5 (.bool true),.ok Zgm],[Zgm]):=by kernel_rfl
theorem dd0:runTo Try.prog fil.noOrc 10000 12 (EDu 1) [.num,.num,.num,.num,.num,.num,.num,.num,.row,.num,.num,.num] [0]=some ([.ok (.var 0),.ok (.var 1),.ok (.var 2),.ok (.var 3),.ok (.var 4),.ok (.var 5),.ok (.var 6),.ok (.var 7),.ok (.var 9),.ok (.var 10),.ok (.var 11),.is (.var 0) (.bool false)],[.con (.bool false)]):=by kernel_rfl
theorem dd10:runTo Try.prog fil.noOrc 10000 12 (EDu 1) [.num,.num,.num,.num,.num,.num,.num,.num,.row,.num,.num,.num] [1,0]=some ([.ok (.var 0),.ok (.var 1),.ok (.var 2),.ok (.var 3),.ok (.var 4),.ok (.var 5),.ok (.var 6),.ok (.var 7),.ok (.var 9),.ok (.var 10),.ok (.var 11),.is (.var 0) (.bool true),.ok Zk4,.is Zk4 (.bool false)],[.con (.bool false)]):=by kernel_rfl
theorem dd110:runTo Try.prog fil.noOrc 10000 12 (EDu 1) [.num,.num,.num,.num,.num,.num,.num,.num,.row,.num,.num,.num] [1,1,0]=some ([.ok (.var 0),.ok (.var 1),.ok (.var 2),.ok (.var 3),.ok (.var 4),.ok (.var 5),.ok (.var 6),.ok (.var 7),.ok (.var 9),.ok (.var 10),.ok (.var 11),.is (.var 0) (.bool true),.ok Zk4,.is Zk4 (.bool true),.ok Zn2,.ok (.conv .u64 Zn2),.ok Zn4,.is Zn4 (.bool false)],[.con (.bool false)]):=by kernel_rfl
theorem dd111:runTo Try.prog fil.noOrc 10000 12 (EDu 1) [.num,.num,.num,.num,.num,.num,.num,.num,.row,.num,.num,.num] [1,1,1]=some ([.ok (.var 0),.ok (.var 1),.ok (.var 2),.ok (.var 3),.ok (.var 4),.ok (.var 5),.ok (.var 6),.ok (.var 7),.ok (.var 9),.ok (.var 10),.ok (.var 11),.is (.var 0) (.bool true),.ok Zk4,.is Zk4 (.bool true),.ok Zn2,.ok (.conv .u64 Zn2),.ok Zn4,.is Zn4 (.bool true)],[Zgm]):=by kernel_rfl
theorem toldDdN (k:Nat):ToldF 13 (EDuN k) (spec RDu):=mrd.told_row' (toldDd k) rfl rfl rfl rfl
theorem toldDq (k:Nat):ToldF 12 (EDu k) (spec RDu):=by
 refine Zjg mixed_ok names_ok (fun _ _=>none) [.num,.num,.num,.num,.num,.num,.num,.num,.row,.num,.num,.num] ?_
 intro ps qs h _
 obtain ⟨is,⟨a1,a2,a3,a4,a5,a6,a7,a8⟩,f,l,n,⟨hl1,hl2⟩,hlm,⟨hn1,hn2⟩,rfl,rfl⟩:=Zbk h
 clear h
 simp only [oP,aP,List.cons_append,List.nil_append] at *
 have dm:dueM is l n=(is && decide (l+10<=n)):=by unfold dueM;rw [if_neg (by omega)]
 rw [dm]
 cases is with
 | false =>
  refine ⟨_,_,_,_,_,_,fil.noOrc_ok,dd0,fun w FP=>?_,?_⟩
  ·simp [-Zac,Zab,Zaa,Base.ev,SX.ev,evs,Value.oneCell',binPV]
  ·simp [evs,SX.ev]
 | true =>
  by_cases h1:l < n
  ·have wU:IntKind.u64.wrap (IntKind.i64.wrap (n - l))=n - l:=by
    simp only [IntKind.wrap,IntKind.bits,IntKind.signed,Bool.true_and,Bool.false_and,decide_eq_true_eq,Bool.false_eq_true,if_false]
    split <;> omega
   by_cases h2:10<=n - l
   ·have h3:l+10<=n:=by omega
    refine ⟨_,_,_,_,_,_,fil.noOrc_ok,dd111,fun w FP=>?_,?_⟩
    ·simp [-Zac,Zab,Zaa,Base.ev,SX.ev,evs,Value.oneCell',binPV,Zaj,h1,wU,h2]
    ·simp [evs,SX.ev,h3]
   ·have h3:¬ l+10<=n:=by omega
    refine ⟨_,_,_,_,_,_,fil.noOrc_ok,dd110,fun w FP=>?_,?_⟩
    ·simp [-Zac,Zab,Zaa,Base.ev,SX.ev,evs,Value.oneCell',binPV,Zaj,h1,wU,h2]
    ·simp [evs,SX.ev,h3]
  ·have h3:¬ l+10<=n:=by omega
   refine ⟨_,_,_,_,_,_,fil.noOrc_ok,dd10,fun w FP=>?_,?_⟩
   ·simp [-Zac,Zab,Zaa,Base.ev,SX.ev,evs,Value.oneCell',binPV,h1]
   ·simp [evs,SX.ev,h3]
theorem toldDp (k:Nat):ToldF 12 (EDuN k) (spec RDu):=mrd.told_row' (toldDq k) rfl rfl rfl rfl
noncomputable def G:Fns:=fun k=>match k with | 1=>spec RTrue | 2=>spec RJu | 3=>spec RJu | 4=>spec RDu | 5=>spec RDu | 8=>spec mka2.RAk | _=>fun _=>none
theorem u1:ToldF 7 (ETrue 1) (G 1):=sbg.begunLit 1
theorem u2:ToldF 10 (EJu 2) (G 2):=Zpd 2
theorem u3:ToldF 11 (EJu 3) (G 3):=toldJd 3
theorem u4:ToldF 12 (EDuN 4) (G 4):=toldDp 4
theorem u5:ToldF 13 (EDuN 5) (G 5):=toldDdN 5
theorem u8:ToldP 9 (EAkS 8) (G 8):=toldAkS 8
@[simp] theorem kDuN (k:Nat):(EDuN k).k=k:=rfl
@[simp] theorem kJu' (k:Nat):(EJu k).k=k:=rfl
@[simp] theorem kAkS (k:Nat):(EAkS k).k=k:=rfl
theorem Zlx:OrcOk Try.prog orcA:=orcOr_ok (Zax tabA) (Zc4 tabP)
theorem G1:G 1 []=some [pB true]:=Zbv fTrue ⟨rfl,rfl⟩
theorem G8 {l:List Nat} (h:pck.OkP l 0):G 8 [pRow pck.encU l,pI 0]=some (aP (mka2.mkA l 0).1++[pRow pck.encU l,pI ((mka2.mkA l 0).2:Int)]):=Zbv mka2.fAk ⟨0,l,h,rfl,rfl⟩
theorem GJ (ep:Int) (sn:List Int) (td:List TellM) (mk:List MarkM) (a:AskM) (h1:sn.length<=1000000) (h2:td.length<=1000000) (h3:mk.length<=1000000) (h4:i64 a.frm):∃ (j0 j1 j2 j3 j4 j5 j6 j7 j8:Int) (j9:ByteArray),
  G 2 ([pI ep,pRow encI sn,pRow encT td,pRow encM mk]++aP a)=some [pI j0,pI j1,pI j2,pI j3,pI j4,pI j5,pI j6,pI j7,pI j8,pS j9] ∧
  G 3 ([pI ep,pRow encI sn,pRow encT td,pRow encM mk]++aP a)=some [pI j0,pI j1,pI j2,pI j3,pI j4,pI j5,pI j6,pI j7,pI j8,pS j9]:=by
 have h:spec RJu ([pI ep,pRow encI sn,pRow encT td,pRow encM mk]++aP a)=some (pI (Zet ep sn td mk a).1 :: tP (Zet ep sn td mk a).2):=Zbv fJu ⟨ep,sn,td,mk,a,h1,h2,h3,h4,rfl,rfl⟩
 exact ⟨_,_,_,_,_,_,_,_,_,_,h,h⟩
theorem GD (k:Nat) (hk:k=4 \/ k=5) (is:Bool) (last now:Int) (h:0<=last) (h2:last<=65535) (h3:0<=now) (h4:now<=70000):G k [pB is,pI 0,pI 0,pI 0,pI 0,pS ⟨⟨[]⟩⟩,pI 0,pI 0,.row 0 [],pI 0,pI last,pI now]=some [pB (is && decide (last+10<=now))]:=by
 have e:dueM is last now=(is && decide (last+10<=now)):=by unfold dueM;rw [if_neg (by omega)]
 have:spec RDu (oP is ⟨0,0,0,0,⟨⟨[]⟩⟩,0,0,[]⟩ 0 last++[pI now])=some [pB (dueM is last now)]:=Zbv fDu ⟨is,_,0,last,now,⟨by omega,by omega⟩,by omega,⟨by omega,by omega⟩,rfl,rfl⟩
 rw [e] at this
 rcases hk with rfl | rfl <;> exact this
theorem mk_frm (l:List Nat):i64 (mka2.mkA l 0).1.frm:=by
 have e:(mka2.mkA l 0).1.frm=1+(pck.numV l (pck.numN l 0) 3:Int):=by
  unfold mka2.mkA
  simp only
  split
  ·rfl
  split
  ·rfl
  split
  ·rfl
  split
  ·rfl
  ·rfl
 have h:=pck.numV_lt (l:=l) (n:=pck.numN l 0) (m:=3) (by omega)
 rw [e]
 exact ⟨by omega,by omega⟩
theorem rem (s:Nat) (k:Int) (hk:0 < k) (h2:k<=1000):∃ x:Int,(s:Int).tmod k=x/\IntKind.i64.wrap x=x/\0<=x/\x < k:=by
 have a:=Int.tmod_nonneg k (show (0:Int)<=(s:Int) by omega)
 have b:=Int.tmod_lt_of_pos (s:Int) hk
 exact ⟨_,rfl,wrapI _ (by omega) (by omega),a,b⟩
abbrev pX (x:Int):PV:=.v (.int .u16 x)
def ELaw (k:Nat):FnE:={ k:=k,ins:=[none,some 3,some 3,some 3,none,some 8,none,none,none],leaks:=[true,false,false,false,false,false,false,false,false,false,false,false,false,false,false,false,false,false,true,false,false,false],outs:=[none],kinds:=[.truth] }
def RL (ps qs:List PV):Prop:=∃ (p:List Nat) (s1 s2 s3 t1 t2 t3 m1 m2 m3 ep:Nat) (a:AskM) (le la no:Nat),(∀ b ∈ p,b < 256)/\p.length<=9223372036854775807/\la<=65535/\no<=65535/\i64 a.frm/\ps=pRow pck.encU p :: pU (s1:Int) :: pU (s2:Int) :: pU (s3:Int) :: pU (t1:Int) :: pU (t2:Int) :: pU (t3:Int) :: pU (m1:Int) :: pU (m2:Int) :: pU (m3:Int) :: pU (ep:Int) :: (aP a++[pU (le:Int),pX (la:Int),pX (no:Int)])/\qs=[pB true]
theorem fL:∀ ps q1 q2,RL ps q1->RL ps q2->q1=q2:=by
 rintro ps q1 q2 ⟨_,_,_,_,_,_,_,_,_,_,_,_,_,_,_,_,_,_,_,_,_,rfl⟩ ⟨_,_,_,_,_,_,_,_,_,_,_,_,_,_,_,_,_,_,_,_,_,rfl⟩;rfl
theorem r_eqB (b:Bool):ropPV .eqB [pB b,pB b]=some (pB true):=by simp [ropPV]
theorem r_eqI' (b:Int):ropPV .eqI [pI b,pI b]=some (pB true):=by simp [ropPV]
theorem r_eqS' (b:ByteArray):ropPV .eqS [pS b,pS b]=some (pB true):=by simp [ropPV]
theorem r9:ropPV .allB [pB true,pB true,pB true,pB true,pB true,pB true,pB true,pB true,pB true]=some (pB true):=rfl
theorem rN:ropPV .notB [pB true]=some (pB false):=rfl
set_option maxHeartbeats 8000000 in
theorem told (k0:Nat):ToldF 3 (ELaw k0) (spec RL):=by
 refine Zm9 G _ (Zdy Try.prog 3) Try.func3 (by kernel_rfl) shA (by kernel_rfl) ?_ ?_
 ·intro ps qs h
  obtain ⟨p,s1,s2,s3,t1,t2,t3,m1,m2,m3,ep,⟨a1,a2,a3,a4,a5,a6,a7,a8⟩,le,la,no,_,_,_,_,_,rfl,rfl⟩:=Zbk h
  exact Zg1 rfl
 ·intro C ps qs hF h a w hsh
  obtain ⟨p,s1,s2,s3,t1,t2,t3,m1,m2,m3,ep,⟨a1,a2,a3,a4,a5,a6,a7,a8⟩,le,la,no,hp,hpl,hla,hno,hfr,rfl,rfl⟩:=Zbk h
  clear h
  show wpL Try.prog flA _ a w
  simp only [aP,List.cons_append,List.nil_append] at hsh
  have fin:∀ qs a1 w1,qs=[pB true]->Zao C shAR qs a1 w1->(AX.ret=.normal->wpL Try.prog [] (fun e a' w'=>(e=.normal \/ e=.ret)/\∃ sh' ps' es,Zao C sh' ps' a' w'/\resTo Try.prog Try.f3 sh' (ELaw k0)=some es/\evs (fun i=>ps'[i]?) G es=some [pB true]) a1 w1)/\(AX.ret ≠ .normal->(AX.ret.to=.normal \/ AX.ret.to=.ret)/\∃ sh' ps' es,Zao C sh' ps' a1 w1/\resTo Try.prog Try.f3 sh' (ELaw k0)=some es/\evs (fun i=>ps'[i]?) G es=some [pB true]):=by
   rintro qs a1 w1 rfl h1
   exact ⟨nofun,fun _=>⟨.inr rfl,shAR,_,[SX.var 0],h1,by kernel_rfl,rfl⟩⟩
  have g1:=G1
  rw [<- List.append_nil flA]
  by_cases c1:20 < p.length
  ·have d1:(20:Int) < (p.length:Int):=by omega
   refine Zan names_ok mixed_ok Zlx q1 hsh ?_ (fun qs a1 w1 hq h1=>fin qs a1 w1 (by simp [evs,SX.ev] at hq;exact hq.symm) h1)
   simp [-Zac,Zab,Zaa,Base.ev,SX.ev,evs,Value.oneCell',hF,Zaf,binPV,g1,d1,sessAll.u1]
  have d1:¬ (20:Int) < (p.length:Int):=by omega
  have g8:=G8 (l:=p) ⟨by omega,by omega,hp⟩
  generalize (mka2.mkA p 0).2=n8 at *
  obtain ⟨⟨b1,b2,b3,b4,b5,b6,b7,b8⟩,hb⟩:∃ b,(mka2.mkA p 0).1=b:=⟨_,rfl⟩
  have hbf:=mk_frm p
  rw [hb] at g8 hbf
  simp only [aP,List.cons_append,List.nil_append] at g8
  obtain ⟨x1,X1,X1w,-,-⟩:=rem s1 24 (by omega) (by omega)
  obtain ⟨x2,X2,X2w,-,-⟩:=rem s2 24 (by omega) (by omega)
  obtain ⟨x3,X3,X3w,-,-⟩:=rem s3 24 (by omega) (by omega)
  obtain ⟨x4,X4,X4w,-,-⟩:=rem t1 24 (by omega) (by omega)
  obtain ⟨x5,X5,X5w,-,-⟩:=rem t2 24 (by omega) (by omega)
  obtain ⟨x6,X6,X6w,-,-⟩:=rem t3 24 (by omega) (by omega)
  obtain ⟨e4,E4,E4w,-,-⟩:=rem t1 3 (by omega) (by omega)
  obtain ⟨e5,E5,E5w,-,-⟩:=rem t2 3 (by omega) (by omega)
  obtain ⟨e6,E6,E6w,-,-⟩:=rem t3 3 (by omega) (by omega)
  obtain ⟨x7,X7,X7w,-,-⟩:=rem m1 24 (by omega) (by omega)
  obtain ⟨x8,X8,X8w,-,-⟩:=rem m2 24 (by omega) (by omega)
  obtain ⟨x9,X9,X9w,-,-⟩:=rem m3 24 (by omega) (by omega)
  obtain ⟨f7,F7,F7w,-,-⟩:=rem m1 4 (by omega) (by omega)
  obtain ⟨f8,F8,F8w,-,-⟩:=rem m2 4 (by omega) (by omega)
  obtain ⟨f9,F9,F9w,-,-⟩:=rem m3 4 (by omega) (by omega)
  obtain ⟨y,Y,Yw,-,-⟩:=rem ep 3 (by omega) (by omega)
  obtain ⟨y8,Z8,-,z81,z82⟩:=rem le 8 (by omega) (by omega)
  obtain ⟨y2,Z2,-,z21,z22⟩:=rem le 2 (by omega) (by omega)
  have wla:IntKind.i64.wrap (la:Int)=(la:Int):=wrapI _ (by omega) (by omega)
  have wno:IntKind.i64.wrap (no:Int)=(no:Int):=wrapI _ (by omega) (by omega)
  have w9:IntKind.i64.wrap ((la:Int)+9)=(la:Int)+9:=wrapI _ (by omega) (by omega)
  have w10:IntKind.i64.wrap ((la:Int)+10)=(la:Int)+10:=wrapI _ (by omega) (by omega)
  have gd4:=GD 4 (.inl rfl) (y2 == 0) la no (by omega) (by omega) (by omega) (by omega)
  have gd5:=GD 5 (.inr rfl) (y2 == 0) la no (by omega) (by omega) (by omega) (by omega)
  have gd9:=GD 4 (.inl rfl) (y2 == 0) la (la+9) (by omega) (by omega) (by omega) (by omega)
  have gdX:=GD 4 (.inl rfl) (y2 == 0) la (la+10) (by omega) (by omega) (by omega) (by omega)
  rw [decide_eq_false (by omega:¬ (la:Int)+10<=(la:Int)+9),Bool.and_false] at gd9
  rw [decide_eq_true (Int.le_refl ((la:Int)+10)),Bool.and_true] at gdX
  generalize (y2 == 0 && decide ((la:Int)+10<=(no:Int)))=dn at *
  by_cases c8:y8=0
  ·subst c8
   obtain ⟨j0,j1,j2,j3,j4,j5,j6,j7,j8,j9,jA,jB⟩:=GJ y [x1,x2] [⟨1,1,0,x4,e4,0,0,0,⟨⟨[]⟩⟩⟩,⟨1,2,0,x5,e5,0,0,0,⟨⟨[]⟩⟩⟩,⟨1,3,0,x6,e6,0,0,0,⟨⟨[]⟩⟩⟩] [(x7,f7,1,7),(x8,f8,2,7),(x9,f9,3,7)] ⟨a1,a2,a3,a4,a5,a6,a7,a8⟩ (by simp) (by simp) (by simp) hfr
   replace jA:G 2 [pI y,.row 2 [pI x1,pI x2],.row 3 [pI 1,pI 1,pI 0,pI x4,pI e4,pI 0,pI 0,pI 0,pS ⟨⟨[]⟩⟩,pI 1,pI 2,pI 0,pI x5,pI e5,pI 0,pI 0,pI 0,pS ⟨⟨[]⟩⟩,pI 1,pI 3,pI 0,pI x6,pI e6,pI 0,pI 0,pI 0,pS ⟨⟨[]⟩⟩],.row 3 [pI x7,pI f7,pI 1,pI 7,pI x8,pI f8,pI 2,pI 7,pI x9,pI f9,pI 3,pI 7],pI a1,pI a2,pI a3,pI a4,pS a5,pI a6,pI a7,pRow encW a8]=some [pI j0,pI j1,pI j2,pI j3,pI j4,pI j5,pI j6,pI j7,pI j8,pS j9]:=jA
   replace jB:G 3 [pI y,.row 2 [pI x1,pI x2],.row 3 [pI 1,pI 1,pI 0,pI x4,pI e4,pI 0,pI 0,pI 0,pS ⟨⟨[]⟩⟩,pI 1,pI 2,pI 0,pI x5,pI e5,pI 0,pI 0,pI 0,pS ⟨⟨[]⟩⟩,pI 1,pI 3,pI 0,pI x6,pI e6,pI 0,pI 0,pI 0,pS ⟨⟨[]⟩⟩],.row 3 [pI x7,pI f7,pI 1,pI 7,pI x8,pI f8,pI 2,pI 7,pI x9,pI f9,pI 3,pI 7],pI a1,pI a2,pI a3,pI a4,pS a5,pI a6,pI a7,pRow encW a8]=some [pI j0,pI j1,pI j2,pI j3,pI j4,pI j5,pI j6,pI j7,pI j8,pS j9]:=jB
   obtain ⟨i0,i1,i2,i3,i4,i5,i6,i7,i8,i9,iA,iB⟩:=GJ y [x1,x2] [⟨1,1,0,x4,e4,0,0,0,⟨⟨[]⟩⟩⟩,⟨1,2,0,x5,e5,0,0,0,⟨⟨[]⟩⟩⟩,⟨1,3,0,x6,e6,0,0,0,⟨⟨[]⟩⟩⟩] [(x7,f7,1,7),(x8,f8,2,7),(x9,f9,3,7)] ⟨b1,b2,b3,b4,b5,b6,b7,b8⟩ (by simp) (by simp) (by simp) hbf
   replace iA:G 2 [pI y,.row 2 [pI x1,pI x2],.row 3 [pI 1,pI 1,pI 0,pI x4,pI e4,pI 0,pI 0,pI 0,pS ⟨⟨[]⟩⟩,pI 1,pI 2,pI 0,pI x5,pI e5,pI 0,pI 0,pI 0,pS ⟨⟨[]⟩⟩,pI 1,pI 3,pI 0,pI x6,pI e6,pI 0,pI 0,pI 0,pS ⟨⟨[]⟩⟩],.row 3 [pI x7,pI f7,pI 1,pI 7,pI x8,pI f8,pI 2,pI 7,pI x9,pI f9,pI 3,pI 7],pI b1,pI b2,pI b3,pI b4,pS b5,pI b6,pI b7,pRow encW b8]=some [pI i0,pI i1,pI i2,pI i3,pI i4,pI i5,pI i6,pI i7,pI i8,pS i9]:=iA
   replace iB:G 3 [pI y,.row 2 [pI x1,pI x2],.row 3 [pI 1,pI 1,pI 0,pI x4,pI e4,pI 0,pI 0,pI 0,pS ⟨⟨[]⟩⟩,pI 1,pI 2,pI 0,pI x5,pI e5,pI 0,pI 0,pI 0,pS ⟨⟨[]⟩⟩,pI 1,pI 3,pI 0,pI x6,pI e6,pI 0,pI 0,pI 0,pS ⟨⟨[]⟩⟩],.row 3 [pI x7,pI f7,pI 1,pI 7,pI x8,pI f8,pI 2,pI 7,pI x9,pI f9,pI 3,pI 7],pI b1,pI b2,pI b3,pI b4,pS b5,pI b6,pI b7,pRow encW b8]=some [pI i0,pI i1,pI i2,pI i3,pI i4,pI i5,pI i6,pI i7,pI i8,pS i9]:=iB
   refine Zan names_ok mixed_ok Zlx m10 hsh ?_ (fun qs a1 w1 hq h1=>fin qs a1 w1 (by simp [evs,SX.ev] at hq;exact hq.symm) h1)
   simp [-Zac,Zab,Zaa,Base.ev,SX.ev,evs,Value.oneCell',hF,Zaf,binPV,Zaj,g1,d1,sessAll.u1,sessAll.u2,sessAll.u3,sessAll.u4,sessAll.u5,sessAll.u8,g8,jA,jB,iA,iB,X1,X2,X3,X4,X5,X6,X7,X8,X9,E4,E5,E6,F7,F8,F9,X1w,X2w,X3w,X4w,X5w,X6w,X7w,X8w,X9w,E4w,E5w,E6w,F7w,F8w,F9w,Y,Yw,Z8,Z2,wla,wno,w9,w10,gd4,gd5,gd9,gdX,sessAll.r_eqB,sessAll.r_eqI',sessAll.r_eqS',sessAll.r9,sessAll.rN,sessAll.z1,Int.zero_ne_one]
  by_cases c9:y8=1
  ·subst c9
   obtain ⟨j0,j1,j2,j3,j4,j5,j6,j7,j8,j9,jA,jB⟩:=GJ y [x1,x2,x3] [⟨1,1,0,x4,e4,0,0,0,⟨⟨[]⟩⟩⟩,⟨1,2,0,x5,e5,0,0,0,⟨⟨[]⟩⟩⟩] [(x7,f7,1,7),(x8,f8,2,7),(x9,f9,3,7)] ⟨a1,a2,a3,a4,a5,a6,a7,a8⟩ (by simp) (by simp) (by simp) hfr
   replace jA:G 2 [pI y,.row 3 [pI x1,pI x2,pI x3],.row 2 [pI 1,pI 1,pI 0,pI x4,pI e4,pI 0,pI 0,pI 0,pS ⟨⟨[]⟩⟩,pI 1,pI 2,pI 0,pI x5,pI e5,pI 0,pI 0,pI 0,pS ⟨⟨[]⟩⟩],.row 3 [pI x7,pI f7,pI 1,pI 7,pI x8,pI f8,pI 2,pI 7,pI x9,pI f9,pI 3,pI 7],pI a1,pI a2,pI a3,pI a4,pS a5,pI a6,pI a7,pRow encW a8]=some [pI j0,pI j1,pI j2,pI j3,pI j4,pI j5,pI j6,pI j7,pI j8,pS j9]:=jA
   replace jB:G 3 [pI y,.row 3 [pI x1,pI x2,pI x3],.row 2 [pI 1,pI 1,pI 0,pI x4,pI e4,pI 0,pI 0,pI 0,pS ⟨⟨[]⟩⟩,pI 1,pI 2,pI 0,pI x5,pI e5,pI 0,pI 0,pI 0,pS ⟨⟨[]⟩⟩],.row 3 [pI x7,pI f7,pI 1,pI 7,pI x8,pI f8,pI 2,pI 7,pI x9,pI f9,pI 3,pI 7],pI a1,pI a2,pI a3,pI a4,pS a5,pI a6,pI a7,pRow encW a8]=some [pI j0,pI j1,pI j2,pI j3,pI j4,pI j5,pI j6,pI j7,pI j8,pS j9]:=jB
   obtain ⟨i0,i1,i2,i3,i4,i5,i6,i7,i8,i9,iA,iB⟩:=GJ y [x1,x2,x3] [⟨1,1,0,x4,e4,0,0,0,⟨⟨[]⟩⟩⟩,⟨1,2,0,x5,e5,0,0,0,⟨⟨[]⟩⟩⟩] [(x7,f7,1,7),(x8,f8,2,7),(x9,f9,3,7)] ⟨b1,b2,b3,b4,b5,b6,b7,b8⟩ (by simp) (by simp) (by simp) hbf
   replace iA:G 2 [pI y,.row 3 [pI x1,pI x2,pI x3],.row 2 [pI 1,pI 1,pI 0,pI x4,pI e4,pI 0,pI 0,pI 0,pS ⟨⟨[]⟩⟩,pI 1,pI 2,pI 0,pI x5,pI e5,pI 0,pI 0,pI 0,pS ⟨⟨[]⟩⟩],.row 3 [pI x7,pI f7,pI 1,pI 7,pI x8,pI f8,pI 2,pI 7,pI x9,pI f9,pI 3,pI 7],pI b1,pI b2,pI b3,pI b4,pS b5,pI b6,pI b7,pRow encW b8]=some [pI i0,pI i1,pI i2,pI i3,pI i4,pI i5,pI i6,pI i7,pI i8,pS i9]:=iA
   replace iB:G 3 [pI y,.row 3 [pI x1,pI x2,pI x3],.row 2 [pI 1,pI 1,pI 0,pI x4,pI e4,pI 0,pI 0,pI 0,pS ⟨⟨[]⟩⟩,pI 1,pI 2,pI 0,pI x5,pI e5,pI 0,pI 0,pI 0,pS ⟨⟨[]⟩⟩],.row 3 [pI x7,pI f7,pI 1,pI 7,pI x8,pI f8,pI 2,pI 7,pI x9,pI f9,pI 3,pI 7],pI b1,pI b2,pI b3,pI b4,pS b5,pI b6,pI b7,pRow encW b8]=some [pI i0,pI i1,pI i2,pI i3,pI i4,pI i5,pI i6,pI i7,pI i8,pS i9]:=iB
   refine Zan names_ok mixed_ok Zlx m01 hsh ?_ (fun qs a1 w1 hq h1=>fin qs a1 w1 (by simp [evs,SX.ev] at hq;exact hq.symm) h1)
   simp [-Zac,Zab,Zaa,Base.ev,SX.ev,evs,Value.oneCell',hF,Zaf,binPV,Zaj,g1,d1,sessAll.u1,sessAll.u2,sessAll.u3,sessAll.u4,sessAll.u5,sessAll.u8,g8,jA,jB,iA,iB,X1,X2,X3,X4,X5,X6,X7,X8,X9,E4,E5,E6,F7,F8,F9,X1w,X2w,X3w,X4w,X5w,X6w,X7w,X8w,X9w,E4w,E5w,E6w,F7w,F8w,F9w,Y,Yw,Z8,Z2,wla,wno,w9,w10,gd4,gd5,gd9,gdX,sessAll.r_eqB,sessAll.r_eqI',sessAll.r_eqS',sessAll.r9,sessAll.rN,sessAll.z2,Int.one_ne_zero]
  obtain ⟨j0,j1,j2,j3,j4,j5,j6,j7,j8,j9,jA,jB⟩:=GJ y [x1,x2,x3] [⟨1,1,0,x4,e4,0,0,0,⟨⟨[]⟩⟩⟩,⟨1,2,0,x5,e5,0,0,0,⟨⟨[]⟩⟩⟩,⟨1,3,0,x6,e6,0,0,0,⟨⟨[]⟩⟩⟩] [(x7,f7,1,7),(x8,f8,2,7),(x9,f9,3,7)] ⟨a1,a2,a3,a4,a5,a6,a7,a8⟩ (by simp) (by simp) (by simp) hfr
  replace jA:G 2 [pI y,.row 3 [pI x1,pI x2,pI x3],.row 3 [pI 1,pI 1,pI 0,pI x4,pI e4,pI 0,pI 0,pI 0,pS ⟨⟨[]⟩⟩,pI 1,pI 2,pI 0,pI x5,pI e5,pI 0,pI 0,pI 0,pS ⟨⟨[]⟩⟩,pI 1,pI 3,pI 0,pI x6,pI e6,pI 0,pI 0,pI 0,pS ⟨⟨[]⟩⟩],.row 3 [pI x7,pI f7,pI 1,pI 7,pI x8,pI f8,pI 2,pI 7,pI x9,pI f9,pI 3,pI 7],pI a1,pI a2,pI a3,pI a4,pS a5,pI a6,pI a7,pRow encW a8]=some [pI j0,pI j1,pI j2,pI j3,pI j4,pI j5,pI j6,pI j7,pI j8,pS j9]:=jA
  replace jB:G 3 [pI y,.row 3 [pI x1,pI x2,pI x3],.row 3 [pI 1,pI 1,pI 0,pI x4,pI e4,pI 0,pI 0,pI 0,pS ⟨⟨[]⟩⟩,pI 1,pI 2,pI 0,pI x5,pI e5,pI 0,pI 0,pI 0,pS ⟨⟨[]⟩⟩,pI 1,pI 3,pI 0,pI x6,pI e6,pI 0,pI 0,pI 0,pS ⟨⟨[]⟩⟩],.row 3 [pI x7,pI f7,pI 1,pI 7,pI x8,pI f8,pI 2,pI 7,pI x9,pI f9,pI 3,pI 7],pI a1,pI a2,pI a3,pI a4,pS a5,pI a6,pI a7,pRow encW a8]=some [pI j0,pI j1,pI j2,pI j3,pI j4,pI j5,pI j6,pI j7,pI j8,pS j9]:=jB
  obtain ⟨i0,i1,i2,i3,i4,i5,i6,i7,i8,i9,iA,iB⟩:=GJ y [x1,x2,x3] [⟨1,1,0,x4,e4,0,0,0,⟨⟨[]⟩⟩⟩,⟨1,2,0,x5,e5,0,0,0,⟨⟨[]⟩⟩⟩,⟨1,3,0,x6,e6,0,0,0,⟨⟨[]⟩⟩⟩] [(x7,f7,1,7),(x8,f8,2,7),(x9,f9,3,7)] ⟨b1,b2,b3,b4,b5,b6,b7,b8⟩ (by simp) (by simp) (by simp) hbf
  replace iA:G 2 [pI y,.row 3 [pI x1,pI x2,pI x3],.row 3 [pI 1,pI 1,pI 0,pI x4,pI e4,pI 0,pI 0,pI 0,pS ⟨⟨[]⟩⟩,pI 1,pI 2,pI 0,pI x5,pI e5,pI 0,pI 0,pI 0,pS ⟨⟨[]⟩⟩,pI 1,pI 3,pI 0,pI x6,pI e6,pI 0,pI 0,pI 0,pS ⟨⟨[]⟩⟩],.row 3 [pI x7,pI f7,pI 1,pI 7,pI x8,pI f8,pI 2,pI 7,pI x9,pI f9,pI 3,pI 7],pI b1,pI b2,pI b3,pI b4,pS b5,pI b6,pI b7,pRow encW b8]=some [pI i0,pI i1,pI i2,pI i3,pI i4,pI i5,pI i6,pI i7,pI i8,pS i9]:=iA
  replace iB:G 3 [pI y,.row 3 [pI x1,pI x2,pI x3],.row 3 [pI 1,pI 1,pI 0,pI x4,pI e4,pI 0,pI 0,pI 0,pS ⟨⟨[]⟩⟩,pI 1,pI 2,pI 0,pI x5,pI e5,pI 0,pI 0,pI 0,pS ⟨⟨[]⟩⟩,pI 1,pI 3,pI 0,pI x6,pI e6,pI 0,pI 0,pI 0,pS ⟨⟨[]⟩⟩],.row 3 [pI x7,pI f7,pI 1,pI 7,pI x8,pI f8,pI 2,pI 7,pI x9,pI f9,pI 3,pI 7],pI b1,pI b2,pI b3,pI b4,pS b5,pI b6,pI b7,pRow encW b8]=some [pI i0,pI i1,pI i2,pI i3,pI i4,pI i5,pI i6,pI i7,pI i8,pS i9]:=iB
  refine Zan names_ok mixed_ok Zlx m00 hsh ?_ (fun qs a1 w1 hq h1=>fin qs a1 w1 (by simp [evs,SX.ev] at hq;exact hq.symm) h1)
  simp [-Zac,Zab,Zaa,Base.ev,SX.ev,evs,Value.oneCell',hF,Zaf,binPV,Zaj,g1,d1,sessAll.u1,sessAll.u2,sessAll.u3,sessAll.u4,sessAll.u5,sessAll.u8,g8,jA,jB,iA,iB,X1,X2,X3,X4,X5,X6,X7,X8,X9,E4,E5,E6,F7,F8,F9,X1w,X2w,X3w,X4w,X5w,X6w,X7w,X8w,X9w,E4w,E5w,E6w,F7w,F8w,F9w,Y,Yw,Z8,Z2,wla,wno,w9,w10,gd4,gd5,gd9,gdX,sessAll.r_eqB,sessAll.r_eqI',sessAll.r_eqS',sessAll.r9,sessAll.rN,sessAll.z3,c8,c9]
theorem writes_of {w:World} {v:Value} {xs:List (List Value)} (h:Zl9 [.int .i64,.str] w v xs):∃ l:List (Int × ByteArray),l.length=xs.length/\(∀ w ∈ l,-9223372036854775808<=w.1/\w.1<=9223372036854775807/\w.2.size<=9223372036854775807)/\Reads w (pRow encW l) v:=by
 obtain ⟨hx,a,cap,rfl,h1,h2,h3⟩:=h
 have hs:∀ x ∈ xs,∃ (n:Int) (s:ByteArray),x=[.int .i64 n,.string s]/\(Lit.int .i64 n).wf=true/\s.size<=maxLen:=fun x hm=>by
  obtain ⟨hl,hk⟩:=hx x hm
  match x,hl with
  | [u,v],_ =>
   obtain ⟨n,rfl,hn⟩:=hk 0 _ u rfl rfl
   obtain ⟨s,rfl,hs⟩:=hk 1 _ v rfl rfl
   exact ⟨n,s,rfl,hn,hs⟩
 let f:List Value->Int × ByteArray:=fun x=>match x with | [.int _ n,.string s]=>(n,s) | _=>(0,⟨⟨[]⟩⟩)
 refine ⟨xs.map f,by simp,fun s hm=>?_,?_⟩
 ·obtain ⟨x,hx',rfl⟩:=List.mem_map.1 hm
  obtain ⟨n,s,rfl,hn,hs⟩:=hs x hx'
  obtain ⟨b1,b2⟩:=bounds_i64 hn
  exact ⟨b1,b2,Zd9 hs⟩
 ·rw [Zg2]
  refine ⟨a,cap,by simp,by simpa using h1,h2,fun hp=>?_⟩
  simp only [List.length_map] at hp
  obtain ⟨b,off,rfl,hc⟩:=h3 hp
  have key:∀ (j:Nat) (hj:j < xs.length) (r:Nat) (u:Value),(encW.enc (f xs[j]))[r]?=some u->w.cell? ⟨b,off+(j * 2+r),none⟩=some u:=fun j hj r u hu=>by
   obtain ⟨n,s,hx0,_⟩:=hs xs[j] (List.getElem_mem hj)
   refine hc j xs[j] r u (List.getElem?_eq_getElem hj) ?_
   have hf:f xs[j]=(n,s):=by rw [hx0]
   rw [hf] at hu
   rw [hx0]
   exact hu
  refine ⟨b,off,rfl,?_,fun i u hu=>?_⟩
  ·have:=key 0 hp 0 _ (by rfl)
   exact World.block_lt_of_cell? w _ this
  ·have hlen:i < (encW.all (xs.map f)).length:=(List.getElem?_eq_some_iff.1 hu).1
   rw [Enc.all_length,List.length_map] at hlen
   have hlen:i < xs.length * 2:=hlen
   have hj:i / 2 < xs.length:=by omega
   have hi:i=i / 2 * 2+i % 2:=by omega
   have hx1:(xs.map f)[i / 2]?=some (f xs[i / 2]):=by rw [List.getElem?_map,List.getElem?_eq_getElem hj];rfl
   have hac:=Zbf encW (xs.map f) (i / 2) (i % 2) _ hx1 (Nat.mod_lt _ (by decide))
   have hac:(encW.all (xs.map f))[i / 2 * 2+i % 2]?=(encW.enc (f xs[i / 2]))[i % 2]?:=hac
   rw [<- hi,hu] at hac
   have:=key (i / 2) hj (i % 2) u hac.symm
   rwa [<- hi] at this
theorem nats3 {z:List Int} (n:z.length=3) (w:∀ x ∈ z,(Lit.int .u8 x).wf=true):∃ a b c:Nat,z=[(a:Int),(b:Int),(c:Int)]:=by
 match z,n with
 | [x,y,u],_ =>
  have h1:=bounds_u8 (w x (by simp))
  have h2:=bounds_u8 (w y (by simp))
  have h3:=bounds_u8 (w u (by simp))
  exact ⟨x.toNat,y.toNat,u.toNat,by rw [Int.toNat_of_nonneg h1.1,Int.toNat_of_nonneg h2.1,Int.toNat_of_nonneg h3.1]⟩
theorem walk (w:World) (v0:Value) (len0:Nat) (Z0:Nat->Int) (w0:IsRow .u8 w v0 len0 Z0) (z1:List Int) (n1:z1.length=3) (w1:∀ z ∈ z1,(Lit.int .u8 z).wf=true) (z2:List Int) (n2:z2.length=3) (w2:∀ z ∈ z2,(Lit.int .u8 z).wf=true) (z3:List Int) (n3:z3.length=3) (w3:∀ z ∈ z3,(Lit.int .u8 z).wf=true) (a4:Int) (w4:(Lit.int .u8 a4).wf=true) (cs5:List Value) (h5:FKs w [.pl (.int .i64),.pl (.int .i64),.pl (.int .i64),.pl (.int .i64),.pl .str,.pl (.int .i64),.pl (.int .i64),.th [.int .i64,.str]] cs5) (a6:Int) (w6:(Lit.int .u8 a6).wf=true) (a7:Int) (w7:(Lit.int .u16 a7).wf=true) (a8:Int) (w8:(Lit.int .u16 a8).wf=true) :
  Calls Try.prog 3 #[v0,.agg (z1.map (Value.int .u8)).toArray,.agg (z2.map (Value.int .u8)).toArray,.agg (z3.map (Value.int .u8)).toArray,.int .u8 a4,.agg cs5.toArray,.int .u8 a6,.int .u16 a7,.int .u16 a8] w fun e w'=>e=.returned (.bool true)/\Ex w w':=by
 obtain ⟨p,hp,hpl,hr⟩:=rowU w0
 obtain ⟨s1,s2,s3,rfl⟩:=nats3 n1 w1
 obtain ⟨t1,t2,t3,rfl⟩:=nats3 n2 w2
 obtain ⟨m1,m2,m3,rfl⟩:=nats3 n3 w3
 have b4:=bounds_u8 w4
 have b6:=bounds_u8 w6
 have b7:=bounds_u16 w7
 have b8:=bounds_u16 w8
 obtain ⟨ep,rfl⟩:∃ n:Nat,a4=(n:Int):=⟨a4.toNat,by omega⟩
 obtain ⟨le,rfl⟩:∃ n:Nat,a6=(n:Int):=⟨a6.toNat,by omega⟩
 obtain ⟨la,rfl⟩:∃ n:Nat,a7=(n:Int):=⟨a7.toNat,by omega⟩
 obtain ⟨no,rfl⟩:∃ n:Nat,a8=(n:Int):=⟨a8.toNat,by omega⟩
 obtain ⟨hl5,hk5⟩:=h5
 match cs5,hl5 with
 | [x0,x1,x2,x3,x4,x5,x6,x7],_ =>
  obtain ⟨a0,rfl,q0⟩:=hk5 0 _ x0 rfl rfl
  obtain ⟨a1,rfl,q1⟩:=hk5 1 _ x1 rfl rfl
  obtain ⟨a2,rfl,q2⟩:=hk5 2 _ x2 rfl rfl
  obtain ⟨a3,rfl,q3⟩:=hk5 3 _ x3 rfl rfl
  obtain ⟨a4,rfl,q4⟩:=hk5 4 _ x4 rfl rfl
  obtain ⟨a5,rfl,q5⟩:=hk5 5 _ x5 rfl rfl
  obtain ⟨a6,rfl,q6⟩:=hk5 6 _ x6 rfl rfl
  obtain ⟨xs,hxs⟩:=hk5 7 _ x7 rfl rfl
  obtain ⟨ws,hwl,hwo,hwr⟩:=writes_of hxs
  refine Zgv (told 0) rfl (us:=[v0,.int .u8 (s1:Int),.int .u8 (s2:Int),.int .u8 (s3:Int),.int .u8 (t1:Int),.int .u8 (t2:Int),.int .u8 (t3:Int),.int .u8 (m1:Int),.int .u8 (m2:Int),.int .u8 (m3:Int),.int .u8 (ep:Int),.int .i64 a0,.int .i64 a1,.int .i64 a2,.int .i64 a3,.string a4,.int .i64 a5,.int .i64 a6,x7,.int .u8 (le:Int),.int .u16 (la:Int),.int .u16 (no:Int)]) (ps:=[pRow pck.encU p,pU (s1:Int),pU (s2:Int),pU (s3:Int),pU (t1:Int),pU (t2:Int),pU (t3:Int),pU (m1:Int),pU (m2:Int),pU (m3:Int),pU (ep:Int),pI a0,pI a1,pI a2,pI a3,pS a4,pI a5,pI a6,pRow encW ws,pU (le:Int),pX (la:Int),pX (no:Int)]) (Zbv fL ⟨p,s1,s2,s3,t1,t2,t3,m1,m2,m3,ep,⟨a0,a1,a2,a3,a4,a5,a6,ws⟩,le,la,no,hp,hpl,by omega,by omega,bounds_i64 q1,rfl,rfl⟩) rfl rfl (fun i p u hp hu=>?_)
  match i,hp,hu with
  | 0,hp,hu=>simp at hp hu;subst hp;subst hu;exact hr
  | 1,hp,hu=>simp at hp hu;subst hp;subst hu;exact Zap rfl
  | 2,hp,hu=>simp at hp hu;subst hp;subst hu;exact Zap rfl
  | 3,hp,hu=>simp at hp hu;subst hp;subst hu;exact Zap rfl
  | 4,hp,hu=>simp at hp hu;subst hp;subst hu;exact Zap rfl
  | 5,hp,hu=>simp at hp hu;subst hp;subst hu;exact Zap rfl
  | 6,hp,hu=>simp at hp hu;subst hp;subst hu;exact Zap rfl
  | 7,hp,hu=>simp at hp hu;subst hp;subst hu;exact Zap rfl
  | 8,hp,hu=>simp at hp hu;subst hp;subst hu;exact Zap rfl
  | 9,hp,hu=>simp at hp hu;subst hp;subst hu;exact Zap rfl
  | 10,hp,hu=>simp at hp hu;subst hp;subst hu;exact Zap rfl
  | 11,hp,hu=>simp at hp hu;subst hp;subst hu;exact Zap rfl
  | 12,hp,hu=>simp at hp hu;subst hp;subst hu;exact Zap rfl
  | 13,hp,hu=>simp at hp hu;subst hp;subst hu;exact Zap rfl
  | 14,hp,hu=>simp at hp hu;subst hp;subst hu;exact Zap rfl
  | 15,hp,hu=>simp at hp hu;subst hp;subst hu;exact Zap rfl
  | 16,hp,hu=>simp at hp hu;subst hp;subst hu;exact Zap rfl
  | 17,hp,hu=>simp at hp hu;subst hp;subst hu;exact Zap rfl
  | 18,hp,hu=>simp at hp hu;subst hp;subst hu;exact hwr
  | 19,hp,hu=>simp at hp hu;subst hp;subst hu;exact Zap rfl
  | 20,hp,hu=>simp at hp hu;subst hp;subst hu;exact Zap rfl
  | 21,hp,hu=>simp at hp hu;subst hp;subst hu;exact Zap rfl
  | i+22,hp,hu=>simp at hp
end Go.Proofs.Ytgdegpifjljnoaa.sessAll
