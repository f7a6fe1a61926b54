/- What lasts, behind some: made out of numbers. -/
import Derived.Test.YtonebjgdhachcaaStb
namespace Go.Proofs.Ytonebjgdhachcaa.sta
open Go Go.RowKit eng SX Fact fil fileFronts dirs pck may
open fileFronts
open pck hiding F F20 F21
open dirs hiding shR shRl shRR flR lpR cutR f0 f1 f2 f3 m0 m1 m2
open may hiding m1 m2 m3 m4 r1 r2 r3 r4 r5
set_option linter.unusedVariables false
set_option linter.unusedSimpArgs false
set_option maxRecDepth 1000000

def ENm (k:Nat):PtrE:={ k:=k,elem:=72,cells:=2,ins:=[],outs:=[none],kinds:=[.num,.row,.num] }
def ESt (k:Nat):PtrE:={ k:=k,elem:=72,cells:=2,ins:=[none],outs:=[some 3],kinds:=[.row,.row,.num,.row,.num] }
def tabN1 (f:FuncId):Option PtrE:=cond (Nat.beq f 43) (some (ENum 20)) none
noncomputable def flNm:=flat (Zar Try.prog 11)
def shNm:Shape:=⟨[(0,.ptr 0 0 0 0)],[pbox],[some true,none],8,11⟩
def shNmR:Shape:=⟨[(2,.leaf)],[pbox],[none,some true,none],8,11⟩
def tabS (f:FuncId):Option FnE:=cond (Nat.beq f 14) (some (EOpen 31)) (cond (Nat.beq f 19) (some (EOpen 32)) (cond (Nat.beq f 16) (some (Zgw 33)) (cond (Nat.beq f 22) (some (EBoot 34)) (cond (Nat.beq f 27) (some (ENew 35)) none))))
def tabSP (f:FuncId):Option PtrE:=cond (Nat.beq f 43) (some (ENum 20)) (cond (Nat.beq f 12) (some (EWs 22)) (cond (Nat.beq f 11) (some (ENm 23)) none))
def orcS:Orc:=orcOr (orcFn tabS) (orcP tabSP)
noncomputable def flT:=flat (Zar Try.prog 10)
noncomputable def lpT:=flat (Zak (nth flT 3))
noncomputable def bdT:=flat (blockBody (nth lpT 2))
def shT:Shape:=⟨[(0,.ptr 0 0 0 0),(1,.leaf)],[pbox],[none,some true,none],82,10⟩
def shTl:Shape:=⟨[(0,.ptr 0 0 0 0),(1,.leaf),(4,.ptr 1 0 0 0),(5,.ptr 2 0 0 0),(6,.leaf)],[pbox,zbox,sbox true],[none,none,some true,none,none,some true,some true,none],82,10⟩
def shTc:Shape:=⟨[(0,.ptr 0 0 0 0),(1,.leaf),(4,.ptr 1 0 0 0),(5,.ptr 2 0 0 0),(6,.leaf),(7,.leaf),(8,.leaf),(34,.leaf)],[pbox,zbox,sbox true],[none,none,none,none,none,some true,none,none,some true,some true,none],82,10⟩
def shTR:Shape:=⟨[(4,.ptr 1 0 0 0)],[pbox,sbox true],[some true,none,some true,some true,none],82,10⟩
@[simp] def zStc1:List SX:=[.var 8,.var 9,.var 10,.var 2,rop ROp.max2 [.var 3,.con (.int .i64 1)],.bin .add (.con (.int .i64 1)) (.fn 20 [.con (.int .i64 7),.var 5,.var 6] 0),.fn 22 [.con (.int .i64 5),.fn 20 [.con (.int .i64 7),.var 5,.var 6] 1,.fn 20 [.con (.int .i64 7),.var 5,.var 6] 2] 0]
@[simp] def zStc2:List SX:=[.var 8,.var 9,.var 10,.var 2,rop ROp.max2 [.var 3,.con (.int .i64 1)],.fn 23 [.var 5,.var 6] 0]
@[simp] def zStc3:List SX:=[.con (.int .i64 3),.fn 20 [.con (.int .i64 3),.var 2,.var 3] 1,.fn 20 [.con (.int .i64 3),.var 2,.var 3] 2]
@[simp] def zStc4:List SX:=[.con (.int .i64 10),.var 0,.var 1]
@[simp] def zStc5:List SX:=[.con (.int .i64 7),.var 5,.var 6]
@[simp] def zStc6:List SX:=[.var 8,.var 9,.var 10,.var 2,rop ROp.max2 [.var 3,.con (.int .i64 1)],.bin .add (.con (.int .i64 1)) (.fn 20 zStc5 0)]
@[simp] def zStc7:SX:=.bin .add (.con (.int .i64 1)) (.fn 20 [.con (.int .i64 3),.var 2,.var 3] 0)
@[simp] def zStc8:List SX:=[.con (.int .i64 9),.var 2,.var 3]
@[simp] def zStc9:List SX:=[.con (.int .i64 5),.fn 20 zStc5 1,.fn 20 zStc5 2]
@[simp] def Zi3:SX:=.bin .eql (.var 4) (.con (.int .i64 0))
@[simp] def Zi2:SX:=.con (.int .i64 1)
@[simp] def Zi1:List SX:=[.con (.int .i64 6),.fn 20 zStc3 1,.fn 20 zStc3 2]
@[simp] def Zck:Fact:=.ok (.fn 20 zStc4 2)
@[simp] def Zr9:List SX:=[.var 0,.var 1,.fn 23 [.var 5,.var 6] 1,.fn 23 [.var 5,.var 6] 2,.var 7,.fn 31 zStc2 0,.fn 31 zStc2 1,.fn 31 zStc2 2]
@[simp] def Zi0:SX:=.bin .eql (.var 4) (.con (.int .i64 2))
@[simp] def zStc16:SX:=.con (.string { data:={ toList:=[UInt8.ofNat 110,UInt8.ofNat 105,UInt8.ofNat 110,UInt8.ofNat 101,UInt8.ofNat 99,UInt8.ofNat 104,UInt8.ofNat 97,UInt8.ofNat 114,UInt8.ofNat 115] } })
@[simp] def Zjz:SX:=.bin .eql (.var 4) Zi2
@[simp] def Zk7:SX:=.bin .eql (.var 4) (.con (.int .i64 3))
@[simp] def Zcj:SX:=.fn 20 zStc4 0
@[simp] def zStc20:SX:=.con (.string { data:={ toList:=[UInt8.ofNat 115,UInt8.ofNat 101,UInt8.ofNat 118,UInt8.ofNat 101,UInt8.ofNat 110,UInt8.ofNat 55,UInt8.ofNat 55] } })
@[simp] def Zk6:Fact:=.ok (rop ROp.max2 [.var 3,Zi2])
@[simp] def Zgn:Fact:=.fp 43 (ENum 20) zStc4
@[simp] def Zr8:SX:=.bin .add (.cell (.var 6) (.bin .sub zStc7 Zi2) 4 0) (.fn 20 zStc3 0)
@[simp] def Zk5:Fact:=.ok (.fn 23 [.var 5,.var 6] 2)
@[simp] def Zpd:SX:=.bin .eql (.fn 20 zStc8 0) (.con (.int .i64 0))
@[simp] def zStc26:SX:=.con (.string { data:={ toList:=[UInt8.ofNat 110,UInt8.ofNat 111,UInt8.ofNat 116,UInt8.ofNat 101,UInt8.ofNat 115] } })
@[simp] def Zr7:List SX:=[.var 0,.var 1,.var 2,.var 3,.var 4,.var 5,.var 6,.var 7]
@[simp] def Zk4:SX:=.bin .lss (.var 1) (.var 0)
@[simp] def Zpc:SX:=.bin .eql (.var 4) (.con (.int .i64 4))
@[simp] def zStc30:List SX:=[.var 0,.var 1,.fn 22 zStc9 1,.fn 22 zStc9 2,.var 7,.fn 33 zStc1 0,.fn 33 zStc1 1,.fn 33 zStc1 2]
@[simp] def Zk3:List SX:=[.var 5,.var 6,.var 7]
@[simp] def zStc32:SX:=.con (.string { data:={ toList:=[UInt8.ofNat 108,UInt8.ofNat 111,UInt8.ofNat 103] } })
@[simp] def zStc33:SX:=.con (.string { data:={ toList:=[UInt8.ofNat 120,UInt8.ofNat 47,UInt8.ofNat 121] } })
@[simp] def Zpb:SX:=.bin .geq (.var 3) (.len (.var 2))
@[simp] def zStc35:SX:=.con (.string { data:={ toList:=[UInt8.ofNat 97,UInt8.ofNat 32,UInt8.ofNat 98] } })
@[simp] def Zd8:Fact:=.ok (.var 0)
@[simp] def Zgm:SX:=.fn 20 zStc4 1
@[simp] def Zgl:SX:=.fn 20 zStc4 2
@[simp] def Zem:Fact:=.ok (.var 7)
@[simp] def Znd:Fact:=.is Zi3 (.bool false)
@[simp] def Zk2:Fact:=.ok (.fn 31 zStc2 2)
@[simp] def Zfb:Fact:=.ok (.var 1)
@[simp] def Zr6:Fact:=.ok (.bin .add Zi2 (.fn 20 zStc5 0))
@[simp] def Zr5:List SX:=[.con (.int .i64 3),.var 2,.var 3]
@[simp] def Zpa:Fact:=.is Zjz (.bool false)
@[simp] def Zr4:Fact:=.fp 11 (ENm 23) [.var 5,.var 6]
@[simp] def zStc47:SX:=.con (.string { data:={ toList:=[UInt8.ofNat 97] } })
@[simp] def zStc48:SX:=.con (.string { data:={ toList:=[UInt8.ofNat 98] } })
@[simp] def zStc49:SX:=.con (.string { data:={ toList:=[UInt8.ofNat 99] } })
@[simp] def Zr3:Fact:=.ok (.fn 23 [.var 5,.var 6] 0)
@[simp] def Zo9:SX:=.bin .sub zStc7 Zi2
theorem nm0:segTo Try.prog (orcP tabN1) 10000 flNm shNm [0] shNmR [(0,0)]=some (.ret,[Zgn,.ok Zcj,Zck,Fact.at Zcj 0,.ok zStc47,Zck],[zStc47,Zgm,Zgl]):=by kernel_rfl
theorem nm1:segTo Try.prog (orcP tabN1) 10000 flNm shNm [1] shNmR [(0,0)]=some (.ret,[Zgn,.ok Zcj,Zck,Fact.at Zcj 1,.ok zStc48,Zck],[zStc48,Zgm,Zgl]):=by kernel_rfl
theorem nm2:segTo Try.prog (orcP tabN1) 10000 flNm shNm [2] shNmR [(0,0)]=some (.ret,[Zgn,.ok Zcj,Zck,Fact.at Zcj 2,.ok zStc49,Zck],[zStc49,Zgm,Zgl]):=by kernel_rfl
theorem nm3:segTo Try.prog (orcP tabN1) 10000 flNm shNm [3] shNmR [(0,0)]=some (.ret,[Zgn,.ok Zcj,Zck,Fact.at Zcj 3,.ok zStc26,Zck],[zStc26,Zgm,Zgl]):=by kernel_rfl
theorem nm4:segTo Try.prog (orcP tabN1) 10000 flNm shNm [4] shNmR [(0,0)]=some (.ret,[Zgn,.ok Zcj,Zck,Fact.at Zcj 4,.ok zStc32,Zck],[zStc32,Zgm,Zgl]):=by kernel_rfl
theorem nm5:segTo Try.prog (orcP tabN1) 10000 flNm shNm [5] shNmR [(0,0)]=some (.ret,[Zgn,.ok Zcj,Zck,Fact.at Zcj 5,.ok zStc33,Zck],[zStc33,Zgm,Zgl]):=by kernel_rfl
theorem nm6:segTo Try.prog (orcP tabN1) 10000 flNm shNm [6] shNmR [(0,0)]=some (.ret,[Zgn,.ok Zcj,Zck,Fact.at Zcj 6,.ok zStc20,Zck],[zStc20,Zgm,Zgl]):=by kernel_rfl
theorem nm7:segTo Try.prog (orcP tabN1) 10000 flNm shNm [7] shNmR [(0,0)]=some (.ret,[Zgn,.ok Zcj,Zck,Fact.at Zcj 7,.ok (.con (.string { data:={ toList:=[] } })),Zck],[.con (.string { data:={ toList:=[] } }),Zgm,Zgl]):=by kernel_rfl
theorem nm8:segTo Try.prog (orcP tabN1) 10000 flNm shNm [8] shNmR [(0,0)]=some (.ret,[Zgn,.ok Zcj,Zck,Fact.at Zcj 8,.ok zStc35,Zck],[zStc35,Zgm,Zgl]):=by kernel_rfl
theorem nm9:segTo Try.prog (orcP tabN1) 10000 flNm shNm [9] shNmR [(0,0)]=some (.ret,[Zgn,.ok Zcj,Zck,Fact.at Zcj 9,.ok zStc16,Zck],[zStc16,Zgm,Zgl]):=by kernel_rfl
theorem preT:segTo Try.prog orcS 10000 (flT.take 3) shT [] shTl [(0,0),(2,0),(5,0)]=some (.normal,[.fn 27 (ENew 35) [],.ok (.fn 35 [] 2),Zd8,.ok (.con (.int .i64 0)),.ok (.var 2),.ok (.con (.int .i64 0)),.ok (.fn 35 [] 2)],[.var 0,.con (.int .i64 0),.var 1,.var 2,.con (.int .i64 0),.fn 35 [] 0,.fn 35 [] 1,.fn 35 [] 2]):=by kernel_rfl
theorem hdT:segTo Try.prog orcS 10000 (lpT.take 2) shTl [1,0] shTl [(0,0),(1,0),(2,0)]=some (.normal,[.ok Zk4,.is Zk4 (.bool true),.ok (.len (.var 2)),.ok Zpb,.is Zpb (.bool false),Zd8,Zfb,.ok (.var 3),.ok (.var 4),Zem],Zr7):=by kernel_rfl
theorem ex0:segTo Try.prog orcS 10000 lpT shTl [0] shTl [(0,0),(1,0),(2,0)]=some (.exit 0,[.ok Zk4,.is Zk4 (.bool false),Zd8,Zfb,.ok (.var 3),.ok (.var 4),Zem],Zr7):=by kernel_rfl
theorem ex1:segTo Try.prog orcS 10000 lpT shTl [1,1] shTl [(0,0),(1,0),(2,0)]=some (.exit 0,[.ok Zk4,.is Zk4 (.bool true),.ok (.len (.var 2)),.ok Zpb,.is Zpb (.bool true),Zd8,Zfb,.ok (.var 3),.ok (.var 4),Zem],Zr7):=by kernel_rfl
theorem pc:segTo Try.prog orcS 10000 (bdT.take 3) shTl [] shTc [(0,0),(1,0),(2,0)]=some (.normal,[.fp 43 (ENum 20) Zr5,.ok (.fn 20 Zr5 0),.ok (.fn 20 Zr5 2),.ok zStc7,.ok Zo9,.idx (.var 6) Zo9 4 4,.idx (.var 6) Zo9 4 1,.ok (.cell (.var 6) Zo9 4 0),.fp 43 (ENum 20) zStc3,.ok (.fn 20 zStc3 0),.ok (.fn 20 zStc3 2),.ok Zr8,.fp 43 (ENum 20) Zi1,.ok (.fn 20 Zi1 0),.ok (.fn 20 Zi1 2),Zd8,Zfb,.ok zStc7,.ok Zr8,.ok (.fn 20 Zi1 0),.ok (.fn 20 Zi1 2),.ok (.var 4),Zem],[.var 0,.var 1,zStc7,Zr8,.fn 20 Zi1 0,.fn 20 Zi1 1,.fn 20 Zi1 2,.var 4,.var 5,.var 6,.var 7]):=by kernel_rfl
theorem c0:segTo Try.prog orcS 10000 ((bdT.drop 3).take 1) shTc [1] shTl [(0,0),(1,0),(2,0)]=some (.normal,[.ok Zi3,.is Zi3 (.bool true),Zk6,Zr4,Zr3,Zk5,.fn 14 (EOpen 31) zStc2,Zk2,.ok (.fn 31 zStc2 3),.ok (.fn 31 zStc2 4),.ok (.fn 31 zStc2 5),.ok (.fn 31 zStc2 6),Zd8,Zfb,Zk5,Zem,Zk2],Zr9):=by kernel_rfl
theorem c1:segTo Try.prog orcS 10000 ((bdT.drop 3).take 1) shTc [0,1] shTl [(0,0),(1,0),(2,0)]=some (.normal,[.ok Zi3,Znd,.ok Zjz,.is Zjz (.bool true),Zk6,Zr4,Zr3,Zk5,.fn 14 (EOpen 31) zStc2,Zk2,.ok (.fn 31 zStc2 3),.ok (.fn 31 zStc2 4),.ok (.fn 31 zStc2 5),.ok (.fn 31 zStc2 6),Zd8,Zfb,Zk5,Zem,Zk2],Zr9):=by kernel_rfl
theorem c2:segTo Try.prog orcS 10000 ((bdT.drop 3).take 1) shTc [0,0,1] shTl [(0,0),(1,0),(2,0)]=some (.normal,[.ok Zi3,Znd,.ok Zjz,Zpa,.ok Zi0,.is Zi0 (.bool true),Zk6,Zr4,Zr3,Zk5,.fn 14 (EOpen 31) zStc2,Zk2,.ok (.fn 31 zStc2 3),.ok (.fn 31 zStc2 4),.ok (.fn 31 zStc2 5),.ok (.fn 31 zStc2 6),Zd8,Zfb,Zk5,Zem,Zk2],Zr9):=by kernel_rfl
theorem c3:segTo Try.prog orcS 10000 ((bdT.drop 3).take 1) shTc [0,0,0,1] shTl [(0,0),(1,0),(2,0)]=some (.normal,[.ok Zi3,Znd,.ok Zjz,Zpa,.ok Zi0,.is Zi0 (.bool false),.ok Zk7,.is Zk7 (.bool true),Zk6,.fp 43 (ENum 20) zStc5,.ok (.fn 20 zStc5 0),.ok (.fn 20 zStc5 2),Zr6,.fp 12 (EWs 22) zStc9,.ok (.fn 22 zStc9 2),.fn 16 (Zgw 33) zStc1,.ok (.fn 33 zStc1 2),.ok (.fn 33 zStc1 3),.ok (.fn 33 zStc1 4),.ok (.fn 33 zStc1 5),.ok (.fn 33 zStc1 6),Zd8,Zfb,.ok (.fn 22 zStc9 2),Zem,.ok (.fn 33 zStc1 2)],zStc30):=by kernel_rfl
theorem c4:segTo Try.prog orcS 10000 ((bdT.drop 3).take 1) shTc [0,0,0,0,1] shTl [(0,0),(1,0),(2,0)]=some (.normal,[.ok Zi3,Znd,.ok Zjz,Zpa,.ok Zi0,.is Zi0 (.bool false),.ok Zk7,.is Zk7 (.bool false),.ok Zpc,.is Zpc (.bool true),Zk6,.fp 43 (ENum 20) zStc5,.ok (.fn 20 zStc5 0),.ok (.fn 20 zStc5 2),Zr6,.fp 12 (EWs 22) zStc9,.ok (.fn 22 zStc9 2),.fn 16 (Zgw 33) zStc1,.ok (.fn 33 zStc1 2),.ok (.fn 33 zStc1 3),.ok (.fn 33 zStc1 4),.ok (.fn 33 zStc1 5),.ok (.fn 33 zStc1 6),Zd8,Zfb,.ok (.fn 22 zStc9 2),Zem,.ok (.fn 33 zStc1 2)],zStc30):=by kernel_rfl
theorem c5:segTo Try.prog orcS 10000 ((bdT.drop 3).take 1) shTc [0,0,0,0,0] shTl [(0,0),(1,0),(2,0)]=some (.normal,[.ok Zi3,Znd,.ok Zjz,Zpa,.ok Zi0,.is Zi0 (.bool false),.ok Zk7,.is Zk7 (.bool false),.ok Zpc,.is Zpc (.bool false),Zk6,.fp 43 (ENum 20) zStc5,.ok (.fn 20 zStc5 0),.ok (.fn 20 zStc5 2),Zr6,.fn 19 (EOpen 32) zStc6,.ok (.fn 32 zStc6 2),.ok (.fn 32 zStc6 3),.ok (.fn 32 zStc6 4),.ok (.fn 32 zStc6 5),.ok (.fn 32 zStc6 6),Zd8,Zfb,.ok (.fn 20 zStc5 2),Zem,.ok (.fn 32 zStc6 2)],[.var 0,.var 1,.fn 20 zStc5 1,.fn 20 zStc5 2,.var 7,.fn 32 zStc6 0,.fn 32 zStc6 1,.fn 32 zStc6 2]):=by kernel_rfl
theorem bt0:segTo Try.prog orcS 10000 (bdT.drop 4) shTl [0] shTl [(0,0),(1,0),(2,0)]=some (.normal,[.fp 43 (ENum 20) zStc8,.ok (.fn 20 zStc8 0),.ok (.fn 20 zStc8 2),.ok Zpd,.is Zpd (.bool false),Zd8,Zfb,.ok (.fn 20 zStc8 2),.ok (.var 4),Zem],[.var 0,.var 1,.fn 20 zStc8 1,.fn 20 zStc8 2,.var 4,.var 5,.var 6,.var 7]):=by kernel_rfl
theorem bt1:segTo Try.prog orcS 10000 (bdT.drop 4) shTl [1] shTl [(0,0),(1,0),(2,0)]=some (.normal,[.fp 43 (ENum 20) zStc8,.ok (.fn 20 zStc8 0),.ok (.fn 20 zStc8 2),.ok Zpd,.is Zpd (.bool true),.fn 22 (EBoot 34) Zk3,.ok (.fn 34 Zk3 2),Zd8,Zfb,.ok (.fn 20 zStc8 2),.ok (.var 4),.ok (.fn 34 Zk3 2)],[.var 0,.var 1,.fn 20 zStc8 1,.fn 20 zStc8 2,.var 4,.fn 34 Zk3 0,.fn 34 Zk3 1,.fn 34 Zk3 2]):=by kernel_rfl
theorem stpT:segTo Try.prog orcS 10000 (lpT.drop 3) shTl [] shTl [(0,0),(1,0),(2,0)]=some (.normal,[.ok (.bin .add (.var 1) Zi2),Zd8,.ok (.bin .add (.var 1) Zi2),.ok (.var 3),.ok (.var 4),Zem],[.var 0,.bin .add (.var 1) Zi2,.var 2,.var 3,.var 4,.var 5,.var 6,.var 7]):=by kernel_rfl
theorem postT:segTo Try.prog orcS 10000 (flT.drop 4) shTl [] shTR [(0,0),(1,0)]=some (.ret,[.ok (.var 3),Zem],[.var 2,.var 3,.var 5,.var 6,.var 7]):=by kernel_rfl

def nmt:Nat->ByteArray
 | 0=>⟨⟨[UInt8.ofNat 97]⟩⟩
 | 1=>⟨⟨[UInt8.ofNat 98]⟩⟩
 | 2=>⟨⟨[UInt8.ofNat 99]⟩⟩
 | 3=>⟨⟨[UInt8.ofNat 110,UInt8.ofNat 111,UInt8.ofNat 116,UInt8.ofNat 101,UInt8.ofNat 115]⟩⟩
 | 4=>⟨⟨[UInt8.ofNat 108,UInt8.ofNat 111,UInt8.ofNat 103]⟩⟩
 | 5=>⟨⟨[UInt8.ofNat 120,UInt8.ofNat 47,UInt8.ofNat 121]⟩⟩
 | 6=>⟨⟨[UInt8.ofNat 115,UInt8.ofNat 101,UInt8.ofNat 118,UInt8.ofNat 101,UInt8.ofNat 110,UInt8.ofNat 55,UInt8.ofNat 55]⟩⟩
 | 7=>⟨⟨[]⟩⟩
 | 8=>⟨⟨[UInt8.ofNat 97,UInt8.ofNat 32,UInt8.ofNat 98]⟩⟩
 | 9=>⟨⟨[UInt8.ofNat 110,UInt8.ofNat 105,UInt8.ofNat 110,UInt8.ofNat 101,UInt8.ofNat 99,UInt8.ofNat 104,UInt8.ofNat 97,UInt8.ofNat 114,UInt8.ofNat 115]⟩⟩
 | _=>⟨⟨[]⟩⟩
theorem nmt_size:∀ j,(nmt j).size<=9
 | 0=>by decide
 | 1=>by decide
 | 2=>by decide
 | 3=>by decide
 | 4=>by decide
 | 5=>by decide
 | 6=>by decide
 | 7=>by decide
 | 8=>by decide
 | 9=>by decide
 | _+10=>by show (⟨⟨[]⟩⟩:ByteArray).size<=9;decide
@[simp] theorem kNm (k:Nat):(ENm k).k=k:=rfl
@[simp] theorem kSt (k:Nat):(ESt k).k=k:=rfl
def RNm (ps qs:List PV):Prop:=∃ (n:Nat) (l:List Nat),OkP l n/\ps=[pRow encU l,pI (n:Int)]/\qs=[pS (nmt (numV l n 10)),pRow encU l,pI (numN l n:Int)]
theorem fNm:∀ ps q1 q2,RNm ps q1->RNm ps q2->q1=q2:=by
 rintro ps q1 q2 ⟨n,l,_,rfl,rfl⟩ ⟨n',l',_,h,rfl⟩
 simp only [List.cons.injEq,PV.v.injEq,Value.int.injEq,true_and,and_true,Int.ofNat_inj] at h
 obtain ⟨h,rfl⟩:=h
 rw [fil.pRow_inj Zgc h]
noncomputable def FS:Fns:=fun k=>match k with | 20=>spec RNum | 22=>spec RWs | 23=>spec RNm | 31=>spec ROpen | 32=>spec RGone | 33=>spec Zr0 | 34=>spec RBoot | 35=>spec RNew | _=>fun _=>none
theorem s20:ToldP 43 (ENum 20) (FS 20):=toldNum 20
theorem FS20 {m n:Nat} {l:List Nat} (h1:1<=m) (h2:m<=1000) (ok:OkP l n):FS 20 [pI (m:Int),pRow encU l,pI (n:Int)]=some [pI (numV l n m:Int),pRow encU l,pI (numN l n:Int)]:=Zao fNum ⟨m,n,l,h1,h2,ok.n,ok.len,ok.u8,rfl,rfl⟩
set_option maxHeartbeats 1000000 in
theorem toldNm (k:Nat):ToldP 11 (ENm k) (spec RNm):=by
 refine Zho FS _ (Zar Try.prog 11) Try.func11 (by kernel_rfl) shNm (by kernel_rfl) ?_ ?_
 ·intro ps qs h i hi
  obtain ⟨n,l,_,rfl,rfl⟩:=Zai h
  simp [shNm] at hi
  match i,hi with
  | 0,hi=>simp at hi
  | 1,hi=>exact ⟨_,rfl,rfl⟩
  | i+2,hi=>simp at hi
 ·intro C ps qs hF h a w hsh
  obtain ⟨n,l,ok,rfl,rfl⟩:=Zai h
  show wpL Try.prog flNm _ a w
  rw [<- List.append_nil flNm]
  have e1:FS 20 [pI 10,pRow encU l,pI (n:Int)]=some [pI (numV l n 10:Int),pRow encU l,pI (numN l n:Int)]:=FS20 (m:=10) (by omega) (by omega) ok
  have hlt:numV l n 10 < 10:=Zc2 (by omega)
  generalize numV l n 10=j at *
  match j,hlt with
  | 0,_ =>
   refine Zag Zac Zad (Zc0 _) nm0 hsh ?_ ?_
   ·simp only [fmC,fmN]
    simp [-Zae,Zab,Zaa,Base.ev,SX.ev,evs,Value.oneCell',hF,e1,s20]
   ·intro qs a1 w1' hq h1'
    refine ⟨fun h=>(by cases h),fun _=>⟨.inr rfl,shNmR,qs,[SX.var 0,SX.var 1,SX.var 2],h1',by kernel_rfl,?_⟩⟩
    simp [evs,SX.ev,hF,e1] at hq ⊢
    subst hq
    simp [nmt]
  | 1,_ =>
   refine Zag Zac Zad (Zc0 _) nm1 hsh ?_ ?_
   ·simp only [fmC,fmN]
    simp [-Zae,Zab,Zaa,Base.ev,SX.ev,evs,Value.oneCell',hF,e1,s20]
   ·intro qs a1 w1' hq h1'
    refine ⟨fun h=>(by cases h),fun _=>⟨.inr rfl,shNmR,qs,[SX.var 0,SX.var 1,SX.var 2],h1',by kernel_rfl,?_⟩⟩
    simp [evs,SX.ev,hF,e1] at hq ⊢
    subst hq
    simp [nmt]
  | 2,_ =>
   refine Zag Zac Zad (Zc0 _) nm2 hsh ?_ ?_
   ·simp only [fmC,fmN]
    simp [-Zae,Zab,Zaa,Base.ev,SX.ev,evs,Value.oneCell',hF,e1,s20]
   ·intro qs a1 w1' hq h1'
    refine ⟨fun h=>(by cases h),fun _=>⟨.inr rfl,shNmR,qs,[SX.var 0,SX.var 1,SX.var 2],h1',by kernel_rfl,?_⟩⟩
    simp [evs,SX.ev,hF,e1] at hq ⊢
    subst hq
    simp [nmt]
  | 3,_ =>
   refine Zag Zac Zad (Zc0 _) nm3 hsh ?_ ?_
   ·simp only [fmC,fmN]
    simp [-Zae,Zab,Zaa,Base.ev,SX.ev,evs,Value.oneCell',hF,e1,s20]
   ·intro qs a1 w1' hq h1'
    refine ⟨fun h=>(by cases h),fun _=>⟨.inr rfl,shNmR,qs,[SX.var 0,SX.var 1,SX.var 2],h1',by kernel_rfl,?_⟩⟩
    simp [evs,SX.ev,hF,e1] at hq ⊢
    subst hq
    simp [nmt]
  | 4,_ =>
   refine Zag Zac Zad (Zc0 _) nm4 hsh ?_ ?_
   ·simp only [fmC,fmN]
    simp [-Zae,Zab,Zaa,Base.ev,SX.ev,evs,Value.oneCell',hF,e1,s20]
   ·intro qs a1 w1' hq h1'
    refine ⟨fun h=>(by cases h),fun _=>⟨.inr rfl,shNmR,qs,[SX.var 0,SX.var 1,SX.var 2],h1',by kernel_rfl,?_⟩⟩
    simp [evs,SX.ev,hF,e1] at hq ⊢
    subst hq
    simp [nmt]
  | 5,_ =>
   refine Zag Zac Zad (Zc0 _) nm5 hsh ?_ ?_
   ·simp only [fmC,fmN]
    simp [-Zae,Zab,Zaa,Base.ev,SX.ev,evs,Value.oneCell',hF,e1,s20]
   ·intro qs a1 w1' hq h1'
    refine ⟨fun h=>(by cases h),fun _=>⟨.inr rfl,shNmR,qs,[SX.var 0,SX.var 1,SX.var 2],h1',by kernel_rfl,?_⟩⟩
    simp [evs,SX.ev,hF,e1] at hq ⊢
    subst hq
    simp [nmt]
  | 6,_ =>
   refine Zag Zac Zad (Zc0 _) nm6 hsh ?_ ?_
   ·simp only [fmC,fmN]
    simp [-Zae,Zab,Zaa,Base.ev,SX.ev,evs,Value.oneCell',hF,e1,s20]
   ·intro qs a1 w1' hq h1'
    refine ⟨fun h=>(by cases h),fun _=>⟨.inr rfl,shNmR,qs,[SX.var 0,SX.var 1,SX.var 2],h1',by kernel_rfl,?_⟩⟩
    simp [evs,SX.ev,hF,e1] at hq ⊢
    subst hq
    simp [nmt]
  | 7,_ =>
   refine Zag Zac Zad (Zc0 _) nm7 hsh ?_ ?_
   ·simp only [fmC,fmN]
    simp [-Zae,Zab,Zaa,Base.ev,SX.ev,evs,Value.oneCell',hF,e1,s20]
   ·intro qs a1 w1' hq h1'
    refine ⟨fun h=>(by cases h),fun _=>⟨.inr rfl,shNmR,qs,[SX.var 0,SX.var 1,SX.var 2],h1',by kernel_rfl,?_⟩⟩
    simp [evs,SX.ev,hF,e1] at hq ⊢
    subst hq
    simp [nmt]
  | 8,_ =>
   refine Zag Zac Zad (Zc0 _) nm8 hsh ?_ ?_
   ·simp only [fmC,fmN]
    simp [-Zae,Zab,Zaa,Base.ev,SX.ev,evs,Value.oneCell',hF,e1,s20]
   ·intro qs a1 w1' hq h1'
    refine ⟨fun h=>(by cases h),fun _=>⟨.inr rfl,shNmR,qs,[SX.var 0,SX.var 1,SX.var 2],h1',by kernel_rfl,?_⟩⟩
    simp [evs,SX.ev,hF,e1] at hq ⊢
    subst hq
    simp [nmt]
  | 9,_ =>
   refine Zag Zac Zad (Zc0 _) nm9 hsh ?_ ?_
   ·simp only [fmC,fmN]
    simp [-Zae,Zab,Zaa,Base.ev,SX.ev,evs,Value.oneCell',hF,e1,s20]
   ·intro qs a1 w1' hq h1'
    refine ⟨fun h=>(by cases h),fun _=>⟨.inr rfl,shNmR,qs,[SX.var 0,SX.var 1,SX.var 2],h1',by kernel_rfl,?_⟩⟩
    simp [evs,SX.ev,hF,e1] at hq ⊢
    subst hq
    simp [nmt]
  | j+10,h=>omega

def Zcx (l:List Nat) (s:StM) (n:Nat):StM × Nat :=
 let n1:=numN l n
 let n2:=numN l n1
 let n3:=numN l n2
 let n4:=numN l n3
 let c:Int:=1+(numV l n 3:Int)
 let seq:Int:=max ((s.marks.getD (numV l n 3) (0,0,0,0)).1+(numV l n1 3:Int)) 1
 let r:StM × Nat:=if numV l n2 6<=2 then ((openS s c seq (nmt (numV l n3 10))).1,n4)
  else if numV l n2 6<=4 then ((Zbm s c seq (1+(numV l n3 7:Int)) (Zcw l n4 5).1).1,(Zcw l n4 5).2)
  else ((goneS s c seq (1+(numV l n3 7:Int))).1,n4)
 (if numV l r.2 9=0 then bootS r.1 else r.1,numN l r.2)
def stRun (l:List Nat):Nat->StM->Nat->StM × Nat
 | 0,s,n=>(s,n)
 | k+1,s,n=>if l.length<=n then (s,n) else stRun l k (Zcx l s n).1 (Zcx l s n).2
structure TsOk (s:StM) (b:Int):Prop where
 fl:s.files.length=6
 ml:s.marks.length=3
 fv:∀ f ∈ s.files,0<=f.2.1/\f.2.1<=1073741824/\f.2.2.size<=24
 mv:∀ m ∈ s.marks,0<=m.1/\m.1<=b
 ep:0<=s.epoch/\s.epoch<=1073741824
theorem TsOk.st {s:StM} {b:Int} (h:TsOk s b):StOk s:=⟨by rw [h.fl];omega,by rw [h.ml];omega,fun f hf=>by have:=h.fv f hf;omega,by have:=h.ep;omega⟩
theorem Zcp {s:StM} {b b':Int} (h:TsOk s b) (hb:b<=b') (c:Int) {m:MarkM} (h0:0<=m.1) (h1:m.1<=b') (at':Int) {f:FileM} (hf:0<=f.2.1/\f.2.1<=1073741824/\f.2.2.size<=24):TsOk (Za0 s c m at' f) b':=by
 refine ⟨?_,?_,fun g hg=>?_,fun g hg=>?_,h.ep⟩
 ·simp only [Za0]
  split
  ·rw [List.length_set];exact h.fl
  ·exact h.fl
 ·simp only [Za0,putMk]
  split
  ·rw [List.length_set];exact h.ml
  ·exact h.ml
 ·simp only [Za0] at hg
  split at hg
  ·rcases List.mem_or_eq_of_mem_set hg with hg | rfl
   ·exact h.fv g hg
   ·exact hf
  ·exact h.fv g hg
 ·simp only [Za0,putMk] at hg
  have old:g ∈ s.marks->0<=g.1/\g.1<=b':=fun hg=>by have:=h.mv g hg;omega
  split at hg
  ·rcases List.mem_or_eq_of_mem_set hg with hg | rfl
   ·exact old hg
   ·exact ⟨h0,h1⟩
  ·exact old hg
theorem Zjj:0<=f00.2.1/\f00.2.1<=1073741824/\f00.2.2.size<=24:=by decide
theorem ts_open {s:StM} {b b':Int} (h:TsOk s b) (hb:b<=b') (c seq:Int) (name:ByteArray) (h0:0<=seq) (h1:seq<=b'):TsOk (openS s c seq name).1 b':=by
 unfold openS
 split
 ·split
  ·exact Zcp h hb c h0 h1 _ Zjj
  ·split
   ·exact Zcp h hb c h0 h1 _ (by simp only [e0];decide)
   ·exact Zcp h hb c h0 h1 _ Zjj
 ·exact Zcp h hb c h0 h1 _ Zjj
theorem ts_gone {s:StM} {b b':Int} (h:TsOk s b) (hb:b<=b') (c seq file:Int) (h0:0<=seq) (h1:seq<=b'):TsOk (goneS s c seq file).1 b':=by
 unfold goneS
 split
 ·exact Zcp h hb c h0 h1 _ Zjj
 ·exact Zcp h hb c h0 h1 _ Zjj
theorem ts_flush {s:StM} {b b':Int} (h:TsOk s b) (hb:b<=b') (c seq file:Int) (l:List (Int × ByteArray)) (h0:0<=seq) (h1:seq<=b'):TsOk (Zbm s c seq file l).1 b':=by
 unfold Zbm
 split
 ·rename_i hF
  split
  ·refine Zcp h hb c h0 h1 _ ?_
   have hfi:s.files.getD (file.toNat - 1) f00 ∈ s.files:=by
    simp only [isF,Bool.and_eq_true,decide_eq_true_eq] at hF
    have hlt:file.toNat - 1 < s.files.length:=by omega
    simp only [List.getD,List.getElem?_eq_getElem hlt,Option.getD_some]
    exact List.getElem_mem hlt
   have hv:=h.fv _ hfi
   generalize s.files.getD (file.toNat - 1) f00=f at *
   have hbl:(bs (allW f.2.2.data.toList l)).size<=24:=by
    rw [Zo6]
    have:=Zjw l f.2.2.data.toList
    have h2:f.2.2.data.toList.length=f.2.2.size:=by simp
    omega
   simp only [Zb0]
   exact ⟨by omega,by omega,hbl⟩
  ·exact Zcp h hb c h0 h1 _ Zjj
 ·exact Zcp h hb c h0 h1 _ Zjj
theorem ts_boot {s:StM} {b:Int} (h:TsOk s b):TsOk (bootS s) b:=⟨h.fl,h.ml,h.fv,h.mv,by have:=h.ep;simp only [bootS];omega⟩
theorem Zrl:TsOk newS 0:=by
 refine ⟨rfl,rfl,fun f hf=>?_,fun m hm=>?_,by decide⟩
 ·rw [List.eq_of_mem_replicate hf];exact Zjj
 ·rw [List.eq_of_mem_replicate hm];decide
end Go.Proofs.Ytonebjgdhachcaa.sta
