/- What lasts, behind some: made out of numbers. -/
import Derived.Test.YtefkakjegdjojaaGreatStb
namespace Go.Proofs.YtefkakjegdjojaaGreat.sta
open Go Go.RowKit eng SX Fact fil fileFronts dirs pck may
open fileFronts
open pck hiding F F20 F21
open dirs hiding shR shRl shRR flR lpR cutR f0 f1 f2 f3
open may hiding r1 r2 r3 r4 r5
set_option linter.unusedVariables false
set_option linter.unusedSimpArgs false
set_option maxRecDepth 1000000

def ENm (k:Nat):PtrE:={ k:=k,elem:=81,cells:=2,ins:=[],outs:=[none],kinds:=[.num,.row,.num] }
def ESt (k:Nat):PtrE:={ k:=k,elem:=81,cells:=2,ins:=[none],outs:=[some 3],kinds:=[.row,.row,.num,.row,.num] }
def tabN1 (f:FuncId):Option PtrE:=cond (Nat.beq f 47) (some (ENum 20)) none
noncomputable def flNm:=flat (Zar Tryz.prog 48)
def shNm:Shape:=⟨[(0,.ptr 0 0 0 0)],[pbox],[some true,none],8,48⟩
def shNmR:Shape:=⟨[(2,.leaf)],[pbox],[none,some true,none],8,48⟩
def tabS (f:FuncId):Option FnE:=cond (Nat.beq f 10) (some (EOpen 31)) (cond (Nat.beq f 51) (some (EOpen 32)) (cond (Nat.beq f 49) (some (Zqr 33)) (cond (Nat.beq f 52) (some (EBoot 34)) (cond (Nat.beq f 45) (some (ENew 35)) none))))
def tabSP (f:FuncId):Option PtrE:=cond (Nat.beq f 47) (some (ENum 20)) (cond (Nat.beq f 50) (some (EWs 22)) (cond (Nat.beq f 48) (some (ENm 23)) none))
def orcS:Orc:=orcOr (orcFn tabS) (orcP tabSP)
noncomputable def flT:=flat (Zar Tryz.prog 16)
noncomputable def lpT:=flat (Zak (nth flT 3))
noncomputable def bdT:=flat (blockBody (nth lpT 2))
def shT:Shape:=⟨[(0,.ptr 0 0 0 0),(1,.leaf)],[pbox],[none,some true,none],82,16⟩
def shTl:Shape:=⟨[(0,.ptr 0 0 0 0),(1,.leaf),(4,.ptr 1 0 0 0),(5,.ptr 2 0 0 0),(6,.leaf)],[pbox,zbox,sbox true],[none,none,some true,none,none,some true,some true,none],82,16⟩
def shTc:Shape:=⟨[(0,.ptr 0 0 0 0),(1,.leaf),(4,.ptr 1 0 0 0),(5,.ptr 2 0 0 0),(6,.leaf),(7,.leaf),(8,.leaf),(34,.leaf)],[pbox,zbox,sbox true],[none,none,none,none,none,some true,none,none,some true,some true,none],82,16⟩
def shTR:Shape:=⟨[(4,.ptr 1 0 0 0)],[pbox,sbox true],[some true,none,some true,some true,none],82,16⟩
@[simp] def Zbj:List SX:=[.var 8,.var 9,.var 10,.var 2,rop ROp.max2 [.var 3,.con (.int .i64 1)],.bin .add (.con (.int .i64 1)) (.fn 20 [.con (.int .i64 7),.var 5,.var 6] 0),.fn 22 [.con (.int .i64 5),.fn 20 [.con (.int .i64 7),.var 5,.var 6] 1,.fn 20 [.con (.int .i64 7),.var 5,.var 6] 2] 0]
@[simp] def Zba:List SX:=[.var 8,.var 9,.var 10,.var 2,rop ROp.max2 [.var 3,.con (.int .i64 1)],.fn 23 [.var 5,.var 6] 0]
@[simp] def Ziy:List SX:=[.con (.int .i64 3),.fn 20 [.con (.int .i64 3),.var 2,.var 3] 1,.fn 20 [.con (.int .i64 3),.var 2,.var 3] 2]
@[simp] def Zk7:List SX:=[.con (.int .i64 10),.var 0,.var 1]
@[simp] def Zd4:List SX:=[.var 8,.var 9,.var 10,.var 2,rop ROp.max2 [.var 3,.con (.int .i64 1)],.bin .add (.con (.int .i64 1)) (.fn 20 [.con (.int .i64 7),.var 5,.var 6] 0)]
@[simp] def Zf5:List SX:=[.con (.int .i64 5),.fn 20 [.con (.int .i64 7),.var 5,.var 6] 1,.fn 20 [.con (.int .i64 7),.var 5,.var 6] 2]
@[simp] def Zos:SX:=.bin .add (.con (.int .i64 1)) (.fn 20 [.con (.int .i64 3),.var 2,.var 3] 0)
@[simp] def Zcf:List SX:=[.con (.int .i64 9),.var 2,.var 3]
@[simp] def Zf4:List SX:=[.con (.int .i64 6),.fn 20 Ziy 1,.fn 20 Ziy 2]
@[simp] def Zbw:List SX:=[.con (.int .i64 7),.var 5,.var 6]
@[simp] def Zeq:SX:=.bin .eql (.var 4) (.con (.int .i64 0))
@[simp] def Za3:Fact:=.ok (.fn 20 Zk7 2)
@[simp] def Zqv:List SX:=[.var 0,.var 1,.fn 23 [.var 5,.var 6] 1,.fn 23 [.var 5,.var 6] 2,.var 7,.fn 31 Zba 0,.fn 31 Zba 1,.fn 31 Zba 2]
@[simp] def Zc7:SX:=.bin .eql (.var 4) (.con (.int .i64 1))
@[simp] def Zep:SX:=.bin .eql (.var 4) (.con (.int .i64 2))
@[simp] def zGreatStc16:SX:=.con (.string { data:={ toList:=[UInt8.ofNat 110,UInt8.ofNat 105,UInt8.ofNat 110,UInt8.ofNat 101,UInt8.ofNat 99,UInt8.ofNat 104,UInt8.ofNat 97,UInt8.ofNat 114,UInt8.ofNat 115] } })
@[simp] def Zjt:SX:=.bin .sub Zos (.con (.int .i64 1))
@[simp] def Zg6:Fact:=.ok (rop ROp.max2 [.var 3,.con (.int .i64 1)])
@[simp] def Za2:SX:=.fn 20 Zk7 0
@[simp] def zGreatStc20:SX:=.con (.string { data:={ toList:=[UInt8.ofNat 115,UInt8.ofNat 101,UInt8.ofNat 118,UInt8.ofNat 101,UInt8.ofNat 110,UInt8.ofNat 55,UInt8.ofNat 55] } })
@[simp] def Zc6:Fact:=.fp 47 (ENum 20) Zk7
@[simp] def Zg5:SX:=.bin .eql (.var 4) (.con (.int .i64 3))
@[simp] def Zl3:SX:=.bin .eql (.fn 20 Zcf 0) (.con (.int .i64 0))
@[simp] def zGreatStc24:List SX:=[.var 0,.var 1,.fn 22 Zf5 1,.fn 22 Zf5 2,.var 7,.fn 33 Zbj 0,.fn 33 Zbj 1,.fn 33 Zbj 2]
@[simp] def zGreatStc25:SX:=.con (.string { data:={ toList:=[UInt8.ofNat 110,UInt8.ofNat 111,UInt8.ofNat 116,UInt8.ofNat 101,UInt8.ofNat 115] } })
@[simp] def Zqu:List SX:=[.var 0,.var 1,.var 2,.var 3,.var 4,.var 5,.var 6,.var 7]
@[simp] def Zqt:SX:=.bin .add (.cell (.var 6) Zjt 4 0) (.fn 20 Ziy 0)
@[simp] def Zg4:Fact:=.ok (.fn 23 [.var 5,.var 6] 2)
@[simp] def Zqs:Fact:=.ok (.bin .add (.con (.int .i64 1)) (.fn 20 Zbw 0))
@[simp] def Zl2:SX:=.bin .eql (.var 4) (.con (.int .i64 4))
@[simp] def zGreatStc31:SX:=.con (.string { data:={ toList:=[UInt8.ofNat 108,UInt8.ofNat 111,UInt8.ofNat 103] } })
@[simp] def zGreatStc32:SX:=.con (.string { data:={ toList:=[UInt8.ofNat 120,UInt8.ofNat 47,UInt8.ofNat 121] } })
@[simp] def Zg3:SX:=.bin .lss (.var 1) (.var 0)
@[simp] def zGreatStc34:SX:=.con (.string { data:={ toList:=[UInt8.ofNat 97,UInt8.ofNat 32,UInt8.ofNat 98] } })
@[simp] def Zc5:SX:=.fn 20 Zk7 1
@[simp] def Zc4:SX:=.fn 20 Zk7 2
@[simp] def Zjs:Fact:=.is Zeq (.bool false)
@[simp] def Zg2:Fact:=.ok (.fn 31 Zba 2)
@[simp] def Zl1:SX:=.bin .geq (.var 3) (.len (.var 2))
@[simp] def Zg1:List SX:=[.var 5,.var 6,.var 7]
theorem nm0:segTo Tryz.prog (orcP tabN1) 10000 flNm shNm [0] shNmR [(0,0)]=some (.ret,[Zc6,.ok Za2,Za3,Fact.at Za2 0,.ok (.con (.string { data:={ toList:=[UInt8.ofNat 97] } })),Za3],[.con (.string { data:={ toList:=[UInt8.ofNat 97] } }),Zc5,Zc4]):=by kernel_rfl
theorem nm1:segTo Tryz.prog (orcP tabN1) 10000 flNm shNm [1] shNmR [(0,0)]=some (.ret,[Zc6,.ok Za2,Za3,Fact.at Za2 1,.ok (.con (.string { data:={ toList:=[UInt8.ofNat 98] } })),Za3],[.con (.string { data:={ toList:=[UInt8.ofNat 98] } }),Zc5,Zc4]):=by kernel_rfl
theorem nm2:segTo Tryz.prog (orcP tabN1) 10000 flNm shNm [2] shNmR [(0,0)]=some (.ret,[Zc6,.ok Za2,Za3,Fact.at Za2 2,.ok (.con (.string { data:={ toList:=[UInt8.ofNat 99] } })),Za3],[.con (.string { data:={ toList:=[UInt8.ofNat 99] } }),Zc5,Zc4]):=by kernel_rfl
theorem nm3:segTo Tryz.prog (orcP tabN1) 10000 flNm shNm [3] shNmR [(0,0)]=some (.ret,[Zc6,.ok Za2,Za3,Fact.at Za2 3,.ok zGreatStc25,Za3],[zGreatStc25,Zc5,Zc4]):=by kernel_rfl
theorem nm4:segTo Tryz.prog (orcP tabN1) 10000 flNm shNm [4] shNmR [(0,0)]=some (.ret,[Zc6,.ok Za2,Za3,Fact.at Za2 4,.ok zGreatStc31,Za3],[zGreatStc31,Zc5,Zc4]):=by kernel_rfl
theorem nm5:segTo Tryz.prog (orcP tabN1) 10000 flNm shNm [5] shNmR [(0,0)]=some (.ret,[Zc6,.ok Za2,Za3,Fact.at Za2 5,.ok zGreatStc32,Za3],[zGreatStc32,Zc5,Zc4]):=by kernel_rfl
theorem nm6:segTo Tryz.prog (orcP tabN1) 10000 flNm shNm [6] shNmR [(0,0)]=some (.ret,[Zc6,.ok Za2,Za3,Fact.at Za2 6,.ok zGreatStc20,Za3],[zGreatStc20,Zc5,Zc4]):=by kernel_rfl
theorem nm7:segTo Tryz.prog (orcP tabN1) 10000 flNm shNm [7] shNmR [(0,0)]=some (.ret,[Zc6,.ok Za2,Za3,Fact.at Za2 7,.ok (.con (.string { data:={ toList:=[] } })),Za3],[.con (.string { data:={ toList:=[] } }),Zc5,Zc4]):=by kernel_rfl
theorem nm8:segTo Tryz.prog (orcP tabN1) 10000 flNm shNm [8] shNmR [(0,0)]=some (.ret,[Zc6,.ok Za2,Za3,Fact.at Za2 8,.ok zGreatStc34,Za3],[zGreatStc34,Zc5,Zc4]):=by kernel_rfl
theorem nm9:segTo Tryz.prog (orcP tabN1) 10000 flNm shNm [9] shNmR [(0,0)]=some (.ret,[Zc6,.ok Za2,Za3,Fact.at Za2 9,.ok zGreatStc16,Za3],[zGreatStc16,Zc5,Zc4]):=by kernel_rfl
theorem preT:segTo Tryz.prog orcS 10000 (flT.take 3) shT [] shTl [(0,0),(2,0),(5,0)]=some (.normal,[.fn 45 (ENew 35) [],.ok (.fn 35 [] 2),.ok (.var 0),.ok (.con (.int .i64 0)),.ok (.var 2),.ok (.con (.int .i64 0)),.ok (.fn 35 [] 2)],[.var 0,.con (.int .i64 0),.var 1,.var 2,.con (.int .i64 0),.fn 35 [] 0,.fn 35 [] 1,.fn 35 [] 2]):=by kernel_rfl
theorem hdT:segTo Tryz.prog orcS 10000 (lpT.take 2) shTl [1,0] shTl [(0,0),(1,0),(2,0)]=some (.normal,[.ok Zg3,.is Zg3 (.bool true),.ok (.len (.var 2)),.ok Zl1,.is Zl1 (.bool false),.ok (.var 0),.ok (.var 1),.ok (.var 3),.ok (.var 4),.ok (.var 7)],Zqu):=by kernel_rfl
theorem ex0:segTo Tryz.prog orcS 10000 lpT shTl [0] shTl [(0,0),(1,0),(2,0)]=some (.exit 0,[.ok Zg3,.is Zg3 (.bool false),.ok (.var 0),.ok (.var 1),.ok (.var 3),.ok (.var 4),.ok (.var 7)],Zqu):=by kernel_rfl
theorem ex1:segTo Tryz.prog orcS 10000 lpT shTl [1,1] shTl [(0,0),(1,0),(2,0)]=some (.exit 0,[.ok Zg3,.is Zg3 (.bool true),.ok (.len (.var 2)),.ok Zl1,.is Zl1 (.bool true),.ok (.var 0),.ok (.var 1),.ok (.var 3),.ok (.var 4),.ok (.var 7)],Zqu):=by kernel_rfl
theorem pc:segTo Tryz.prog orcS 10000 (bdT.take 3) shTl [] shTc [(0,0),(1,0),(2,0)]=some (.normal,[.fp 47 (ENum 20) [.con (.int .i64 3),.var 2,.var 3],.ok (.fn 20 [.con (.int .i64 3),.var 2,.var 3] 0),.ok (.fn 20 [.con (.int .i64 3),.var 2,.var 3] 2),.ok Zos,.ok Zjt,.idx (.var 6) Zjt 4 4,.idx (.var 6) Zjt 4 1,.ok (.cell (.var 6) Zjt 4 0),.fp 47 (ENum 20) Ziy,.ok (.fn 20 Ziy 0),.ok (.fn 20 Ziy 2),.ok Zqt,.fp 47 (ENum 20) Zf4,.ok (.fn 20 Zf4 0),.ok (.fn 20 Zf4 2),.ok (.var 0),.ok (.var 1),.ok Zos,.ok Zqt,.ok (.fn 20 Zf4 0),.ok (.fn 20 Zf4 2),.ok (.var 4),.ok (.var 7)],[.var 0,.var 1,Zos,Zqt,.fn 20 Zf4 0,.fn 20 Zf4 1,.fn 20 Zf4 2,.var 4,.var 5,.var 6,.var 7]):=by kernel_rfl
theorem c0:segTo Tryz.prog orcS 10000 ((bdT.drop 3).take 1) shTc [1] shTl [(0,0),(1,0),(2,0)]=some (.normal,[.ok Zeq,.is Zeq (.bool true),Zg6,.fp 48 (ENm 23) [.var 5,.var 6],.ok (.fn 23 [.var 5,.var 6] 0),Zg4,.fn 10 (EOpen 31) Zba,Zg2,.ok (.fn 31 Zba 3),.ok (.fn 31 Zba 4),.ok (.fn 31 Zba 5),.ok (.fn 31 Zba 6),.ok (.var 0),.ok (.var 1),Zg4,.ok (.var 7),Zg2],Zqv):=by kernel_rfl
theorem c1:segTo Tryz.prog orcS 10000 ((bdT.drop 3).take 1) shTc [0,1] shTl [(0,0),(1,0),(2,0)]=some (.normal,[.ok Zeq,Zjs,.ok Zc7,.is Zc7 (.bool true),Zg6,.fp 48 (ENm 23) [.var 5,.var 6],.ok (.fn 23 [.var 5,.var 6] 0),Zg4,.fn 10 (EOpen 31) Zba,Zg2,.ok (.fn 31 Zba 3),.ok (.fn 31 Zba 4),.ok (.fn 31 Zba 5),.ok (.fn 31 Zba 6),.ok (.var 0),.ok (.var 1),Zg4,.ok (.var 7),Zg2],Zqv):=by kernel_rfl
theorem c2:segTo Tryz.prog orcS 10000 ((bdT.drop 3).take 1) shTc [0,0,1] shTl [(0,0),(1,0),(2,0)]=some (.normal,[.ok Zeq,Zjs,.ok Zc7,.is Zc7 (.bool false),.ok Zep,.is Zep (.bool true),Zg6,.fp 48 (ENm 23) [.var 5,.var 6],.ok (.fn 23 [.var 5,.var 6] 0),Zg4,.fn 10 (EOpen 31) Zba,Zg2,.ok (.fn 31 Zba 3),.ok (.fn 31 Zba 4),.ok (.fn 31 Zba 5),.ok (.fn 31 Zba 6),.ok (.var 0),.ok (.var 1),Zg4,.ok (.var 7),Zg2],Zqv):=by kernel_rfl
theorem c3:segTo Tryz.prog orcS 10000 ((bdT.drop 3).take 1) shTc [0,0,0,1] shTl [(0,0),(1,0),(2,0)]=some (.normal,[.ok Zeq,Zjs,.ok Zc7,.is Zc7 (.bool false),.ok Zep,.is Zep (.bool false),.ok Zg5,.is Zg5 (.bool true),Zg6,.fp 47 (ENum 20) Zbw,.ok (.fn 20 Zbw 0),.ok (.fn 20 Zbw 2),Zqs,.fp 50 (EWs 22) Zf5,.ok (.fn 22 Zf5 2),.fn 49 (Zqr 33) Zbj,.ok (.fn 33 Zbj 2),.ok (.fn 33 Zbj 3),.ok (.fn 33 Zbj 4),.ok (.fn 33 Zbj 5),.ok (.fn 33 Zbj 6),.ok (.var 0),.ok (.var 1),.ok (.fn 22 Zf5 2),.ok (.var 7),.ok (.fn 33 Zbj 2)],zGreatStc24):=by kernel_rfl
theorem c4:segTo Tryz.prog orcS 10000 ((bdT.drop 3).take 1) shTc [0,0,0,0,1] shTl [(0,0),(1,0),(2,0)]=some (.normal,[.ok Zeq,Zjs,.ok Zc7,.is Zc7 (.bool false),.ok Zep,.is Zep (.bool false),.ok Zg5,.is Zg5 (.bool false),.ok Zl2,.is Zl2 (.bool true),Zg6,.fp 47 (ENum 20) Zbw,.ok (.fn 20 Zbw 0),.ok (.fn 20 Zbw 2),Zqs,.fp 50 (EWs 22) Zf5,.ok (.fn 22 Zf5 2),.fn 49 (Zqr 33) Zbj,.ok (.fn 33 Zbj 2),.ok (.fn 33 Zbj 3),.ok (.fn 33 Zbj 4),.ok (.fn 33 Zbj 5),.ok (.fn 33 Zbj 6),.ok (.var 0),.ok (.var 1),.ok (.fn 22 Zf5 2),.ok (.var 7),.ok (.fn 33 Zbj 2)],zGreatStc24):=by kernel_rfl
theorem c5:segTo Tryz.prog orcS 10000 ((bdT.drop 3).take 1) shTc [0,0,0,0,0] shTl [(0,0),(1,0),(2,0)]=some (.normal,[.ok Zeq,Zjs,.ok Zc7,.is Zc7 (.bool false),.ok Zep,.is Zep (.bool false),.ok Zg5,.is Zg5 (.bool false),.ok Zl2,.is Zl2 (.bool false),Zg6,.fp 47 (ENum 20) Zbw,.ok (.fn 20 Zbw 0),.ok (.fn 20 Zbw 2),Zqs,.fn 51 (EOpen 32) Zd4,.ok (.fn 32 Zd4 2),.ok (.fn 32 Zd4 3),.ok (.fn 32 Zd4 4),.ok (.fn 32 Zd4 5),.ok (.fn 32 Zd4 6),.ok (.var 0),.ok (.var 1),.ok (.fn 20 Zbw 2),.ok (.var 7),.ok (.fn 32 Zd4 2)],[.var 0,.var 1,.fn 20 Zbw 1,.fn 20 Zbw 2,.var 7,.fn 32 Zd4 0,.fn 32 Zd4 1,.fn 32 Zd4 2]):=by kernel_rfl
theorem bt0:segTo Tryz.prog orcS 10000 (bdT.drop 4) shTl [0] shTl [(0,0),(1,0),(2,0)]=some (.normal,[.fp 47 (ENum 20) Zcf,.ok (.fn 20 Zcf 0),.ok (.fn 20 Zcf 2),.ok Zl3,.is Zl3 (.bool false),.ok (.var 0),.ok (.var 1),.ok (.fn 20 Zcf 2),.ok (.var 4),.ok (.var 7)],[.var 0,.var 1,.fn 20 Zcf 1,.fn 20 Zcf 2,.var 4,.var 5,.var 6,.var 7]):=by kernel_rfl
theorem bt1:segTo Tryz.prog orcS 10000 (bdT.drop 4) shTl [1] shTl [(0,0),(1,0),(2,0)]=some (.normal,[.fp 47 (ENum 20) Zcf,.ok (.fn 20 Zcf 0),.ok (.fn 20 Zcf 2),.ok Zl3,.is Zl3 (.bool true),.fn 52 (EBoot 34) Zg1,.ok (.fn 34 Zg1 2),.ok (.var 0),.ok (.var 1),.ok (.fn 20 Zcf 2),.ok (.var 4),.ok (.fn 34 Zg1 2)],[.var 0,.var 1,.fn 20 Zcf 1,.fn 20 Zcf 2,.var 4,.fn 34 Zg1 0,.fn 34 Zg1 1,.fn 34 Zg1 2]):=by kernel_rfl
theorem stpT:segTo Tryz.prog orcS 10000 (lpT.drop 3) shTl [] shTl [(0,0),(1,0),(2,0)]=some (.normal,[.ok (.bin .add (.var 1) (.con (.int .i64 1))),.ok (.var 0),.ok (.bin .add (.var 1) (.con (.int .i64 1))),.ok (.var 3),.ok (.var 4),.ok (.var 7)],[.var 0,.bin .add (.var 1) (.con (.int .i64 1)),.var 2,.var 3,.var 4,.var 5,.var 6,.var 7]):=by kernel_rfl
theorem postT:segTo Tryz.prog orcS 10000 (flT.drop 4) shTl [] shTR [(0,0),(1,0)]=some (.ret,[.ok (.var 3),.ok (.var 7)],[.var 2,.var 3,.var 5,.var 6,.var 7]):=by kernel_rfl

def nmt:Nat->ByteArray
 | 0=>⟨⟨[UInt8.ofNat 97]⟩⟩
 | 1=>⟨⟨[UInt8.ofNat 98]⟩⟩
 | 2=>⟨⟨[UInt8.ofNat 99]⟩⟩
 | 3=>⟨⟨[UInt8.ofNat 110,UInt8.ofNat 111,UInt8.ofNat 116,UInt8.ofNat 101,UInt8.ofNat 115]⟩⟩
 | 4=>⟨⟨[UInt8.ofNat 108,UInt8.ofNat 111,UInt8.ofNat 103]⟩⟩
 | 5=>⟨⟨[UInt8.ofNat 120,UInt8.ofNat 47,UInt8.ofNat 121]⟩⟩
 | 6=>⟨⟨[UInt8.ofNat 115,UInt8.ofNat 101,UInt8.ofNat 118,UInt8.ofNat 101,UInt8.ofNat 110,UInt8.ofNat 55,UInt8.ofNat 55]⟩⟩
 | 7=>⟨⟨[]⟩⟩
 | 8=>⟨⟨[UInt8.ofNat 97,UInt8.ofNat 32,UInt8.ofNat 98]⟩⟩
 | 9=>⟨⟨[UInt8.ofNat 110,UInt8.ofNat 105,UInt8.ofNat 110,UInt8.ofNat 101,UInt8.ofNat 99,UInt8.ofNat 104,UInt8.ofNat 97,UInt8.ofNat 114,UInt8.ofNat 115]⟩⟩
 | _=>⟨⟨[]⟩⟩
theorem nmt_size:∀ j,(nmt j).size<=9
 | 0=>by decide
 | 1=>by decide
 | 2=>by decide
 | 3=>by decide
 | 4=>by decide
 | 5=>by decide
 | 6=>by decide
 | 7=>by decide
 | 8=>by decide
 | 9=>by decide
 | _+10=>by show (⟨⟨[]⟩⟩:ByteArray).size<=9;decide
@[simp] theorem kNm (k:Nat):(ENm k).k=k:=rfl
@[simp] theorem kSt (k:Nat):(ESt k).k=k:=rfl
def RNm (ps qs:List PV):Prop:=∃ (n:Nat) (l:List Nat),OkP l n/\ps=[pRow encU l,pI (n:Int)]/\qs=[pS (nmt (numV l n 10)),pRow encU l,pI (numN l n:Int)]
theorem fNm:∀ ps q1 q2,RNm ps q1->RNm ps q2->q1=q2:=by
 rintro ps q1 q2 ⟨n,l,_,rfl,rfl⟩ ⟨n',l',_,h,rfl⟩
 simp only [List.cons.injEq,PV.v.injEq,Value.int.injEq,true_and,and_true,Int.ofNat_inj] at h
 obtain ⟨h,rfl⟩:=h
 rw [fil.pRow_inj Zqc h]
noncomputable def FS:Fns:=fun k=>match k with | 20=>spec RNum | 22=>spec RWs | 23=>spec RNm | 31=>spec ROpen | 32=>spec RGone | 33=>spec Zxk | 34=>spec RBoot | 35=>spec RNew | _=>fun _=>none
theorem s20:ToldP 47 (ENum 20) (FS 20):=toldNum 20
theorem FS20 {m n:Nat} {l:List Nat} (h1:1<=m) (h2:m<=1000) (ok:OkP l n):FS 20 [pI (m:Int),pRow encU l,pI (n:Int)]=some [pI (numV l n m:Int),pRow encU l,pI (numN l n:Int)]:=Zal fNum ⟨m,n,l,h1,h2,ok.n,ok.len,ok.u8,rfl,rfl⟩
set_option maxHeartbeats 1000000 in
theorem toldNm (k:Nat):ToldP 48 (ENm k) (spec RNm):=by
 refine Zrr FS _ (Zar Tryz.prog 48) Tryz.func48 (by kernel_rfl) shNm (by kernel_rfl) ?_ ?_
 ·intro ps qs h
  obtain ⟨n,l,_,rfl,rfl⟩:=Zaj h
  exact Zbd rfl
 ·intro C ps qs hF h a w hsh
  obtain ⟨n,l,ok,rfl,rfl⟩:=Zaj h
  show wpL Tryz.prog flNm _ a w
  rw [<- List.append_nil flNm]
  have e1:FS 20 [pI 10,pRow encU l,pI (n:Int)]=some [pI (numV l n 10:Int),pRow encU l,pI (numN l n:Int)]:=FS20 (m:=10) (by omega) (by omega) ok
  have hlt:numV l n 10 < 10:=Zh9 (by omega)
  generalize numV l n 10=j at *
  match j,hlt with
  | 0,_ =>
   refine Zag Zad Zac (Zh7 _) nm0 hsh ?_ ?_
   ·simp [-Zae,Zab,Zaa,Base.ev,SX.ev,evs,Value.oneCell',hF,e1,s20]
   ·intro qs a1 w1' hq h1'
    refine ⟨nofun,fun _=>⟨.inr rfl,shNmR,qs,[SX.var 0,SX.var 1,SX.var 2],h1',by kernel_rfl,?_⟩⟩
    simp [evs,SX.ev,hF,e1] at hq ⊢
    subst hq
    simp [nmt]
  | 1,_ =>
   refine Zag Zad Zac (Zh7 _) nm1 hsh ?_ ?_
   ·simp [-Zae,Zab,Zaa,Base.ev,SX.ev,evs,Value.oneCell',hF,e1,s20]
   ·intro qs a1 w1' hq h1'
    refine ⟨nofun,fun _=>⟨.inr rfl,shNmR,qs,[SX.var 0,SX.var 1,SX.var 2],h1',by kernel_rfl,?_⟩⟩
    simp [evs,SX.ev,hF,e1] at hq ⊢
    subst hq
    simp [nmt]
  | 2,_ =>
   refine Zag Zad Zac (Zh7 _) nm2 hsh ?_ ?_
   ·simp [-Zae,Zab,Zaa,Base.ev,SX.ev,evs,Value.oneCell',hF,e1,s20]
   ·intro qs a1 w1' hq h1'
    refine ⟨nofun,fun _=>⟨.inr rfl,shNmR,qs,[SX.var 0,SX.var 1,SX.var 2],h1',by kernel_rfl,?_⟩⟩
    simp [evs,SX.ev,hF,e1] at hq ⊢
    subst hq
    simp [nmt]
  | 3,_ =>
   refine Zag Zad Zac (Zh7 _) nm3 hsh ?_ ?_
   ·simp [-Zae,Zab,Zaa,Base.ev,SX.ev,evs,Value.oneCell',hF,e1,s20]
   ·intro qs a1 w1' hq h1'
    refine ⟨nofun,fun _=>⟨.inr rfl,shNmR,qs,[SX.var 0,SX.var 1,SX.var 2],h1',by kernel_rfl,?_⟩⟩
    simp [evs,SX.ev,hF,e1] at hq ⊢
    subst hq
    simp [nmt]
  | 4,_ =>
   refine Zag Zad Zac (Zh7 _) nm4 hsh ?_ ?_
   ·simp [-Zae,Zab,Zaa,Base.ev,SX.ev,evs,Value.oneCell',hF,e1,s20]
   ·intro qs a1 w1' hq h1'
    refine ⟨nofun,fun _=>⟨.inr rfl,shNmR,qs,[SX.var 0,SX.var 1,SX.var 2],h1',by kernel_rfl,?_⟩⟩
    simp [evs,SX.ev,hF,e1] at hq ⊢
    subst hq
    simp [nmt]
  | 5,_ =>
   refine Zag Zad Zac (Zh7 _) nm5 hsh ?_ ?_
   ·simp [-Zae,Zab,Zaa,Base.ev,SX.ev,evs,Value.oneCell',hF,e1,s20]
   ·intro qs a1 w1' hq h1'
    refine ⟨nofun,fun _=>⟨.inr rfl,shNmR,qs,[SX.var 0,SX.var 1,SX.var 2],h1',by kernel_rfl,?_⟩⟩
    simp [evs,SX.ev,hF,e1] at hq ⊢
    subst hq
    simp [nmt]
  | 6,_ =>
   refine Zag Zad Zac (Zh7 _) nm6 hsh ?_ ?_
   ·simp [-Zae,Zab,Zaa,Base.ev,SX.ev,evs,Value.oneCell',hF,e1,s20]
   ·intro qs a1 w1' hq h1'
    refine ⟨nofun,fun _=>⟨.inr rfl,shNmR,qs,[SX.var 0,SX.var 1,SX.var 2],h1',by kernel_rfl,?_⟩⟩
    simp [evs,SX.ev,hF,e1] at hq ⊢
    subst hq
    simp [nmt]
  | 7,_ =>
   refine Zag Zad Zac (Zh7 _) nm7 hsh ?_ ?_
   ·simp [-Zae,Zab,Zaa,Base.ev,SX.ev,evs,Value.oneCell',hF,e1,s20]
   ·intro qs a1 w1' hq h1'
    refine ⟨nofun,fun _=>⟨.inr rfl,shNmR,qs,[SX.var 0,SX.var 1,SX.var 2],h1',by kernel_rfl,?_⟩⟩
    simp [evs,SX.ev,hF,e1] at hq ⊢
    subst hq
    simp [nmt]
  | 8,_ =>
   refine Zag Zad Zac (Zh7 _) nm8 hsh ?_ ?_
   ·simp [-Zae,Zab,Zaa,Base.ev,SX.ev,evs,Value.oneCell',hF,e1,s20]
   ·intro qs a1 w1' hq h1'
    refine ⟨nofun,fun _=>⟨.inr rfl,shNmR,qs,[SX.var 0,SX.var 1,SX.var 2],h1',by kernel_rfl,?_⟩⟩
    simp [evs,SX.ev,hF,e1] at hq ⊢
    subst hq
    simp [nmt]
  | 9,_ =>
   refine Zag Zad Zac (Zh7 _) nm9 hsh ?_ ?_
   ·simp [-Zae,Zab,Zaa,Base.ev,SX.ev,evs,Value.oneCell',hF,e1,s20]
   ·intro qs a1 w1' hq h1'
    refine ⟨nofun,fun _=>⟨.inr rfl,shNmR,qs,[SX.var 0,SX.var 1,SX.var 2],h1',by kernel_rfl,?_⟩⟩
    simp [evs,SX.ev,hF,e1] at hq ⊢
    subst hq
    simp [nmt]
  | j+10,h=>omega

def Zlr (l:List Nat) (s:StM) (n:Nat):StM × Nat :=
 let n1:=numN l n
 let n2:=numN l n1
 let n3:=numN l n2
 let n4:=numN l n3
 let c:Int:=1+(numV l n 3:Int)
 let seq:Int:=max ((s.marks.getD (numV l n 3) (0,0,0,0)).1+(numV l n1 3:Int)) 1
 let r:StM × Nat:=if numV l n2 6<=2 then ((openS s c seq (nmt (numV l n3 10))).1,n4)
  else if numV l n2 6<=4 then ((Zdp s c seq (1+(numV l n3 7:Int)) (Zgr l n4 5).1).1,(Zgr l n4 5).2)
  else ((goneS s c seq (1+(numV l n3 7:Int))).1,n4)
 (if numV l r.2 9=0 then bootS r.1 else r.1,numN l r.2)
def stRun (l:List Nat):Nat->StM->Nat->StM × Nat
 | 0,s,n=>(s,n)
 | k+1,s,n=>if l.length<=n then (s,n) else stRun l k (Zlr l s n).1 (Zlr l s n).2
structure TsOk (s:StM) (b:Int):Prop where
 fl:s.files.length=6
 ml:s.marks.length=3
 fv:∀ f ∈ s.files,0<=f.2.1/\f.2.1<=1073741824/\f.2.2.size<=24
 mv:∀ m ∈ s.marks,0<=m.1/\m.1<=b
 ep:0<=s.epoch/\s.epoch<=1073741824
theorem TsOk.st {s:StM} {b:Int} (h:TsOk s b):StOk s:=⟨by rw [h.fl];omega,by rw [h.ml];omega,fun f hf=>by have:=h.fv f hf;omega,by have:=h.ep;omega⟩
theorem Zgs {s:StM} {b b':Int} (h:TsOk s b) (hb:b<=b') (c:Int) {m:MarkM} (h0:0<=m.1) (h1:m.1<=b') (at':Int) {f:FileM} (hf:0<=f.2.1/\f.2.1<=1073741824/\f.2.2.size<=24):TsOk (Za9 s c m at' f) b':=by
 refine ⟨?_,?_,fun g hg=>?_,fun g hg=>?_,h.ep⟩
 ·simp only [Za9]
  split
  ·rw [List.length_set];exact h.fl
  ·exact h.fl
 ·simp only [Za9,putMk]
  split
  ·rw [List.length_set];exact h.ml
  ·exact h.ml
 ·simp only [Za9] at hg
  split at hg
  ·rcases List.mem_or_eq_of_mem_set hg with hg | rfl
   ·exact h.fv g hg
   ·exact hf
  ·exact h.fv g hg
 ·simp only [Za9,putMk] at hg
  have old:g ∈ s.marks->0<=g.1/\g.1<=b':=fun hg=>by have:=h.mv g hg;omega
  split at hg
  ·rcases List.mem_or_eq_of_mem_set hg with hg | rfl
   ·exact old hg
   ·exact ⟨h0,h1⟩
  ·exact old hg
theorem Zth:0<=f00.2.1/\f00.2.1<=1073741824/\f00.2.2.size<=24:=by decide
theorem ts_open {s:StM} {b b':Int} (h:TsOk s b) (hb:b<=b') (c seq:Int) (name:ByteArray) (h0:0<=seq) (h1:seq<=b'):TsOk (openS s c seq name).1 b':=by
 unfold openS
 split
 ·split
  ·exact Zgs h hb c h0 h1 _ Zth
  ·split
   ·exact Zgs h hb c h0 h1 _ (by simp only [e0];decide)
   ·exact Zgs h hb c h0 h1 _ Zth
 ·exact Zgs h hb c h0 h1 _ Zth
theorem ts_gone {s:StM} {b b':Int} (h:TsOk s b) (hb:b<=b') (c seq file:Int) (h0:0<=seq) (h1:seq<=b'):TsOk (goneS s c seq file).1 b':=by
 unfold goneS
 split
 ·exact Zgs h hb c h0 h1 _ Zth
 ·exact Zgs h hb c h0 h1 _ Zth
theorem ts_flush {s:StM} {b b':Int} (h:TsOk s b) (hb:b<=b') (c seq file:Int) (l:List (Int × ByteArray)) (h0:0<=seq) (h1:seq<=b'):TsOk (Zdp s c seq file l).1 b':=by
 unfold Zdp
 split
 ·rename_i hF
  split
  ·refine Zgs h hb c h0 h1 _ ?_
   have hfi:s.files.getD (file.toNat - 1) f00 ∈ s.files:=by
    simp only [isF,Bool.and_eq_true,decide_eq_true_eq] at hF
    have hlt:file.toNat - 1 < s.files.length:=by omega
    simp only [List.getD,List.getElem?_eq_getElem hlt,Option.getD_some]
    exact List.getElem_mem hlt
   have hv:=h.fv _ hfi
   generalize s.files.getD (file.toNat - 1) f00=f at *
   have hbl:(bs (allW f.2.2.data.toList l)).size<=24:=by
    rw [Zw1]
    have:=Ztv l f.2.2.data.toList
    have h2:f.2.2.data.toList.length=f.2.2.size:=by simp
    omega
   simp only [Zej]
   exact ⟨by omega,by omega,hbl⟩
  ·exact Zgs h hb c h0 h1 _ Zth
 ·exact Zgs h hb c h0 h1 _ Zth
theorem ts_boot {s:StM} {b:Int} (h:TsOk s b):TsOk (bootS s) b:=⟨h.fl,h.ml,h.fv,h.mv,by have:=h.ep;simp only [bootS];omega⟩
theorem ts_new:TsOk newS 0:=by
 refine ⟨rfl,rfl,fun f hf=>?_,fun m hm=>?_,by decide⟩
 ·rw [List.eq_of_mem_replicate hf];exact Zth
 ·rw [List.eq_of_mem_replicate hm];decide
end Go.Proofs.YtefkakjegdjojaaGreat.sta
