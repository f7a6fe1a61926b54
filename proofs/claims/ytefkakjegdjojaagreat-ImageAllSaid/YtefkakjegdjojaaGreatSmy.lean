/- Texts joined. -/
import Derived.Test.YtefkakjegdjojaaGreatStb
section
/- What lasts, behind some: made out of numbers. -/
namespace Go.Proofs.YtefkakjegdjojaaGreat.sta
open Go Go.RowKit eng SX Fact fil fileFronts dirs pck may
open fileFronts
open pck hiding F F20 F21
open dirs hiding shR shRl shRR flR lpR cutR f0 f1 f2 f3
open may hiding r1 r2 r3 r4 r5
set_option linter.unusedVariables false
set_option linter.unusedSimpArgs false
set_option maxRecDepth 1000000

def ENm (k:Nat):PtrE:={ k:=k,elem:=81,cells:=2,ins:=[],outs:=[none],kinds:=[.num,.row,.num] }
def ESt (k:Nat):PtrE:={ k:=k,elem:=81,cells:=2,ins:=[none],outs:=[some 3],kinds:=[.row,.row,.num,.row,.num] }
def tabN1 (f:FuncId):Option PtrE:=cond (Nat.beq f 47) (some (ENum 20)) none
noncomputable def flNm:=flat (Zaq Tryz.prog 48)
def shNm:Shape:=⟨[(0,.ptr 0 0 0 0)],[pbox],[some true,none],8,48⟩
def shNmR:Shape:=⟨[(2,.leaf)],[pbox],[none,some true,none],8,48⟩
def tabS (f:FuncId):Option FnE:=cond (Nat.beq f 10) (some (EOpen 31)) (cond (Nat.beq f 51) (some (EOpen 32)) (cond (Nat.beq f 49) (some (Zp4 33)) (cond (Nat.beq f 52) (some (EBoot 34)) (cond (Nat.beq f 45) (some (ENew 35)) none))))
def tabSP (f:FuncId):Option PtrE:=cond (Nat.beq f 47) (some (ENum 20)) (cond (Nat.beq f 50) (some (EWs 22)) (cond (Nat.beq f 48) (some (ENm 23)) none))
def orcS:Orc:=orcOr (orcFn tabS) (orcP tabSP)
noncomputable def flT:=flat (Zaq Tryz.prog 16)
noncomputable def lpT:=flat (Zaj (nth flT 3))
noncomputable def bdT:=flat (blockBody (nth lpT 2))
def shT:Shape:=⟨[(0,.ptr 0 0 0 0),(1,.leaf)],[pbox],[none,some true,none],82,16⟩
def shTl:Shape:=⟨[(0,.ptr 0 0 0 0),(1,.leaf),(4,.ptr 1 0 0 0),(5,.ptr 2 0 0 0),(6,.leaf)],[pbox,zbox,sbox true],[none,none,some true,none,none,some true,some true,none],82,16⟩
def shTc:Shape:=⟨[(0,.ptr 0 0 0 0),(1,.leaf),(4,.ptr 1 0 0 0),(5,.ptr 2 0 0 0),(6,.leaf),(7,.leaf),(8,.leaf),(34,.leaf)],[pbox,zbox,sbox true],[none,none,none,none,none,some true,none,none,some true,some true,none],82,16⟩
def shTR:Shape:=⟨[(4,.ptr 1 0 0 0)],[pbox,sbox true],[some true,none,some true,some true,none],82,16⟩
@[simp] def Zbi:List SX:=[.var 8,.var 9,.var 10,.var 2,rop ROp.max2 [.var 3,.con (.int .i64 1)],.bin .add (.con (.int .i64 1)) (.fn 20 [.con (.int .i64 7),.var 5,.var 6] 0),.fn 22 [.con (.int .i64 5),.fn 20 [.con (.int .i64 7),.var 5,.var 6] 1,.fn 20 [.con (.int .i64 7),.var 5,.var 6] 2] 0]
@[simp] def Zba:List SX:=[.var 8,.var 9,.var 10,.var 2,rop ROp.max2 [.var 3,.con (.int .i64 1)],.fn 23 [.var 5,.var 6] 0]
@[simp] def Ziq:List SX:=[.con (.int .i64 3),.fn 20 [.con (.int .i64 3),.var 2,.var 3] 1,.fn 20 [.con (.int .i64 3),.var 2,.var 3] 2]
@[simp] def Zku:List SX:=[.con (.int .i64 10),.var 0,.var 1]
@[simp] def Zdx:List SX:=[.var 8,.var 9,.var 10,.var 2,rop ROp.max2 [.var 3,.con (.int .i64 1)],.bin .add (.con (.int .i64 1)) (.fn 20 [.con (.int .i64 7),.var 5,.var 6] 0)]
@[simp] def Zf0:List SX:=[.con (.int .i64 5),.fn 20 [.con (.int .i64 7),.var 5,.var 6] 1,.fn 20 [.con (.int .i64 7),.var 5,.var 6] 2]
@[simp] def Zn8:SX:=.bin .add (.con (.int .i64 1)) (.fn 20 [.con (.int .i64 3),.var 2,.var 3] 0)
@[simp] def Zcb:List SX:=[.con (.int .i64 9),.var 2,.var 3]
@[simp] def Zfz:List SX:=[.con (.int .i64 6),.fn 20 Ziq 1,.fn 20 Ziq 2]
@[simp] def Zbu:List SX:=[.con (.int .i64 7),.var 5,.var 6]
@[simp] def Zeh:SX:=.bin .eql (.var 4) (.con (.int .i64 0))
@[simp] def Za3:Fact:=.ok (.fn 20 Zku 2)
@[simp] def Zp8:List SX:=[.var 0,.var 1,.fn 23 [.var 5,.var 6] 1,.fn 23 [.var 5,.var 6] 2,.var 7,.fn 31 Zba 0,.fn 31 Zba 1,.fn 31 Zba 2]
@[simp] def Zc3:SX:=.bin .eql (.var 4) (.con (.int .i64 1))
@[simp] def Zeg:SX:=.bin .eql (.var 4) (.con (.int .i64 2))
@[simp] def zGreatStc16:SX:=.con (.string { data:={ toList:=[UInt8.ofNat 110,UInt8.ofNat 105,UInt8.ofNat 110,UInt8.ofNat 101,UInt8.ofNat 99,UInt8.ofNat 104,UInt8.ofNat 97,UInt8.ofNat 114,UInt8.ofNat 115] } })
@[simp] def Zjh:SX:=.bin .sub Zn8 (.con (.int .i64 1))
@[simp] def Zg2:Fact:=.ok (rop ROp.max2 [.var 3,.con (.int .i64 1)])
@[simp] def Za2:SX:=.fn 20 Zku 0
@[simp] def zGreatStc20:SX:=.con (.string { data:={ toList:=[UInt8.ofNat 115,UInt8.ofNat 101,UInt8.ofNat 118,UInt8.ofNat 101,UInt8.ofNat 110,UInt8.ofNat 55,UInt8.ofNat 55] } })
@[simp] def Zc2:Fact:=.fp 47 (ENum 20) Zku
@[simp] def Zg1:SX:=.bin .eql (.var 4) (.con (.int .i64 3))
@[simp] def Zll:SX:=.bin .eql (.fn 20 Zcb 0) (.con (.int .i64 0))
@[simp] def zGreatStc24:List SX:=[.var 0,.var 1,.fn 22 Zf0 1,.fn 22 Zf0 2,.var 7,.fn 33 Zbi 0,.fn 33 Zbi 1,.fn 33 Zbi 2]
@[simp] def zGreatStc25:SX:=.con (.string { data:={ toList:=[UInt8.ofNat 110,UInt8.ofNat 111,UInt8.ofNat 116,UInt8.ofNat 101,UInt8.ofNat 115] } })
@[simp] def Zp7:List SX:=[.var 0,.var 1,.var 2,.var 3,.var 4,.var 5,.var 6,.var 7]
@[simp] def Zp6:SX:=.bin .add (.cell (.var 6) Zjh 4 0) (.fn 20 Ziq 0)
@[simp] def Zg0:Fact:=.ok (.fn 23 [.var 5,.var 6] 2)
@[simp] def Zp5:Fact:=.ok (.bin .add (.con (.int .i64 1)) (.fn 20 Zbu 0))
@[simp] def Zlk:SX:=.bin .eql (.var 4) (.con (.int .i64 4))
@[simp] def zGreatStc31:SX:=.con (.string { data:={ toList:=[UInt8.ofNat 108,UInt8.ofNat 111,UInt8.ofNat 103] } })
@[simp] def zGreatStc32:SX:=.con (.string { data:={ toList:=[UInt8.ofNat 120,UInt8.ofNat 47,UInt8.ofNat 121] } })
@[simp] def Zgz:SX:=.bin .lss (.var 1) (.var 0)
@[simp] def zGreatStc34:SX:=.con (.string { data:={ toList:=[UInt8.ofNat 97,UInt8.ofNat 32,UInt8.ofNat 98] } })
@[simp] def Zc1:SX:=.fn 20 Zku 1
@[simp] def Zc0:SX:=.fn 20 Zku 2
@[simp] def Zjg:Fact:=.is Zeh (.bool false)
@[simp] def Zgy:Fact:=.ok (.fn 31 Zba 2)
@[simp] def Zlj:SX:=.bin .geq (.var 3) (.len (.var 2))
@[simp] def Zgx:List SX:=[.var 5,.var 6,.var 7]
theorem nm0:segTo Tryz.prog (orcP tabN1) 10000 flNm shNm [0] shNmR [(0,0)]=some (.ret,[Zc2,.ok Za2,Za3,Fact.at Za2 0,.ok (.con (.string { data:={ toList:=[UInt8.ofNat 97] } })),Za3],[.con (.string { data:={ toList:=[UInt8.ofNat 97] } }),Zc1,Zc0]):=by kernel_rfl
theorem nm1:segTo Tryz.prog (orcP tabN1) 10000 flNm shNm [1] shNmR [(0,0)]=some (.ret,[Zc2,.ok Za2,Za3,Fact.at Za2 1,.ok (.con (.string { data:={ toList:=[UInt8.ofNat 98] } })),Za3],[.con (.string { data:={ toList:=[UInt8.ofNat 98] } }),Zc1,Zc0]):=by kernel_rfl
theorem nm2:segTo Tryz.prog (orcP tabN1) 10000 flNm shNm [2] shNmR [(0,0)]=some (.ret,[Zc2,.ok Za2,Za3,Fact.at Za2 2,.ok (.con (.string { data:={ toList:=[UInt8.ofNat 99] } })),Za3],[.con (.string { data:={ toList:=[UInt8.ofNat 99] } }),Zc1,Zc0]):=by kernel_rfl
theorem nm3:segTo Tryz.prog (orcP tabN1) 10000 flNm shNm [3] shNmR [(0,0)]=some (.ret,[Zc2,.ok Za2,Za3,Fact.at Za2 3,.ok zGreatStc25,Za3],[zGreatStc25,Zc1,Zc0]):=by kernel_rfl
theorem nm4:segTo Tryz.prog (orcP tabN1) 10000 flNm shNm [4] shNmR [(0,0)]=some (.ret,[Zc2,.ok Za2,Za3,Fact.at Za2 4,.ok zGreatStc31,Za3],[zGreatStc31,Zc1,Zc0]):=by kernel_rfl
theorem nm5:segTo Tryz.prog (orcP tabN1) 10000 flNm shNm [5] shNmR [(0,0)]=some (.ret,[Zc2,.ok Za2,Za3,Fact.at Za2 5,.ok zGreatStc32,Za3],[zGreatStc32,Zc1,Zc0]):=by kernel_rfl
theorem nm6:segTo Tryz.prog (orcP tabN1) 10000 flNm shNm [6] shNmR [(0,0)]=some (.ret,[Zc2,.ok Za2,Za3,Fact.at Za2 6,.ok zGreatStc20,Za3],[zGreatStc20,Zc1,Zc0]):=by kernel_rfl
theorem nm7:segTo Tryz.prog (orcP tabN1) 10000 flNm shNm [7] shNmR [(0,0)]=some (.ret,[Zc2,.ok Za2,Za3,Fact.at Za2 7,.ok (.con (.string { data:={ toList:=[] } })),Za3],[.con (.string { data:={ toList:=[] } }),Zc1,Zc0]):=by kernel_rfl
theorem nm8:segTo Tryz.prog (orcP tabN1) 10000 flNm shNm [8] shNmR [(0,0)]=some (.ret,[Zc2,.ok Za2,Za3,Fact.at Za2 8,.ok zGreatStc34,Za3],[zGreatStc34,Zc1,Zc0]):=by kernel_rfl
theorem nm9:segTo Tryz.prog (orcP tabN1) 10000 flNm shNm [9] shNmR [(0,0)]=some (.ret,[Zc2,.ok Za2,Za3,Fact.at Za2 9,.ok zGreatStc16,Za3],[zGreatStc16,Zc1,Zc0]):=by kernel_rfl
theorem preT:segTo Tryz.prog orcS 10000 (flT.take 3) shT [] shTl [(0,0),(2,0),(5,0)]=some (.normal,[.fn 45 (ENew 35) [],.ok (.fn 35 [] 2),.ok (.var 0),.ok (.con (.int .i64 0)),.ok (.var 2),.ok (.con (.int .i64 0)),.ok (.fn 35 [] 2)],[.var 0,.con (.int .i64 0),.var 1,.var 2,.con (.int .i64 0),.fn 35 [] 0,.fn 35 [] 1,.fn 35 [] 2]):=by kernel_rfl
theorem hdT:segTo Tryz.prog orcS 10000 (lpT.take 2) shTl [1,0] shTl [(0,0),(1,0),(2,0)]=some (.normal,[.ok Zgz,.is Zgz (.bool true),.ok (.len (.var 2)),.ok Zlj,.is Zlj (.bool false),.ok (.var 0),.ok (.var 1),.ok (.var 3),.ok (.var 4),.ok (.var 7)],Zp7):=by kernel_rfl
theorem ex0:segTo Tryz.prog orcS 10000 lpT shTl [0] shTl [(0,0),(1,0),(2,0)]=some (.exit 0,[.ok Zgz,.is Zgz (.bool false),.ok (.var 0),.ok (.var 1),.ok (.var 3),.ok (.var 4),.ok (.var 7)],Zp7):=by kernel_rfl
theorem ex1:segTo Tryz.prog orcS 10000 lpT shTl [1,1] shTl [(0,0),(1,0),(2,0)]=some (.exit 0,[.ok Zgz,.is Zgz (.bool true),.ok (.len (.var 2)),.ok Zlj,.is Zlj (.bool true),.ok (.var 0),.ok (.var 1),.ok (.var 3),.ok (.var 4),.ok (.var 7)],Zp7):=by kernel_rfl
theorem pc:segTo Tryz.prog orcS 10000 (bdT.take 3) shTl [] shTc [(0,0),(1,0),(2,0)]=some (.normal,[.fp 47 (ENum 20) [.con (.int .i64 3),.var 2,.var 3],.ok (.fn 20 [.con (.int .i64 3),.var 2,.var 3] 0),.ok (.fn 20 [.con (.int .i64 3),.var 2,.var 3] 2),.ok Zn8,.ok Zjh,.idx (.var 6) Zjh 4 4,.idx (.var 6) Zjh 4 1,.ok (.cell (.var 6) Zjh 4 0),.fp 47 (ENum 20) Ziq,.ok (.fn 20 Ziq 0),.ok (.fn 20 Ziq 2),.ok Zp6,.fp 47 (ENum 20) Zfz,.ok (.fn 20 Zfz 0),.ok (.fn 20 Zfz 2),.ok (.var 0),.ok (.var 1),.ok Zn8,.ok Zp6,.ok (.fn 20 Zfz 0),.ok (.fn 20 Zfz 2),.ok (.var 4),.ok (.var 7)],[.var 0,.var 1,Zn8,Zp6,.fn 20 Zfz 0,.fn 20 Zfz 1,.fn 20 Zfz 2,.var 4,.var 5,.var 6,.var 7]):=by kernel_rfl
theorem c0:segTo Tryz.prog orcS 10000 ((bdT.drop 3).take 1) shTc [1] shTl [(0,0),(1,0),(2,0)]=some (.normal,[.ok Zeh,.is Zeh (.bool true),Zg2,.fp 48 (ENm 23) [.var 5,.var 6],.ok (.fn 23 [.var 5,.var 6] 0),Zg0,.fn 10 (EOpen 31) Zba,Zgy,.ok (.fn 31 Zba 3),.ok (.fn 31 Zba 4),.ok (.fn 31 Zba 5),.ok (.fn 31 Zba 6),.ok (.var 0),.ok (.var 1),Zg0,.ok (.var 7),Zgy],Zp8):=by kernel_rfl
theorem c1:segTo Tryz.prog orcS 10000 ((bdT.drop 3).take 1) shTc [0,1] shTl [(0,0),(1,0),(2,0)]=some (.normal,[.ok Zeh,Zjg,.ok Zc3,.is Zc3 (.bool true),Zg2,.fp 48 (ENm 23) [.var 5,.var 6],.ok (.fn 23 [.var 5,.var 6] 0),Zg0,.fn 10 (EOpen 31) Zba,Zgy,.ok (.fn 31 Zba 3),.ok (.fn 31 Zba 4),.ok (.fn 31 Zba 5),.ok (.fn 31 Zba 6),.ok (.var 0),.ok (.var 1),Zg0,.ok (.var 7),Zgy],Zp8):=by kernel_rfl
theorem c2:segTo Tryz.prog orcS 10000 ((bdT.drop 3).take 1) shTc [0,0,1] shTl [(0,0),(1,0),(2,0)]=some (.normal,[.ok Zeh,Zjg,.ok Zc3,.is Zc3 (.bool false),.ok Zeg,.is Zeg (.bool true),Zg2,.fp 48 (ENm 23) [.var 5,.var 6],.ok (.fn 23 [.var 5,.var 6] 0),Zg0,.fn 10 (EOpen 31) Zba,Zgy,.ok (.fn 31 Zba 3),.ok (.fn 31 Zba 4),.ok (.fn 31 Zba 5),.ok (.fn 31 Zba 6),.ok (.var 0),.ok (.var 1),Zg0,.ok (.var 7),Zgy],Zp8):=by kernel_rfl
theorem c3:segTo Tryz.prog orcS 10000 ((bdT.drop 3).take 1) shTc [0,0,0,1] shTl [(0,0),(1,0),(2,0)]=some (.normal,[.ok Zeh,Zjg,.ok Zc3,.is Zc3 (.bool false),.ok Zeg,.is Zeg (.bool false),.ok Zg1,.is Zg1 (.bool true),Zg2,.fp 47 (ENum 20) Zbu,.ok (.fn 20 Zbu 0),.ok (.fn 20 Zbu 2),Zp5,.fp 50 (EWs 22) Zf0,.ok (.fn 22 Zf0 2),.fn 49 (Zp4 33) Zbi,.ok (.fn 33 Zbi 2),.ok (.fn 33 Zbi 3),.ok (.fn 33 Zbi 4),.ok (.fn 33 Zbi 5),.ok (.fn 33 Zbi 6),.ok (.var 0),.ok (.var 1),.ok (.fn 22 Zf0 2),.ok (.var 7),.ok (.fn 33 Zbi 2)],zGreatStc24):=by kernel_rfl
theorem c4:segTo Tryz.prog orcS 10000 ((bdT.drop 3).take 1) shTc [0,0,0,0,1] shTl [(0,0),(1,0),(2,0)]=some (.normal,[.ok Zeh,Zjg,.ok Zc3,.is Zc3 (.bool false),.ok Zeg,.is Zeg (.bool false),.ok Zg1,.is Zg1 (.bool false),.ok Zlk,.is Zlk (.bool true),Zg2,.fp 47 (ENum 20) Zbu,.ok (.fn 20 Zbu 0),.ok (.fn 20 Zbu 2),Zp5,.fp 50 (EWs 22) Zf0,.ok (.fn 22 Zf0 2),.fn 49 (Zp4 33) Zbi,.ok (.fn 33 Zbi 2),.ok (.fn 33 Zbi 3),.ok (.fn 33 Zbi 4),.ok (.fn 33 Zbi 5),.ok (.fn 33 Zbi 6),.ok (.var 0),.ok (.var 1),.ok (.fn 22 Zf0 2),.ok (.var 7),.ok (.fn 33 Zbi 2)],zGreatStc24):=by kernel_rfl
theorem c5:segTo Tryz.prog orcS 10000 ((bdT.drop 3).take 1) shTc [0,0,0,0,0] shTl [(0,0),(1,0),(2,0)]=some (.normal,[.ok Zeh,Zjg,.ok Zc3,.is Zc3 (.bool false),.ok Zeg,.is Zeg (.bool false),.ok Zg1,.is Zg1 (.bool false),.ok Zlk,.is Zlk (.bool false),Zg2,.fp 47 (ENum 20) Zbu,.ok (.fn 20 Zbu 0),.ok (.fn 20 Zbu 2),Zp5,.fn 51 (EOpen 32) Zdx,.ok (.fn 32 Zdx 2),.ok (.fn 32 Zdx 3),.ok (.fn 32 Zdx 4),.ok (.fn 32 Zdx 5),.ok (.fn 32 Zdx 6),.ok (.var 0),.ok (.var 1),.ok (.fn 20 Zbu 2),.ok (.var 7),.ok (.fn 32 Zdx 2)],[.var 0,.var 1,.fn 20 Zbu 1,.fn 20 Zbu 2,.var 7,.fn 32 Zdx 0,.fn 32 Zdx 1,.fn 32 Zdx 2]):=by kernel_rfl
theorem bt0:segTo Tryz.prog orcS 10000 (bdT.drop 4) shTl [0] shTl [(0,0),(1,0),(2,0)]=some (.normal,[.fp 47 (ENum 20) Zcb,.ok (.fn 20 Zcb 0),.ok (.fn 20 Zcb 2),.ok Zll,.is Zll (.bool false),.ok (.var 0),.ok (.var 1),.ok (.fn 20 Zcb 2),.ok (.var 4),.ok (.var 7)],[.var 0,.var 1,.fn 20 Zcb 1,.fn 20 Zcb 2,.var 4,.var 5,.var 6,.var 7]):=by kernel_rfl
theorem bt1:segTo Tryz.prog orcS 10000 (bdT.drop 4) shTl [1] shTl [(0,0),(1,0),(2,0)]=some (.normal,[.fp 47 (ENum 20) Zcb,.ok (.fn 20 Zcb 0),.ok (.fn 20 Zcb 2),.ok Zll,.is Zll (.bool true),.fn 52 (EBoot 34) Zgx,.ok (.fn 34 Zgx 2),.ok (.var 0),.ok (.var 1),.ok (.fn 20 Zcb 2),.ok (.var 4),.ok (.fn 34 Zgx 2)],[.var 0,.var 1,.fn 20 Zcb 1,.fn 20 Zcb 2,.var 4,.fn 34 Zgx 0,.fn 34 Zgx 1,.fn 34 Zgx 2]):=by kernel_rfl
theorem stpT:segTo Tryz.prog orcS 10000 (lpT.drop 3) shTl [] shTl [(0,0),(1,0),(2,0)]=some (.normal,[.ok (.bin .add (.var 1) (.con (.int .i64 1))),.ok (.var 0),.ok (.bin .add (.var 1) (.con (.int .i64 1))),.ok (.var 3),.ok (.var 4),.ok (.var 7)],[.var 0,.bin .add (.var 1) (.con (.int .i64 1)),.var 2,.var 3,.var 4,.var 5,.var 6,.var 7]):=by kernel_rfl
theorem postT:segTo Tryz.prog orcS 10000 (flT.drop 4) shTl [] shTR [(0,0),(1,0)]=some (.ret,[.ok (.var 3),.ok (.var 7)],[.var 2,.var 3,.var 5,.var 6,.var 7]):=by kernel_rfl

def nmt:Nat->ByteArray
 | 0=>⟨⟨[UInt8.ofNat 97]⟩⟩
 | 1=>⟨⟨[UInt8.ofNat 98]⟩⟩
 | 2=>⟨⟨[UInt8.ofNat 99]⟩⟩
 | 3=>⟨⟨[UInt8.ofNat 110,UInt8.ofNat 111,UInt8.ofNat 116,UInt8.ofNat 101,UInt8.ofNat 115]⟩⟩
 | 4=>⟨⟨[UInt8.ofNat 108,UInt8.ofNat 111,UInt8.ofNat 103]⟩⟩
 | 5=>⟨⟨[UInt8.ofNat 120,UInt8.ofNat 47,UInt8.ofNat 121]⟩⟩
 | 6=>⟨⟨[UInt8.ofNat 115,UInt8.ofNat 101,UInt8.ofNat 118,UInt8.ofNat 101,UInt8.ofNat 110,UInt8.ofNat 55,UInt8.ofNat 55]⟩⟩
 | 7=>⟨⟨[]⟩⟩
 | 8=>⟨⟨[UInt8.ofNat 97,UInt8.ofNat 32,UInt8.ofNat 98]⟩⟩
 | 9=>⟨⟨[UInt8.ofNat 110,UInt8.ofNat 105,UInt8.ofNat 110,UInt8.ofNat 101,UInt8.ofNat 99,UInt8.ofNat 104,UInt8.ofNat 97,UInt8.ofNat 114,UInt8.ofNat 115]⟩⟩
 | _=>⟨⟨[]⟩⟩
theorem nmt_size:∀ j,(nmt j).size<=9
 | 0=>by decide
 | 1=>by decide
 | 2=>by decide
 | 3=>by decide
 | 4=>by decide
 | 5=>by decide
 | 6=>by decide
 | 7=>by decide
 | 8=>by decide
 | 9=>by decide
 | _+10=>by show (⟨⟨[]⟩⟩:ByteArray).size<=9;decide
@[simp] theorem kNm (k:Nat):(ENm k).k=k:=rfl
@[simp] theorem kSt (k:Nat):(ESt k).k=k:=rfl
def RNm (ps qs:List PV):Prop:=∃ (n:Nat) (l:List Nat),OkP l n/\ps=[pRow encU l,pI (n:Int)]/\qs=[pS (nmt (numV l n 10)),pRow encU l,pI (numN l n:Int)]
theorem fNm:∀ ps q1 q2,RNm ps q1->RNm ps q2->q1=q2:=by
 rintro ps q1 q2 ⟨n,l,_,rfl,rfl⟩ ⟨n',l',_,h,rfl⟩
 simp only [List.cons.injEq,PV.v.injEq,Value.int.injEq,true_and,and_true,Int.ofNat_inj] at h
 obtain ⟨h,rfl⟩:=h
 rw [fil.pRow_inj Zpr h]
noncomputable def FS:Fns:=fun k=>match k with | 20=>spec RNum | 22=>spec RWs | 23=>spec RNm | 31=>spec ROpen | 32=>spec RGone | 33=>spec Zwz | 34=>spec RBoot | 35=>spec RNew | _=>fun _=>none
theorem s20:ToldP 47 (ENum 20) (FS 20):=toldNum 20
theorem FS20 {m n:Nat} {l:List Nat} (h1:1<=m) (h2:m<=1000) (ok:OkP l n):FS 20 [pI (m:Int),pRow encU l,pI (n:Int)]=some [pI (numV l n m:Int),pRow encU l,pI (numN l n:Int)]:=Zap fNum ⟨m,n,l,h1,h2,ok.n,ok.len,ok.u8,rfl,rfl⟩
set_option maxHeartbeats 1000000 in
theorem toldNm (k:Nat):ToldP 48 (ENm k) (spec RNm):=by
 refine Zq2 FS _ (Zaq Tryz.prog 48) Tryz.func48 (by kernel_rfl) shNm (by kernel_rfl) ?_ ?_
 ·intro ps qs h i hi
  obtain ⟨n,l,_,rfl,rfl⟩:=Zak h
  simp [shNm] at hi
  match i,hi with
  | 0,hi=>simp at hi
  | 1,hi=>exact ⟨_,rfl,rfl⟩
  | i+2,hi=>simp at hi
 ·intro C ps qs hF h a w hsh
  obtain ⟨n,l,ok,rfl,rfl⟩:=Zak h
  show wpL Tryz.prog flNm _ a w
  rw [<- List.append_nil flNm]
  have e1:FS 20 [pI 10,pRow encU l,pI (n:Int)]=some [pI (numV l n 10:Int),pRow encU l,pI (numN l n:Int)]:=FS20 (m:=10) (by omega) (by omega) ok
  have hlt:numV l n 10 < 10:=Zh1 (by omega)
  generalize numV l n 10=j at *
  match j,hlt with
  | 0,_ =>
   refine Zag Zad Zac (Zil _) nm0 hsh ?_ ?_
   ·simp only [fmC,fmN]
    simp [-Zae,Zab,Zaa,Base.ev,SX.ev,evs,Value.oneCell',hF,e1,s20]
   ·intro qs a1 w1' hq h1'
    refine ⟨fun h=>(by cases h),fun _=>⟨.inr rfl,shNmR,qs,[SX.var 0,SX.var 1,SX.var 2],h1',by kernel_rfl,?_⟩⟩
    simp [evs,SX.ev,hF,e1] at hq ⊢
    subst hq
    simp [nmt]
  | 1,_ =>
   refine Zag Zad Zac (Zil _) nm1 hsh ?_ ?_
   ·simp only [fmC,fmN]
    simp [-Zae,Zab,Zaa,Base.ev,SX.ev,evs,Value.oneCell',hF,e1,s20]
   ·intro qs a1 w1' hq h1'
    refine ⟨fun h=>(by cases h),fun _=>⟨.inr rfl,shNmR,qs,[SX.var 0,SX.var 1,SX.var 2],h1',by kernel_rfl,?_⟩⟩
    simp [evs,SX.ev,hF,e1] at hq ⊢
    subst hq
    simp [nmt]
  | 2,_ =>
   refine Zag Zad Zac (Zil _) nm2 hsh ?_ ?_
   ·simp only [fmC,fmN]
    simp [-Zae,Zab,Zaa,Base.ev,SX.ev,evs,Value.oneCell',hF,e1,s20]
   ·intro qs a1 w1' hq h1'
    refine ⟨fun h=>(by cases h),fun _=>⟨.inr rfl,shNmR,qs,[SX.var 0,SX.var 1,SX.var 2],h1',by kernel_rfl,?_⟩⟩
    simp [evs,SX.ev,hF,e1] at hq ⊢
    subst hq
    simp [nmt]
  | 3,_ =>
   refine Zag Zad Zac (Zil _) nm3 hsh ?_ ?_
   ·simp only [fmC,fmN]
    simp [-Zae,Zab,Zaa,Base.ev,SX.ev,evs,Value.oneCell',hF,e1,s20]
   ·intro qs a1 w1' hq h1'
    refine ⟨fun h=>(by cases h),fun _=>⟨.inr rfl,shNmR,qs,[SX.var 0,SX.var 1,SX.var 2],h1',by kernel_rfl,?_⟩⟩
    simp [evs,SX.ev,hF,e1] at hq ⊢
    subst hq
    simp [nmt]
  | 4,_ =>
   refine Zag Zad Zac (Zil _) nm4 hsh ?_ ?_
   ·simp only [fmC,fmN]
    simp [-Zae,Zab,Zaa,Base.ev,SX.ev,evs,Value.oneCell',hF,e1,s20]
   ·intro qs a1 w1' hq h1'
    refine ⟨fun h=>(by cases h),fun _=>⟨.inr rfl,shNmR,qs,[SX.var 0,SX.var 1,SX.var 2],h1',by kernel_rfl,?_⟩⟩
    simp [evs,SX.ev,hF,e1] at hq ⊢
    subst hq
    simp [nmt]
  | 5,_ =>
   refine Zag Zad Zac (Zil _) nm5 hsh ?_ ?_
   ·simp only [fmC,fmN]
    simp [-Zae,Zab,Zaa,Base.ev,SX.ev,evs,Value.oneCell',hF,e1,s20]
   ·intro qs a1 w1' hq h1'
    refine ⟨fun h=>(by cases h),fun _=>⟨.inr rfl,shNmR,qs,[SX.var 0,SX.var 1,SX.var 2],h1',by kernel_rfl,?_⟩⟩
    simp [evs,SX.ev,hF,e1] at hq ⊢
    subst hq
    simp [nmt]
  | 6,_ =>
   refine Zag Zad Zac (Zil _) nm6 hsh ?_ ?_
   ·simp only [fmC,fmN]
    simp [-Zae,Zab,Zaa,Base.ev,SX.ev,evs,Value.oneCell',hF,e1,s20]
   ·intro qs a1 w1' hq h1'
    refine ⟨fun h=>(by cases h),fun _=>⟨.inr rfl,shNmR,qs,[SX.var 0,SX.var 1,SX.var 2],h1',by kernel_rfl,?_⟩⟩
    simp [evs,SX.ev,hF,e1] at hq ⊢
    subst hq
    simp [nmt]
  | 7,_ =>
   refine Zag Zad Zac (Zil _) nm7 hsh ?_ ?_
   ·simp only [fmC,fmN]
    simp [-Zae,Zab,Zaa,Base.ev,SX.ev,evs,Value.oneCell',hF,e1,s20]
   ·intro qs a1 w1' hq h1'
    refine ⟨fun h=>(by cases h),fun _=>⟨.inr rfl,shNmR,qs,[SX.var 0,SX.var 1,SX.var 2],h1',by kernel_rfl,?_⟩⟩
    simp [evs,SX.ev,hF,e1] at hq ⊢
    subst hq
    simp [nmt]
  | 8,_ =>
   refine Zag Zad Zac (Zil _) nm8 hsh ?_ ?_
   ·simp only [fmC,fmN]
    simp [-Zae,Zab,Zaa,Base.ev,SX.ev,evs,Value.oneCell',hF,e1,s20]
   ·intro qs a1 w1' hq h1'
    refine ⟨fun h=>(by cases h),fun _=>⟨.inr rfl,shNmR,qs,[SX.var 0,SX.var 1,SX.var 2],h1',by kernel_rfl,?_⟩⟩
    simp [evs,SX.ev,hF,e1] at hq ⊢
    subst hq
    simp [nmt]
  | 9,_ =>
   refine Zag Zad Zac (Zil _) nm9 hsh ?_ ?_
   ·simp only [fmC,fmN]
    simp [-Zae,Zab,Zaa,Base.ev,SX.ev,evs,Value.oneCell',hF,e1,s20]
   ·intro qs a1 w1' hq h1'
    refine ⟨fun h=>(by cases h),fun _=>⟨.inr rfl,shNmR,qs,[SX.var 0,SX.var 1,SX.var 2],h1',by kernel_rfl,?_⟩⟩
    simp [evs,SX.ev,hF,e1] at hq ⊢
    subst hq
    simp [nmt]
  | j+10,h=>omega

def Zgw (l:List Nat) (s:StM) (n:Nat):StM × Nat :=
 let n1:=numN l n
 let n2:=numN l n1
 let n3:=numN l n2
 let n4:=numN l n3
 let c:Int:=1+(numV l n 3:Int)
 let seq:Int:=max ((s.marks.getD (numV l n 3) (0,0,0,0)).1+(numV l n1 3:Int)) 1
 let r:StM × Nat:=if numV l n2 6<=2 then ((openS s c seq (nmt (numV l n3 10))).1,n4)
  else if numV l n2 6<=4 then ((Zda s c seq (1+(numV l n3 7:Int)) (Zgm l n4 5).1).1,(Zgm l n4 5).2)
  else ((goneS s c seq (1+(numV l n3 7:Int))).1,n4)
 (if numV l r.2 9=0 then bootS r.1 else r.1,numN l r.2)
def stRun (l:List Nat):Nat->StM->Nat->StM × Nat
 | 0,s,n=>(s,n)
 | k+1,s,n=>if l.length<=n then (s,n) else stRun l k (Zgw l s n).1 (Zgw l s n).2
structure TsOk (s:StM) (b:Int):Prop where
 fl:s.files.length=6
 ml:s.marks.length=3
 fv:∀ f ∈ s.files,0<=f.2.1/\f.2.1<=1073741824/\f.2.2.size<=24
 mv:∀ m ∈ s.marks,0<=m.1/\m.1<=b
 ep:0<=s.epoch/\s.epoch<=1073741824
theorem TsOk.st {s:StM} {b:Int} (h:TsOk s b):StOk s:=⟨by rw [h.fl];omega,by rw [h.ml];omega,fun f hf=>by have:=h.fv f hf;omega,by have:=h.ep;omega⟩
theorem Zgn {s:StM} {b b':Int} (h:TsOk s b) (hb:b<=b') (c:Int) {m:MarkM} (h0:0<=m.1) (h1:m.1<=b') (at':Int) {f:FileM} (hf:0<=f.2.1/\f.2.1<=1073741824/\f.2.2.size<=24):TsOk (Za9 s c m at' f) b':=by
 refine ⟨?_,?_,fun g hg=>?_,fun g hg=>?_,h.ep⟩
 ·simp only [Za9]
  split
  ·rw [List.length_set];exact h.fl
  ·exact h.fl
 ·simp only [Za9,putMk]
  split
  ·rw [List.length_set];exact h.ml
  ·exact h.ml
 ·simp only [Za9] at hg
  split at hg
  ·rcases List.mem_or_eq_of_mem_set hg with hg | rfl
   ·exact h.fv g hg
   ·exact hf
  ·exact h.fv g hg
 ·simp only [Za9,putMk] at hg
  have old:g ∈ s.marks->0<=g.1/\g.1<=b':=fun hg=>by have:=h.mv g hg;omega
  split at hg
  ·rcases List.mem_or_eq_of_mem_set hg with hg | rfl
   ·exact old hg
   ·exact ⟨h0,h1⟩
  ·exact old hg
theorem Zsv:0<=f00.2.1/\f00.2.1<=1073741824/\f00.2.2.size<=24:=by decide
theorem ts_open {s:StM} {b b':Int} (h:TsOk s b) (hb:b<=b') (c seq:Int) (name:ByteArray) (h0:0<=seq) (h1:seq<=b'):TsOk (openS s c seq name).1 b':=by
 unfold openS
 split
 ·split
  ·exact Zgn h hb c h0 h1 _ Zsv
  ·split
   ·exact Zgn h hb c h0 h1 _ (by simp only [e0];decide)
   ·exact Zgn h hb c h0 h1 _ Zsv
 ·exact Zgn h hb c h0 h1 _ Zsv
theorem ts_gone {s:StM} {b b':Int} (h:TsOk s b) (hb:b<=b') (c seq file:Int) (h0:0<=seq) (h1:seq<=b'):TsOk (goneS s c seq file).1 b':=by
 unfold goneS
 split
 ·exact Zgn h hb c h0 h1 _ Zsv
 ·exact Zgn h hb c h0 h1 _ Zsv
theorem ts_flush {s:StM} {b b':Int} (h:TsOk s b) (hb:b<=b') (c seq file:Int) (l:List (Int × ByteArray)) (h0:0<=seq) (h1:seq<=b'):TsOk (Zda s c seq file l).1 b':=by
 unfold Zda
 split
 ·rename_i hF
  split
  ·refine Zgn h hb c h0 h1 _ ?_
   have hfi:s.files.getD (file.toNat - 1) f00 ∈ s.files:=by
    simp only [isF,Bool.and_eq_true,decide_eq_true_eq] at hF
    have hlt:file.toNat - 1 < s.files.length:=by omega
    simp only [List.getD,List.getElem?_eq_getElem hlt,Option.getD_some]
    exact List.getElem_mem hlt
   have hv:=h.fv _ hfi
   generalize s.files.getD (file.toNat - 1) f00=f at *
   have hbl:(bs (allW f.2.2.data.toList l)).size<=24:=by
    rw [Zwh]
    have:=Zs6 l f.2.2.data.toList
    have h2:f.2.2.data.toList.length=f.2.2.size:=by simp
    omega
   simp only [Zeb]
   exact ⟨by omega,by omega,hbl⟩
  ·exact Zgn h hb c h0 h1 _ Zsv
 ·exact Zgn h hb c h0 h1 _ Zsv
theorem ts_boot {s:StM} {b:Int} (h:TsOk s b):TsOk (bootS s) b:=⟨h.fl,h.ml,h.fv,h.mv,by have:=h.ep;simp only [bootS];omega⟩
theorem Zw4:TsOk newS 0:=by
 refine ⟨rfl,rfl,fun f hf=>?_,fun m hm=>?_,by decide⟩
 ·rw [List.eq_of_mem_replicate hf];exact Zsv
 ·rw [List.eq_of_mem_replicate hm];decide
end Go.Proofs.YtefkakjegdjojaaGreat.sta
end
section
/- What lasts: what may be, and that it stays so (reckoning alone). -/
namespace Go.Proofs.YtefkakjegdjojaaGreat.sta
open Go Go.RowKit eng SX Fact fil fileFronts dirs pck may
open fileFronts
open pck hiding F F20 F21
open dirs hiding shR shRl shRR flR lpR cutR f0 f1 f2 f3
open may hiding r1 r2 r3 r4 r5
set_option linter.unusedVariables false
set_option linter.unusedSimpArgs false
set_option maxRecDepth 100000

theorem Zu3:e0.toList=[]:=by rw [ByteArray.toList_eq];rfl
def isE0 (f:FileM):Bool:=f.1.toList == [] && (decide (f.2.1=0) && f.2.2.toList == [])
theorem Zuw:isE0 f00=true:=by simp [isE0,f00,Zu3]
def numB (n least most:Int):Bool:=decide (least<=n) && decide (n<=most)
def Zle (fs:List FileM) (i:Nat) (f:FileM):Nat :=
 if findN fs f.1=some i then (if numB f.2.1 1 1073741824 && decide (f.2.2.size<=24) then 0 else 2) else 1
def markB (m:MarkM):Bool:=numB m.1 0 1073741824 && (numB m.2.1 0 3 && (numB m.2.2.1 0 6 && numB m.2.2.2 0 1073741824))
def fileN (fs:List FileM) (i:Nat) (f:FileM):Nat:=if isE0 f then 0 else Zle fs i f
def Zin (fs:List FileM):Nat->List FileM->Nat
 | _,[]=>0
 | i,f :: r=>if fileN fs i f=0 then Zin fs (i+1) r else fileN fs i f
def mustN (s : StM) : Nat :=
  if s.files.length = 6 /\ s.marks.length = 3 then
    (if Zin s.files 0 s.files = 0 then (if s.marks.all markB && numB s.epoch 0 1073741824 then 0 else 3)
     else Zin s.files 0 s.files + 1)
  else 1
def mayS (s:StM):Bool:=mustN s == 0

theorem Zh4 (fs:List FileM):∀ (r:List FileM) (i:Nat),Zin fs i r=0 ↔ ∀ j (h:j < r.length),fileN fs (i+j) r[j]=0
 | [],i=>by simp [Zin]
 | f :: r,i=>by
  unfold Zin
  constructor
  ·intro h
   split at h
   ·rename_i h0
    have:=(Zh4 fs r (i+1)).1 h
    intro j hj
    cases j with
    | zero=>exact h0
    | succ j =>
     have:=this j (by simpa using hj)
     rwa [show i+1+j=i+(j+1) by omega] at this
   ·contradiction
  ·intro h
   rw [if_pos (show fileN fs i f=0 from h 0 (by simp))]
   refine (Zh4 fs r (i+1)).2 fun j hj=>?_
   have:=h (j+1) (by simpa using hj)
   rwa [show i+(j+1)=i+1+j by omega] at this
theorem filesN_at (fs:List FileM):∀ (r:List FileM) (i j:Nat) (h:j < r.length),(∀ k (hk:k < r.length),k < j->fileN fs (i+k) r[k]=0)->fileN fs (i+j) r[j] ≠ 0->Zin fs i r=fileN fs (i+j) r[j]
 | [],i,j,h,_,_=>absurd h (by simp)
 | f :: r,i,0,h,_,hb=>by
  unfold Zin
  rw [if_neg (by simpa using hb)]
  simp
 | f :: r,i,j+1,h,hk,hb=>by
  unfold Zin
  rw [if_pos (show fileN fs i f=0 from hk 0 (by simp) (by omega))]
  have:=filesN_at fs r (i+1) j (by simpa using h) (fun k hk' hlt=>by
   have:=hk (k+1) (by simpa using hk') (by omega)
   rwa [show i+(k+1)=i+1+k by omega] at this) (by rw [show i+1+j=i+(j+1) by omega];simpa using hb)
  rw [this,show i+1+j=i+(j+1) by omega]
  simp

structure MayS (s:StM):Prop where
 fl:s.files.length=6
 ml:s.marks.length=3
 fv:∀ j (h:j < s.files.length),isE0 s.files[j]=true \/ (findN s.files s.files[j].1=some j/\1<=s.files[j].2.1/\s.files[j].2.1<=1073741824/\s.files[j].2.2.size<=24)
 mv:∀ m ∈ s.marks,0<=m.1/\m.1<=1073741824/\0<=m.2.1/\m.2.1<=3/\0<=m.2.2.1/\m.2.2.1<=6/\0<=m.2.2.2/\m.2.2.2<=1073741824
 ep:0<=s.epoch/\s.epoch<=1073741824
theorem Zq8 {n a b:Int}:numB n a b=true ↔ a<=n/\n<=b:=by simp [numB]
theorem Zpq {fs:List FileM} {i:Nat} {f:FileM}:fileN fs i f=0 ↔ (isE0 f=true \/ (findN fs f.1=some i/\1<=f.2.1/\f.2.1<=1073741824/\f.2.2.size<=24)):=by
 unfold fileN Zle
 by_cases h0:isE0 f=true
 ·simp [h0]
 ·rw [if_neg h0]
  by_cases h1:findN fs f.1=some i
  ·rw [if_pos h1]
   by_cases h2:(numB f.2.1 1 1073741824 && decide (f.2.2.size<=24))=true
   ·rw [if_pos h2]
    simp only [Bool.and_eq_true,Zq8,decide_eq_true_eq] at h2
    simp [h0,h1,h2]
   ·rw [if_neg h2]
    simp only [Bool.and_eq_true,Zq8,decide_eq_true_eq] at h2
    constructor
    ·intro h;cases h
    ·rintro (h | h)
     ·exact absurd h h0
     ·exact absurd ⟨⟨h.2.1,h.2.2.1⟩,h.2.2.2⟩ h2
  ·rw [if_neg h1]
   simp [h0,h1]
theorem markB_iff {m:MarkM}:markB m=true ↔ 0<=m.1/\m.1<=1073741824/\0<=m.2.1/\m.2.1<=3/\0<=m.2.2.1/\m.2.2.1<=6/\0<=m.2.2.2/\m.2.2.2<=1073741824:=by
 simp only [markB,Bool.and_eq_true,Zq8]
 constructor
 ·rintro ⟨⟨a,b⟩,⟨c,d⟩,⟨e,f⟩,g,h⟩;exact ⟨a,b,c,d,e,f,g,h⟩
 ·rintro ⟨a,b,c,d,e,f,g,h⟩;exact ⟨⟨a,b⟩,⟨c,d⟩,⟨e,f⟩,g,h⟩
theorem mayS_iff {s:StM}:mustN s=0 ↔ MayS s:=by
 unfold mustN
 constructor
 ·intro h
  split at h
  ·rename_i hl
   split at h
   ·rename_i hf
    split at h
    ·rename_i hm
     simp only [Bool.and_eq_true,Zq8,List.all_eq_true] at hm
     refine ⟨hl.1,hl.2,fun j hj=>Zpq.1 ?_,fun m hm'=>markB_iff.1 (hm.1 m hm'),hm.2⟩
     have:=(Zh4 s.files s.files 0).1 hf j hj
     simpa using this
    ·cases h
   ·omega
  ·cases h
 ·intro h
  rw [if_pos ⟨h.fl,h.ml⟩,if_pos,if_pos]
  ·simp only [Bool.and_eq_true,Zq8,List.all_eq_true]
   exact ⟨fun m hm=>markB_iff.2 (h.mv m hm),h.ep⟩
  ·refine (Zh4 s.files s.files 0).2 fun j hj=>Zpq.2 ?_
   simpa using h.fv j hj
theorem Zgq {s:StM}:mayS s=true ↔ MayS s:=by rw [<- mayS_iff];simp [mayS]

theorem Zut:MayS newS:=by
 refine ⟨rfl,rfl,fun j hj=>.inl ?_,fun m hm=>?_,by simp [newS]⟩
 ·have:newS.files[j] ∈ newS.files:=List.getElem_mem hj
  rw [(List.mem_replicate.1 this).2]
  exact Zuw
 ·simp only [newS] at hm
  obtain ⟨_,rfl⟩:=List.mem_replicate.1 hm
  simp
theorem may_boot {s:StM} (h:MayS s):MayS (bootS s):=⟨h.fl,h.ml,h.fv,h.mv,by have:=h.ep;simp only [bootS];omega⟩
theorem may_put {l:List MarkM} (hl:∀ m ∈ l,0<=m.1/\m.1<=1073741824/\0<=m.2.1/\m.2.1<=3/\0<=m.2.2.1/\m.2.2.1<=6/\0<=m.2.2.2/\m.2.2.2<=1073741824) (c:Int) {m:MarkM} (hm:0<=m.1/\m.1<=1073741824/\0<=m.2.1/\m.2.1<=3/\0<=m.2.2.1/\m.2.2.1<=6/\0<=m.2.2.2/\m.2.2.2<=1073741824) :
  ∀ x ∈ putMk l c m,0<=x.1/\x.1<=1073741824/\0<=x.2.1/\x.2.1<=3/\0<=x.2.2.1/\x.2.2.1<=6/\0<=x.2.2.2/\x.2.2.2<=1073741824:=by
 intro x hx
 unfold putMk at hx
 split at hx
 ·rcases List.mem_or_eq_of_mem_set hx with h | rfl
  ·exact hl x h
  ·exact hm
 ·exact hl x hx
theorem put_len (l:List MarkM) (c:Int) (m:MarkM):(putMk l c m).length=l.length:=by
 unfold putMk
 split <;> simp
theorem Zs9 {a b:ByteArray} (h:a.toList=b.toList):a=b:=by
 apply ByteArray.ext
 apply Array.toList_inj.1
 rwa [ByteArray.toList_eq,ByteArray.toList_eq] at h
theorem Zsj {s:ByteArray} {f:FileM}:isN s f=true ↔ f.1=s:=by
 unfold isN
 rw [beq_iff_eq]
 exact ⟨Zs9,fun h=>by rw [h]⟩
theorem isN_no {s:ByteArray} {f:FileM}:isN s f=false ↔ f.1 ≠ s:=by
 rw [<- Bool.not_eq_true,Zsj]
theorem okN_ne {s:ByteArray} (h:okN s=true):s ≠ e0:=by
 rintro rfl
 exact absurd h (by decide)
theorem Zn0 {f:FileM} (h:isE0 f=true):f.1=e0:=by
 simp only [isE0,Bool.and_eq_true,beq_iff_eq] at h
 exact Zs9 (by rw [h.1,Zu3])
theorem Zux {f:FileM} (h:isE0 f=true):f=f00:=by
 have hn:=Zn0 h
 simp only [isE0,Bool.and_eq_true,beq_iff_eq,decide_eq_true_eq] at h
 have hb:f.2.2=e0:=Zs9 (by rw [h.2.2,Zu3])
 exact Prod.ext hn (Prod.ext h.2.1 hb)
theorem Zgl {fs:List FileM} {s:ByteArray} {i:Nat}:findN fs s=some i ↔ okN s=true/\∃ h:i < fs.length,fs[i].1=s/\∀ j (hj:j < i),fs[j].1 ≠ s:=by
 unfold findN
 split
 ·rename_i h
  rw [List.findIdx?_eq_some_iff_getElem]
  constructor
  ·rintro ⟨h1,h2,h3⟩
   exact ⟨h,h1,Zsj.1 h2,fun j hj e=>h3 j hj (Zsj.2 e)⟩
  ·rintro ⟨_,h1,h2,h3⟩
   exact ⟨h1,Zsj.2 h2,fun j hj e=>h3 j hj (Zsj.1 e)⟩
 ·rename_i h
  simp [h]
theorem may_set {s:StM} (h:MayS s) {i:Nat} (hi:i < s.files.length) {f:FileM} (hf:isE0 f=true \/ (okN f.1=true/\1<=f.2.1/\f.2.1<=1073741824/\f.2.2.size<=24)) (hu:∀ j (hj:j < s.files.length),j ≠ i->s.files[j].1=f.1->isE0 f=true) :
  ∀ j (hj:j < (s.files.set i f).length),isE0 (s.files.set i f)[j]=true \/ (findN (s.files.set i f) (s.files.set i f)[j].1=some j/\1<=(s.files.set i f)[j].2.1/\(s.files.set i f)[j].2.1<=1073741824/\(s.files.set i f)[j].2.2.size<=24):=by
 intro j hj
 have hj':j < s.files.length:=by simpa using hj
 by_cases hji:i=j
 ·subst hji
  simp only [List.getElem_set_self]
  rcases hf with hf | ⟨h1,h2,h3,h4⟩
  ·exact .inl hf
  ·refine .inr ⟨Zgl.2 ⟨h1,by simpa using hi,by simp,fun k hk=>?_⟩,h2,h3,h4⟩
   rw [List.getElem_set_ne (by omega)]
   intro e
   have:=Zn0 (hu k (by omega) (by omega) e)
   exact okN_ne h1 this
 ·simp only [List.getElem_set_ne hji]
  rcases h.fv j hj' with h0 | ⟨h1,h2⟩
  ·exact .inl h0
  ·refine .inr ⟨?_,h2⟩
   obtain ⟨ho,h3,h4,h5⟩:=Zgl.1 h1
   refine Zgl.2 ⟨ho,by simpa using hj',by rw [List.getElem_set_ne hji],fun k hk=>?_⟩
   by_cases hki:i=k
   ·subst hki
    rw [List.getElem_set_self]
    intro e
    have:=Zn0 (hu j hj' (by omega) e.symm)
    exact okN_ne ho (by rw [<- e,this])
   ·rw [List.getElem_set_ne hki]
    exact h5 k hk
theorem Zje {s:StM} (h:MayS s) (c:Int) {m:MarkM} (hm:0<=m.1/\m.1<=1073741824/\0<=m.2.1/\m.2.1<=3/\0<=m.2.2.1/\m.2.2.1<=6/\0<=m.2.2.2/\m.2.2.2<=1073741824):MayS (Za9 s c m 0 f00) :=
 ⟨h.fl,by simp only [Za9,put_len];exact h.ml,h.fv,may_put h.mv c hm,h.ep⟩
theorem Zqt {s:StM} (h:MayS s) (c:Int) {m:MarkM} (hm:0<=m.1/\m.1<=1073741824/\0<=m.2.1/\m.2.1<=3/\0<=m.2.2.1/\m.2.2.1<=6/\0<=m.2.2.2/\m.2.2.2<=1073741824)
  {i:Nat} (hi:i < s.files.length) {f:FileM} (hf:isE0 f=true \/ (okN f.1=true/\1<=f.2.1/\f.2.1<=1073741824/\f.2.2.size<=24)) (hu:∀ j (hj:j < s.files.length),j ≠ i->s.files[j].1=f.1->isE0 f=true):MayS (Za9 s c m ((i:Int)+1) f):=by
 have hx:Za9 s c m ((i:Int)+1) f=⟨s.files.set i f,putMk s.marks c m,s.epoch⟩:=by
  simp only [Za9,if_pos (show (0:Int) < (i:Int)+1 by omega),show ((i:Int)+1).toNat - 1=i by omega]
 rw [hx]
 exact ⟨by simpa using h.fl,by rw [put_len];exact h.ml,may_set h hi hf hu,may_put h.mv c hm,h.ep⟩
theorem may_open {s:StM} (h:MayS s) (c q:Int) (name:ByteArray) (h0:0<=q) (h1:q<=1073741824):MayS (openS s c q name).1:=by
 unfold openS
 split
 ·rename_i ho
  split
  ·rename_i i hf
   obtain ⟨h2,h3,_⟩:=List.findIdx?_eq_some_iff_getElem.1 hf
   have hg:s.files.getD i f00=s.files[i]:=by simp [List.getD,h2]
   have hi6:i < 6:=by rw [<- h.fl];exact h2
   have hv:0<=s.files[i].2.1/\s.files[i].2.1<=1073741824:=by
    rcases h.fv i h2 with h4 | h4
    ·rw [Zux h4];simp [f00]
    ·omega
   rw [hg]
   exact Zje h c (by simp only;omega)
  ·rename_i hf
   rw [List.findIdx?_eq_none_iff] at hf
   split
   ·rename_i i hr
    obtain ⟨h2,h3,_⟩:=List.findIdx?_eq_some_iff_getElem.1 hr
    have hi6:i < 6:=by rw [<- h.fl];exact h2
    refine Zqt h c (by simp only;omega) h2 (.inr ⟨ho,by simp,by simp,by simp only [e0];decide⟩) fun j hj _ e=>?_
    exact absurd e (isN_no.1 (hf _ (List.getElem_mem hj)))
   ·exact Zje h c (by simp only;omega)
 ·exact Zje h c (by simp only;omega)
theorem own_name {s:StM} (h:MayS s) {i:Nat} (hi:i < s.files.length) (hn:s.files[i].1 ≠ e0):(okN s.files[i].1=true/\1<=s.files[i].2.1/\s.files[i].2.1<=1073741824/\s.files[i].2.2.size<=24)/\∀ j (hj:j < s.files.length),j ≠ i->s.files[j].1 ≠ s.files[i].1:=by
 rcases h.fv i hi with h0 | ⟨h1,h2⟩
 ·exact absurd (Zn0 h0) hn
 ·obtain ⟨ho,_,_,h5⟩:=Zgl.1 h1
  refine ⟨⟨ho,h2⟩,fun j hj hji e=>?_⟩
  rcases Nat.lt_or_ge j i with hlt | hge
  ·exact h5 j hlt e
  ·rcases h.fv j hj with h0 | ⟨h3,_⟩
   ·exact hn (by rw [<- e];exact Zn0 h0)
   ·obtain ⟨_,_,_,h6⟩:=Zgl.1 h3
    exact h6 i (by omega) e.symm
theorem isF_ex {s:StM} {file:Int} (h:isF s file=true):∃ i:Nat,∃ hi:i < s.files.length,file=(i:Int)+1/\s.files.getD (file.toNat - 1) f00=s.files[i]/\s.files[i].1 ≠ e0:=by
 simp only [isF,Bool.and_eq_true,decide_eq_true_eq,Bool.not_eq_true',beq_eq_false_iff_ne] at h
 obtain ⟨⟨h1,h2⟩,h3⟩:=h
 have hi:file.toNat - 1 < s.files.length:=by omega
 have hg:s.files.getD (file.toNat - 1) f00=s.files[file.toNat - 1]:=by simp [List.getD,hi]
 rw [hg] at h3
 exact ⟨file.toNat - 1,hi,by omega,hg,fun e=>h3 (by rw [e])⟩
theorem may_gone {s:StM} (h:MayS s) (c q file:Int) (h0:0<=q) (h1:q<=1073741824):MayS (goneS s c q file).1:=by
 unfold goneS
 split
 ·rename_i hF
  obtain ⟨i,hi,rfl,_,hn⟩:=isF_ex hF
  have hi6:i < 6:=by rw [<- h.fl];exact hi
  exact Zqt h c (by simp only;omega) hi (.inl Zuw) fun _ _ _ _=>Zuw
 ·exact Zje h c (by simp only;omega)
theorem may_flush {s:StM} (h:MayS s) (c q file:Int) (l:List (Int × ByteArray)) (h0:0<=q) (h1:q<=1073741824):MayS (Zda s c q file l).1:=by
 unfold Zda
 split
 ·rename_i hF
  split
  ·obtain ⟨i,hi,rfl,hg,hn⟩:=isF_ex hF
   have hi6:i < 6:=by rw [<- h.fl];exact hi
   rw [hg]
   obtain ⟨⟨ho,hv1,hv2,hb⟩,hu⟩:=own_name h hi hn
   have hbl:(bs (allW s.files[i].2.2.data.toList l)).size<=24:=by
    rw [Zwh]
    have:=Zs6 l s.files[i].2.2.data.toList
    have h2:s.files[i].2.2.data.toList.length=s.files[i].2.2.size:=by simp
    omega
   refine Zqt h c (by simp only [Zeb];omega) hi (.inr ⟨ho,by simp only [Zeb];omega,by simp only [Zeb];omega,hbl⟩) fun j hj hji e=>?_
   exact absurd e (hu j hj hji)
  ·exact Zje h c (by simp only;omega)
 ·exact Zje h c (by simp only;omega)
theorem MayS.st {s:StM} (h:MayS s):StOk s:=by
 refine ⟨by rw [h.fl];omega,by rw [h.ml];omega,fun f hf=>?_,by have:=h.ep;omega⟩
 obtain ⟨j,hj,rfl⟩:=List.getElem_of_mem hf
 rcases h.fv j hj with h0 | h1
 ·rw [Zux h0];simp only [f00,e0];decide
 ·omega
end Go.Proofs.YtefkakjegdjojaaGreat.sta
end
