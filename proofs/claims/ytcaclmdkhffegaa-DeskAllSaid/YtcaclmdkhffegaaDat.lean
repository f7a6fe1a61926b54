/- DeskAll by the symbolic engine. -/
import Derived.Test.YtcaclmdkhffegaaDbg
import Derived.Test.YtcaclmdkhffegaaDrn
import Derived.Test.YtcaclmdkhffegaaDpk
import Derived.Test.YtcaclmdkhffegaaDsa
import Derived.Test.YtcaclmdkhffegaaLsd
import Derived.Test.YtcaclmdkhffegaaWsw
import Derived.Test.YtcaclmdkhffegaaLea
import Derived.Test.YtcaclmdkhffegaaFroA
import Derived.Test.YtcaclmdkhffegaaEng33
import Derived.Test.YtcaclmdkhffegaaFrameB
namespace Go.Proofs.Ytcaclmdkhffegaa.deskAll
open Go Go.RowKit eng SX Fact fil lem lea grd
open pck (OkP encU)
open fileFronts (Zag rowU)
open lec (encN lenN)
open dsa (ESa toldSa RSa fSa)
open lsd (ESd toldSd RSd fSd)
open wsw (ESw Zsb RSw fSw)
open dkm (Desk DI askD giveD runD)
open ddk (EAk Zns RAk fAk EGv Zsd RGv fGv)
open drn (ERn Zno RRn fRn)
open ldk (EGi Zse RGi fGi EAs Zsh RAs fAs)
open lrf (ERd Zsc RRd fRd runQ)
open dpk (EDk Znr RDk fDk dkRun PD Znw)
open dix (encP Pr callsF Zst lenP r_eqP)
set_option linter.unusedVariables false
set_option linter.unusedSimpArgs false
set_option maxRecDepth 1000000

def hT (_:FuncId) (o:Oper):Option Hint:=match o.op with | .binOp .neq ..=>some .parts | _=>none
def tabA (f:FuncId):Option FnE:=cond (Nat.beq f 17) (some (EAk 1)) (cond (Nat.beq f 12) (some (EGv 2)) (cond (Nat.beq f 14) (some (ERn 3)) (cond (Nat.beq f 18) (some (EAs 4)) (cond (Nat.beq f 13) (some (EGi 5)) (cond (Nat.beq f 15) (some (ERd 6)) (cond (Nat.beq f 16) (some (ESw 7)) (cond (Nat.beq f 20) (some (ESd 9)) (cond (Nat.beq f 19) (some (ESa 10)) (cond (Nat.beq f 9) (some (ETrue 8)) none)))))))))
def tabAP (f:FuncId):Option PtrE:=cond (Nat.beq f 11) (some (EDk 24)) none
def orcA:Orc:=orcOr (orcFn tabA) (orcP tabAP)
noncomputable def flA:=flat (Zaw Try.prog 3)
noncomputable def lpA:=flat (Zai (nth flA 8))
noncomputable def bkA:=flat (Za9 (nth lpA 2))
noncomputable def swA:=flat (Za9 (nth bkA 5))
noncomputable def elA:=flat (elseC (nth swA 1))
noncomputable def ruA:=flat (thenC (nth elA 1))
noncomputable def lpN:=flat (Zai (nth ruA 6))
def dbox:BoxT:=⟨30,0,false,[.leaf,.leaf],none,false⟩
def wbox:BoxT:=⟨25,0,false,[.leaf,.leaf,.leaf,.leaf],none,false⟩
def sh0:Shape:=⟨[(0,.leaf),(1,.leaf),(2,.agg 4)],[],[some true,some false,none,none,none,none],224,3⟩
def shA:Shape:=⟨[(1,.leaf),(5,.ptr 0 0 0 0),(7,.ptr 1 0 0 0),(8,.leaf),(9,.ptr 2 0 0 0),(10,.leaf)],[wbox,dbox,dbox],[some false,none,none,none,none,none,none,some true,some true,some true,some true],224,3⟩
def shM:Shape:=⟨[(1,.leaf),(5,.ptr 0 0 0 0),(7,.ptr 1 0 0 0),(8,.leaf),(9,.ptr 2 0 0 0),(10,.leaf),(11,.leaf),(12,.leaf),(13,.ptr 3 0 0 0)],[wbox,dbox,dbox,wbox],[some false,none,none,none,none,none,none,none,none,some true,some true,some true,some true,none,none,none,none],224,3⟩
def shK:Shape:=⟨[(1,.leaf),(5,.ptr 0 0 0 0),(7,.ptr 1 0 0 0),(8,.leaf),(9,.ptr 2 0 0 0),(10,.leaf),(122,.leaf)],[wbox,dbox,dbox],[some false,none,none,none,none,none,none,none,some true,some true,some true,some true],224,3⟩
def shK1:Shape:=⟨[(1,.leaf),(5,.ptr 0 0 0 0),(7,.ptr 1 0 0 0),(8,.leaf),(9,.ptr 2 0 0 0),(10,.leaf),(122,.leaf),(157,.leaf)],[wbox,dbox,dbox],[some false,none,none,none,none,none,none,none,none,some true,some true,some true,some true],224,3⟩
def shK2:Shape:=⟨[(1,.leaf),(5,.ptr 0 0 0 0),(7,.ptr 1 0 0 0),(8,.leaf),(9,.ptr 2 0 0 0),(10,.leaf),(167,.leaf)],[wbox,dbox,dbox],[some false,none,none,none,none,none,none,none,some true,some true,some true,some true],224,3⟩
def shN:Shape:=⟨[(1,.leaf),(5,.ptr 0 0 0 0),(7,.ptr 1 0 0 0),(8,.leaf),(9,.ptr 2 0 0 0),(10,.leaf),(14,.ptr 3 0 0 0),(16,.leaf),(17,.ptr 4 0 0 0),(19,.leaf),(20,.leaf)],[wbox,dbox,dbox,dbox,dbox],[some false,none,none,some false,some false,none,none,none,none,none,some true,some true,some true,some true,some true,some true,some true,some true],224,3⟩
def shR:Shape:=⟨[(6,.leaf)],[],[none],224,3⟩
@[simp] def zDat1:SX:=.bin .add (.var 1) (.conv .i64 (.bin .rem (.cell (.var 0) (.var 2) 4 3) (.con (.int .u8 70))))
@[simp] def zDat2:SX:=.con (.int .i64 1)
@[simp] def zDat3:List SX:=[.var 11,.var 12,.var 1,.var 13,.var 14,.var 15,.var 16]
@[simp] def zDat4:List SX:=[.var 9,.var 10,.var 1,.var 13,.var 14,.var 15,.var 16]
@[simp] def zDat5:List SX:=[.var 0,.var 1,.var 2,.var 3,.var 4,.var 5,.var 6,.var 7,.var 8,.var 9,.var 10,.var 11,.var 12,.var 13,.var 14,.var 15,.var 16]
@[simp] def zDat6:SX:=.bin .eql (.var 2) (.bin .sub (.len (.var 0)) zDat2)
@[simp] def zDat7:SX:=.bin .rem (.cell (.var 0) (.var 2) 4 0) (.con (.int .u8 5))
@[simp] def zDat8:SX:=.bin .leq (.var 5) (.con (.int .i64 3))
@[simp] def zDat9:List SX:=[.con (.int .i64 25),.var 0,.con (.int .i64 0)]
@[simp] def Zph:SX:=.bin .add zDat2 (.conv .i64 (.bin .rem (.cell (.var 0) (.var 2) 4 1) (.con (.int .u8 3))))
@[simp] def Zpg:SX:=.bin .add zDat2 (.conv .i64 (.bin .rem (.cell (.var 0) (.var 2) 4 2) (.con (.int .u8 3))))
@[simp] def Zf6:SX:=.bin .geq (.var 5) zDat2
@[simp] def Zho:Fact:=.ok (.bin .sub (.len (.var 0)) zDat2)
@[simp] def Zf5:SX:=.bin .eql (.var 8) zDat2
@[simp] def Zke:SX:=.bin .eql (.var 8) (.con (.int .i64 2))
@[simp] def Zkd:SX:=.bin .leq (.var 7) (.con (.int .i64 6))
@[simp] def Ztk:SX:=.bin .rem (.cell (.var 0) (.var 2) 4 3) (.con (.int .u8 2))
@[simp] def Znn:SX:=.bin .gtr (.len (.var 0)) (.con (.int .i64 100))
@[simp] def Zih:SX:=.bin .geq (.var 7) zDat2
@[simp] def Zd6:Fact:=.ok (.len (.var 0))
@[simp] def Zhn:Fact:=.idx (.var 0) (.var 2) 4 4
@[simp] def Ztj:List SX:=[.var 0,.var 1,.var 2,.var 3,.var 4,.var 5,.var 6,.var 7,.var 8,.var 9,.var 10]
@[simp] def zDat23:SX:=rop ROp.notB [rop ROp.allB [rop ROp.eqI [.cell (.var 3) (.var 5) 2 0,.cell (.var 4) (.var 5) 2 0],rop ROp.eqI [.cell (.var 3) (.var 5) 2 1,.cell (.var 4) (.var 5) 2 1]]]
@[simp] def Zbs:Fact:=.ok (.var 6)
@[simp] def Zkc:List SX:=[.var 10,.var 11,zDat1]
@[simp] def Zbz:Fact:=.ok (.var 5)
@[simp] def Znm:SX:=.bin .eql zDat7 (.con (.int .u8 0))
@[simp] def Zb8:Fact:=.ok (.var 2)
@[simp] def Zcc:Fact:=.ok (.var 1)
@[simp] def Zkb:List SX:=[.var 8,.var 9,zDat1]
@[simp] def zDat31:List SX:=[.var 0,.var 1,.var 2,.var 3,.var 4,.var 5,.var 6,.var 7,.var 8,.var 9,.var 10,.var 11,.var 12,.var 5,.var 6,.var 7,.var 8]
@[simp] def Zig:Fact:=.is zDat6 (.bool true)
@[simp] def Zcj:Fact:=.ok (.var 7)
@[simp] def Zr9:SX:=.bin .gtr (.len (.var 1)) (.con (.int .i64 15))
@[simp] def Zka:Fact:=.is Zf6 (.bool true)
@[simp] def Zcs:Fact:=.ok (.var 8)
@[simp] def zDat37:List SX:=[.var 0,.var 1,.var 2,.var 5,.var 6,.var 7,.var 8,.fn 1 zDat4 0,.fn 1 zDat4 1,.fn 4 zDat3 0,.fn 4 zDat3 1]
@[simp] def Zr8:SX:=.bin .neq (.fn 1 zDat4 4) (.fn 4 zDat3 4)
@[simp] def Zc4:Fact:=.ok (.var 4)
@[simp] def Zdh:Fact:=.ok (.var 3)
@[simp] def Zlb:Fact:=.is zDat8 (.bool true)
@[simp] def Zr7:SX:=.bin .eql zDat7 (.con (.int .u8 1))
@[simp] def Zr6:SX:=.bin .lss (.var 2) (.len (.var 0))
@[simp] def Zr5:SX:=.bin .lss (.var 5) (.len (.var 4))
@[simp] def Zr4:Fact:=.ok (.cell (.var 0) (.var 2) 4 0)
@[simp] def Zj9:SX:=.con (.bool true)
@[simp] def Zr3:List SX:=[.fn 1 zDat4 3,.fn 4 zDat3 3]
@[simp] def Zti:SX:=.bin .add (.con (.int .i64 100)) (.var 2)
@[simp] def Zr2:SX:=.cell (.var 0) (.var 2) 4 3
@[simp] def Zr1:Fact:=.idx (.var 0) (.var 2) 4 1
@[simp] def Zth:SX:=.bin .add zDat2 (.conv .i64 Ztk)
@[simp] def Ztg:List SX:=[.var 11,.var 12,.var 3,.var 4]
@[simp] def Zr0:Fact:=.is Zf5 (.bool false)
@[simp] def Ztf:List SX:=[.var 9,.var 10,.var 3,.var 4]
@[simp] def zDat55:SX:=.bin .rem (.cell (.var 0) (.var 2) 4 1) (.con (.int .u8 3))
@[simp] def zDat56:SX:=.bin .rem (.cell (.var 0) (.var 2) 4 2) (.con (.int .u8 3))
@[simp] def Zrz:Fact:=.is Zih (.bool true)
@[simp] def zDat58:SX:=.bin .neq (.len (.fn 3 Zkb 3)) (.len (.fn 6 Zkc 3))
@[simp] def Zj8:Fact:=.ok (.var 13)
@[simp] def Zj7:Fact:=.ok (.var 14)
@[simp] def Zj6:Fact:=.ok (.var 15)
@[simp] def Zj5:Fact:=.ok (.var 16)
theorem q1:segTo Try.prog orcA 10000 flA sh0 [1,1] shR []=some (.ret,[.fn 9 (ETrue 8) [],.is (.fn 8 [] 0) (.bool true),Zd6,.ok Znn,.is Znn (.bool true),.ok Zj9],[Zj9]):=by kernel_rfl
theorem q2:segTo Try.prog orcA 10000 flA sh0 [1,0,1] shR []=some (.ret,[.fn 9 (ETrue 8) [],.is (.fn 8 [] 0) (.bool true),Zd6,.ok Znn,.is Znn (.bool false),.ok (.len (.var 1)),.ok Zr9,.is Zr9 (.bool true),.ok Zj9],[Zj9]):=by kernel_rfl
theorem pre:segTo Try.prog orcA 10000 (flA.take 8) sh0 [1,0,0] shA [(2,0),(7,0),(8,0)]=some (.normal,[.fn 9 (ETrue 8) [],.is (.fn 8 [] 0) (.bool true),Zd6,.ok Znn,.is Znn (.bool false),.ok (.len (.var 1)),.ok Zr9,.is Zr9 (.bool false),.fp 11 (EDk 24) zDat9,.ok (.fn 24 zDat9 2),.ok (.fn 24 zDat9 4),.ok (.fn 24 zDat9 2),.ok (.con (.int .i64 0)),Zb8,Zdh,Zc4,Zbz],[.var 1,.fn 24 zDat9 2,.con (.int .i64 0),.var 2,.var 3,.var 4,.var 5,.fn 24 zDat9 0,.fn 24 zDat9 1,.fn 24 zDat9 0,.fn 24 zDat9 1]):=by kernel_rfl
theorem hd:segTo Try.prog orcA 10000 (lpA.take 2) shA [1] shA [(0,0),(1,0),(2,0)]=some (.normal,[Zd6,.ok Zr6,.is Zr6 (.bool true),Zcc,Zb8,Zdh,Zc4,Zbz,Zbs],Ztj):=by kernel_rfl
theorem ex:segTo Try.prog orcA 10000 lpA shA [0] shA [(0,0),(1,0),(2,0)]=some (.exit 0,[Zd6,.ok Zr6,.is Zr6 (.bool false),Zcc,Zb8,Zdh,Zc4,Zbz,Zbs],Ztj):=by kernel_rfl
theorem md:segTo Try.prog orcA 10000 (bkA.take 2) shA [] shM [(0,0),(1,0),(2,0),(8,0)]=some (.normal,[Zhn,.idx (.var 0) (.var 2) 4 2,.ok (.cell (.var 0) (.var 2) 4 1),.ok zDat55,.ok (.conv .i64 zDat55),.ok Zph,Zhn,.idx (.var 0) (.var 2) 4 3,.ok (.cell (.var 0) (.var 2) 4 2),.ok zDat56,.ok (.conv .i64 zDat56),.ok Zpg,.ok Zti,Zhn,Zhn,.ok Zr2,.ok Ztk,.ok (.conv .i64 Ztk),.ok Zth,Zcc,Zb8,.ok Zph,.ok Zpg,Zdh,Zc4,Zbz,Zbs,.ok Zph,.ok Zti,.ok Zpg,.ok Zth],[.var 0,.var 1,.var 2,Zph,Zpg,.var 3,.var 4,.var 5,.var 6,.var 7,.var 8,.var 9,.var 10,Zph,Zti,Zpg,Zth]):=by kernel_rfl
theorem wA:segTo Try.prog orcA 10000 ((bkA.drop 2).take 2) shM [0] shM [(0,0),(1,0),(2,0),(3,0)]=some (.normal,[Zd6,Zho,.ok zDat6,.is zDat6 (.bool false),Zcc,Zb8,Zdh,Zc4,Zbz,Zbs,Zcj,Zcs,Zj8,Zj7,Zj6,Zj5],zDat5):=by kernel_rfl
theorem wB:segTo Try.prog orcA 10000 ((bkA.drop 2).take 2) shM [1,0] shM [(0,0),(1,0),(2,0),(3,0)]=some (.normal,[Zd6,Zho,.ok zDat6,Zig,.ok Zf6,.is Zf6 (.bool false),Zcc,Zb8,Zdh,Zc4,Zbz,Zbs,Zcj,Zcs,Zj8,Zj7,Zj6,Zj5],zDat5):=by kernel_rfl
theorem wC:segTo Try.prog orcA 10000 ((bkA.drop 2).take 2) shM [1,1,0] shM [(0,0),(1,0),(2,0),(3,0)]=some (.normal,[Zd6,Zho,.ok zDat6,Zig,.ok Zf6,Zka,.ok zDat8,.is zDat8 (.bool false),Zcc,Zb8,Zdh,Zc4,Zbz,Zbs,Zcj,Zcs,Zj8,Zj7,Zj6,Zj5],zDat5):=by kernel_rfl
theorem wD:segTo Try.prog orcA 10000 ((bkA.drop 2).take 2) shM [1,1,1,0,0] shM [(0,0),(1,0),(2,0),(3,0)]=some (.normal,[Zd6,Zho,.ok zDat6,Zig,.ok Zf6,Zka,.ok zDat8,Zlb,.ok Zf5,Zr0,.ok Zke,.is Zke (.bool false),Zcc,Zb8,Zdh,Zc4,Zbz,Zbs,Zcj,Zcs,Zj8,Zj7,Zj6,Zj5],zDat5):=by kernel_rfl
theorem wE1:segTo Try.prog orcA 10000 ((bkA.drop 2).take 2) shM [1,1,1,1,0] shM [(0,0),(1,0),(2,0),(3,0)]=some (.normal,[Zd6,Zho,.ok zDat6,Zig,.ok Zf6,Zka,.ok zDat8,Zlb,.ok Zf5,.is Zf5 (.bool true),.ok Zih,.is Zih (.bool false),Zcc,Zb8,Zdh,Zc4,Zbz,Zbs,Zcj,Zcs,Zj8,Zj7,Zj6,Zj5],zDat5):=by kernel_rfl
theorem wE2:segTo Try.prog orcA 10000 ((bkA.drop 2).take 2) shM [1,1,1,1,1,0] shM [(0,0),(1,0),(2,0),(3,0)]=some (.normal,[Zd6,Zho,.ok zDat6,Zig,.ok Zf6,Zka,.ok zDat8,Zlb,.ok Zf5,.is Zf5 (.bool true),.ok Zih,Zrz,.ok Zkd,.is Zkd (.bool false),Zcc,Zb8,Zdh,Zc4,Zbz,Zbs,Zcj,Zcs,Zj8,Zj7,Zj6,Zj5],zDat5):=by kernel_rfl
theorem wE3:segTo Try.prog orcA 10000 ((bkA.drop 2).take 2) shM [1,1,1,1,1,1] shM [(0,0),(1,0),(2,0),(3,0)]=some (.normal,[Zd6,Zho,.ok zDat6,Zig,.ok Zf6,Zka,.ok zDat8,Zlb,.ok Zf5,.is Zf5 (.bool true),.ok Zih,Zrz,.ok Zkd,.is Zkd (.bool true),Zcc,Zb8,Zdh,Zc4,Zbz,Zbs,Zcj,Zcs,Zbz,Zbs,Zcj,Zcs],zDat31):=by kernel_rfl
theorem wF1:segTo Try.prog orcA 10000 ((bkA.drop 2).take 2) shM [1,1,1,0,1,0] shM [(0,0),(1,0),(2,0),(3,0)]=some (.normal,[Zd6,Zho,.ok zDat6,Zig,.ok Zf6,Zka,.ok zDat8,Zlb,.ok Zf5,Zr0,.ok Zke,.is Zke (.bool true),.ok Zih,.is Zih (.bool false),Zcc,Zb8,Zdh,Zc4,Zbz,Zbs,Zcj,Zcs,Zj8,Zj7,Zj6,Zj5],zDat5):=by kernel_rfl
theorem wF2:segTo Try.prog orcA 10000 ((bkA.drop 2).take 2) shM [1,1,1,0,1,1,0] shM [(0,0),(1,0),(2,0),(3,0)]=some (.normal,[Zd6,Zho,.ok zDat6,Zig,.ok Zf6,Zka,.ok zDat8,Zlb,.ok Zf5,Zr0,.ok Zke,.is Zke (.bool true),.ok Zih,Zrz,.ok Zkd,.is Zkd (.bool false),Zcc,Zb8,Zdh,Zc4,Zbz,Zbs,Zcj,Zcs,Zj8,Zj7,Zj6,Zj5],zDat5):=by kernel_rfl
theorem wF3:segTo Try.prog orcA 10000 ((bkA.drop 2).take 2) shM [1,1,1,0,1,1,1] shM [(0,0),(1,0),(2,0),(3,0)]=some (.normal,[Zd6,Zho,.ok zDat6,Zig,.ok Zf6,Zka,.ok zDat8,Zlb,.ok Zf5,Zr0,.ok Zke,.is Zke (.bool true),.ok Zih,Zrz,.ok Zkd,.is Zkd (.bool true),Zcc,Zb8,Zdh,Zc4,Zbz,Zbs,Zcj,Zcs,Zbz,Zbs,Zcj,Zcs],zDat31):=by kernel_rfl
theorem sG:segTo Try.prog orcA 10000 ((bkA.drop 4).take 2) shM [1] shA [(0,0),(1,0),(2,0)]=some (.normal,[Zhn,Zr1,Zr4,.ok zDat7,.ok Znm,.is Znm (.bool true),.fn 12 (EGv 2) Ztf,.fn 13 (EGi 5) Ztg,Zcc,Zb8,Zbz,Zbs,Zcj,Zcs],[.var 0,.var 1,.var 2,.var 5,.var 6,.var 7,.var 8,.fn 2 Ztf 0,.fn 2 Ztf 1,.fn 5 Ztg 0,.fn 5 Ztg 1]):=by kernel_rfl
theorem sA0:segTo Try.prog orcA 10000 ((bkA.drop 4).take 2) shM [0,0,0,0,0,1] shA [(0,0),(1,0),(2,0)]=some (.normal,[Zhn,Zr1,Zr4,.ok zDat7,.ok Znm,.is Znm (.bool false),.ok Zr7,.is Zr7 (.bool false),.fn 17 (EAk 1) zDat4,.ok (.fn 1 zDat4 2),.ok (.fn 1 zDat4 4),.is (.fn 1 zDat4 2) (.bool false),.fn 18 (EAs 4) zDat3,.ok (.fn 4 zDat3 2),.ok (.fn 4 zDat3 4),.is (.fn 4 zDat3 2) (.bool false),.ok Zr8,.is Zr8 (.bool false),.fn 19 (ESa 10) Zr3,.is (.fn 10 Zr3 0) (.bool true),Zcc,Zb8,Zbz,Zbs,Zcj,Zcs],zDat37):=by kernel_rfl
theorem sA1:segTo Try.prog orcA 10000 ((bkA.drop 4).take 2) shM [0,0,1,1,0,1] shA [(0,0),(1,0),(2,0)]=some (.normal,[Zhn,Zr1,Zr4,.ok zDat7,.ok Znm,.is Znm (.bool false),.ok Zr7,.is Zr7 (.bool false),.fn 17 (EAk 1) zDat4,.ok (.fn 1 zDat4 2),.ok (.fn 1 zDat4 4),.is (.fn 1 zDat4 2) (.bool true),.fn 18 (EAs 4) zDat3,.ok (.fn 4 zDat3 2),.ok (.fn 4 zDat3 4),.is (.fn 4 zDat3 2) (.bool true),.ok Zr8,.is Zr8 (.bool false),.fn 19 (ESa 10) Zr3,.is (.fn 10 Zr3 0) (.bool true),Zcc,Zb8,Zbz,Zbs,Zcj,Zcs],zDat37):=by kernel_rfl
theorem rK:segTo Try.prog orcA 10000 ((bkA.drop 4).take 1) shM [] shK [(0,0),(1,0),(2,0)]=some (.normal,[Zhn,Zr1,Zr4,.ok zDat7,Zcc,Zb8,.ok zDat7,Zbz,Zbs,Zcj,Zcs],[.var 0,.var 1,.var 2,zDat7,.var 5,.var 6,.var 7,.var 8,.var 9,.var 10,.var 11,.var 12]):=by kernel_rfl
theorem rK1:segTo Try.prog orcA 10000 (swA.take 1) shK [0] shK1 [(0,0),(1,0),(2,0)]=some (.normal,[.ok (.bin .eql (.var 3) (.con (.int .u8 0))),.is (.bin .eql (.var 3) (.con (.int .u8 0))) (.bool false),Zcc,Zb8,Zdh,.ok (.con (.bool false)),Zc4,Zbz,Zbs,Zcj],[.var 0,.var 1,.var 2,.var 3,.con (.bool false),.var 4,.var 5,.var 6,.var 7,.var 8,.var 9,.var 10,.var 11]):=by kernel_rfl
theorem rK2:segTo Try.prog orcA 10000 (elA.take 1) shK1 [1] shK2 [(0,0),(1,0),(2,0)]=some (.normal,[.ok (.bin .eql (.var 3) (.con (.int .u8 1))),.is (.bin .eql (.var 3) (.con (.int .u8 1))) (.bool true),Zcc,Zb8,.ok Zj9,Zbz,Zbs,Zcj,Zcs],[.var 0,.var 1,.var 2,Zj9,.var 5,.var 6,.var 7,.var 8,.var 9,.var 10,.var 11,.var 12]):=by kernel_rfl
theorem rN:segTo Try.prog orcA 10000 (ruA.take 6) shK2 [1,0] shN [(0,0),(1,0),(2,0),(12,0),(17,0)]=some (.normal,[Zhn,Zhn,.ok Zr2,.ok (.bin .rem Zr2 (.con (.int .u8 70))),.ok (.conv .i64 (.bin .rem Zr2 (.con (.int .u8 70)))),.ok zDat1,.fn 14 (ERn 3) Zkb,.fn 15 (ERd 6) Zkc,.fn 16 (ESw 7) [.fn 3 Zkb 2,.fn 6 Zkc 2],.is (.fn 7 [.fn 3 Zkb 2,.fn 6 Zkc 2] 0) (.bool true),.ok (.len (.fn 3 Zkb 3)),.ok (.len (.fn 6 Zkc 3)),.ok zDat58,.is zDat58 (.bool false),.ok zDat1,Zb8,.ok (.con (.int .i64 0)),Zc4,Zbz,Zbs,Zcj],[.var 0,zDat1,.var 2,.fn 3 Zkb 3,.fn 6 Zkc 3,.con (.int .i64 0),.var 4,.var 5,.var 6,.var 7,.var 8,.var 9,.var 10,.var 11,.fn 3 Zkb 0,.fn 3 Zkb 1,.fn 6 Zkc 0,.fn 6 Zkc 1]):=by kernel_rfl
theorem nx:segTo Try.prog orcA 10000 lpN shN [0] shN [(0,0),(1,0),(2,0),(3,0),(4,0)] hT=some (.exit 3,[.ok (.len (.var 4)),.ok Zr5,.is Zr5 (.bool false),Zcc,Zb8,Zbz,Zbs,Zcj,Zcs,.ok (.var 9)],[.var 0,.var 1,.var 2,.var 3,.var 4,.var 5,.var 6,.var 7,.var 8,.var 9,.var 10,.var 11,.var 12,.var 13,.var 14,.var 15,.var 16,.var 17]):=by kernel_rfl
theorem no:segTo Try.prog orcA 10000 lpN shN [1,0] shN [(0,0),(1,0),(2,0),(3,0),(4,0)] hT=some (.normal,[.ok (.len (.var 4)),.ok Zr5,.is Zr5 (.bool true),.idx (.var 3) (.var 5) 2 2,.idx (.var 3) (.var 5) 2 2,.ok (.cell (.var 3) (.var 5) 2 0),.ok (.cell (.var 3) (.var 5) 2 1),.idx (.var 4) (.var 5) 2 2,.idx (.var 4) (.var 5) 2 2,.ok (.cell (.var 4) (.var 5) 2 0),.ok (.cell (.var 4) (.var 5) 2 1),.ok zDat23,.is zDat23 (.bool false),.ok (.bin .add (.var 5) zDat2),Zcc,Zb8,.ok (.bin .add (.var 5) zDat2),Zbs,Zcj,Zcs,.ok (.var 9)],[.var 0,.var 1,.var 2,.var 3,.var 4,.bin .add (.var 5) zDat2,.var 6,.var 7,.var 8,.var 9,.var 10,.var 11,.var 12,.var 13,.var 14,.var 15,.var 16,.var 17]):=by kernel_rfl
theorem rE:segTo Try.prog orcA 10000 (ruA.drop 7) shN [] shA [(0,0),(1,0),(2,0)]=some (.normal,[Zcc,Zb8,Zbs,Zcj,Zcs,.ok (.var 9)],[.var 0,.var 1,.var 2,.var 6,.var 7,.var 8,.var 9,.var 14,.var 15,.var 16,.var 17]):=by kernel_rfl
theorem sd:segTo Try.prog orcA 10000 (bkA.drop 6) shA [1] shA [(0,0),(1,0),(2,0)]=some (.normal,[.fn 20 (ESd 9) [.var 7,.var 8,.var 9,.var 10],.is (.fn 9 [.var 7,.var 8,.var 9,.var 10] 0) (.bool true),Zcc,Zb8,Zdh,Zc4,Zbz,Zbs],Ztj):=by kernel_rfl
theorem stp:segTo Try.prog orcA 10000 (lpA.drop 3) shA [] shA [(0,0),(1,0),(2,0)]=some (.normal,[.ok (.bin .add (.var 2) zDat2),Zcc,.ok (.bin .add (.var 2) zDat2),Zdh,Zc4,Zbz,Zbs],[.var 0,.var 1,.bin .add (.var 2) zDat2,.var 3,.var 4,.var 5,.var 6,.var 7,.var 8,.var 9,.var 10]):=by kernel_rfl
theorem post:segTo Try.prog orcA 10000 (flA.drop 9) shA [] shR []=some (.ret,[.ok Zj9],[Zj9]):=by kernel_rfl
theorem pos4:0 < 4:=by decide
abbrev E4:=encK 4 pos4
theorem cutA:flA=flA.take 8++.block (Zah (nth flA 8)) (.loop (Zai (nth flA 8))) :: flA.drop 9:=by kernel_rfl
theorem cutL:lpA=lpA.take 2++.block (Zah (nth lpA 2)) (Za9 (nth lpA 2)) :: lpA.drop 3:=by kernel_rfl
theorem cutB:bkA=bkA.take 2++((bkA.drop 2).take 2++((bkA.drop 4).take 2++bkA.drop 6)):=by kernel_rfl
theorem cutB2:(bkA.drop 4).take 2=(bkA.drop 4).take 1++[.block (Zah (nth bkA 5)) (Za9 (nth bkA 5))]:=by kernel_rfl
theorem cutS:swA=swA.take 1++[.cond (condC (nth swA 1)) (thenC (nth swA 1)) (elseC (nth swA 1))]:=by kernel_rfl
theorem cutE:elA=elA.take 1++[.cond (condC (nth elA 1)) (thenC (nth elA 1)) (elseC (nth elA 1))]:=by kernel_rfl
theorem cutR:ruA=ruA.take 6++.block (Zah (nth ruA 6)) (.loop (Zai (nth ruA 6))) :: ruA.drop 7:=by kernel_rfl
theorem atS:Zsj shK1 (condC (nth swA 1))=some 4:=by kernel_rfl
theorem atE:Zsj shK2 (condC (nth elA 1))=some 3:=by kernel_rfl
def ELaw (k:Nat):FnE:={ k:=k,ins:=[none,none,some 4],leaks:=[true,false,false,false,false,false],outs:=[none],kinds:=[.truth] }
def RL (ps qs:List PV):Prop:=∃ (p:List Nat) (l:List (Nat->Nat)) (X:LeM),(∀ z ∈ p,z < 256)/\p.length<=9223372036854775807/\(∀ f ∈ l,∀ j,f j < 256)/\l.length<=9223372036854775807/\ps=[pRow encU p,pRow E4 l,pI X.1,pI X.2.1,pI X.2.2.1,pI X.2.2.2]/\qs=[pB true]
theorem fL:∀ ps q1 q2,RL ps q1->RL ps q2->q1=q2:=by
 rintro ps q1 q2 ⟨_,_,_,_,_,_,_,_,rfl⟩ ⟨_,_,_,_,_,_,_,_,rfl⟩;rfl
noncomputable def G:Fns:=fun k=>match k with | 1=>spec RAk | 2=>spec RGv | 3=>spec RRn | 4=>spec RAs | 5=>spec RGi | 6=>spec RRd | 7=>spec RSw | 8=>spec RTrue | 9=>spec RSd | 10=>spec RSa | 24=>spec RDk | _=>fun _=>none
theorem u1:ToldF 17 (EAk 1) (G 1):=Zns 1
theorem u2:ToldF 12 (EGv 2) (G 2):=Zsd 2
theorem u3:ToldF 14 (ERn 3) (G 3):=Zno 3
theorem u4:ToldF 18 (EAs 4) (G 4):=Zsh 4
theorem u5:ToldF 13 (EGi 5) (G 5):=Zse 5
theorem u6:ToldF 15 (ERd 6) (G 6):=Zsc 6
theorem u7:ToldF 16 (ESw 7) (G 7):=Zsb 7
theorem u8:ToldF 9 (ETrue 8) (G 8):=dkb.begunLit 8
theorem u9:ToldF 20 (ESd 9) (G 9):=toldSd 9
theorem u10:ToldF 19 (ESa 10) (G 10):=toldSa 10
theorem u24:ToldP 11 (EDk 24) (G 24):=Znr 24
theorem G1 {d:Desk} {s t c n f m:Int} (h:DI d s) (hs:s<=t) (h0:0<=t) (h1:t<=1000000) (hw:dkm.okW (c,n,f,m)):G 1 [pRow encL d.1,pRow encL d.2,pI t,pI c,pI n,pI f,pI m]=some [pRow encL (askD t d (c,n,f,m)).1.1,pRow encL (askD t d (c,n,f,m)).1.2,pB (askD t d (c,n,f,m)).2.1,pRow encN (askD t d (c,n,f,m)).2.2.1,pI (askD t d (c,n,f,m)).2.2.2] :=
 Zaj fAk ⟨d,t,(c,n,f,m),⟨by have:=h.len;omega,by have:=h.l4;omega,h0,h1⟩,(dkm.di_prune h hs).al.may,dkm.ok_lease hw h0 h1,h.u,rfl,rfl⟩
theorem G4 {d:Desk} {t c n f m:Int} (h:DI d t) (h0:0<=t) (h1:t<=1000000) (hw:dkm.okW (c,n,f,m)):G 4 [pRow encL d.1,pRow encL d.2,pI t,pI c,pI n,pI f,pI m]=some [pRow encL (askD t d (c,n,f,m)).1.1,pRow encL (askD t d (c,n,f,m)).1.2,pB (askD t d (c,n,f,m)).2.1,pRow encN (askD t d (c,n,f,m)).2.2.1,pI (askD t d (c,n,f,m)).2.2.2]:=by
 rw [<- dke.ask_eq h.al.may (by have:=h.len;omega) (dkm.ok_lease hw h0 h1)]
 exact Zaj fAs ⟨d,t,(c,n,f,m),⟨by have:=h.len;omega,by have:=h.l4;omega,h0,h1⟩,rfl,rfl⟩
theorem G2 {d:Desk} {t:Int} (h:DI d t) (c f:Int):G 2 [pRow encL d.1,pRow encL d.2,pI c,pI f]=some [pRow encL (giveD d c f).1,pRow encL (giveD d c f).2]:=Zaj fGv ⟨d,c,f,by have:=h.len;omega,by have:=h.l4;omega,rfl,rfl⟩
theorem G5 {d:Desk} {t:Int} (h:DI d t) (c f:Int):G 5 [pRow encL d.1,pRow encL d.2,pI c,pI f]=some [pRow encL (giveD d c f).1,pRow encL (giveD d c f).2]:=Zaj fGi ⟨d,c,f,by have:=h.len;omega,by have:=h.l4;omega,rfl,rfl⟩
theorem G3 {d:Desk} {s t:Int} (h:DI d s) (hs:s<=t) (h0:0<=t) (h1:t<=1000000):G 3 [pRow encL d.1,pRow encL d.2,pI t]=some [pRow encL (runD t d).1.1,pRow encL (runD t d).1.2,pRow encL (runD t d).2,pRow encP (callsF (dkm.clashW (runD t d).1 t) (runD t d).1.2 [])]:=Zaj fRn ⟨d,s,t,h,hs,h0,h1,rfl,rfl⟩
theorem G6 {d:Desk} {s t:Int} (h:DI d s) (hs:s<=t) (h0:0<=t) (h1:t<=1000000):G 6 [pRow encL d.1,pRow encL d.2,pI t]=some [pRow encL (runD t d).1.1,pRow encL (runD t d).1.2,pRow encL (runD t d).2,pRow encP (callsF (dkm.clashW (runD t d).1 t) (runD t d).1.2 [])]:=by
 obtain ⟨e1,e2⟩:=dpk.run_is h hs h0 h1
 have hD:=dkm.di_run h hs h0 h1
 have e3:(runQ t d).2.2=callsF (dkm.clashW (runD t d).1 t) (runD t d).1.2 []:=by
  rw [show (runQ t d).2.2=callsF (lrf.clQ (runQ t d).1 t) (runQ t d).1.2 [] from rfl,e1]
  congr 1
  funext w
  exact dke.clash_eq hD.al.may _ _ _ _
 rw [<- e3,<- e1,<- e2]
 exact Zaj fRd ⟨d,t,by have:=h.len;omega,by have:=h.l4;omega,h0,h1,rfl,rfl⟩
theorem G7 {l:List LeM} (h:l.length<=1000000):G 7 [pRow encL l,pRow encL l]=some [pB true]:=by
 have:=Zaj fSw ⟨l,l,h,h,rfl,rfl⟩
 rw [decide_eq_true rfl] at this
 exact this
theorem G8:G 8 []=some [pB true]:=Zaj fTrue ⟨rfl,rfl⟩
theorem G9 {d:Desk} (h1:d.1.length<=1000000) (h2:d.2.length<=1000000):G 9 [pRow encL d.1,pRow encL d.2,pRow encL d.1,pRow encL d.2]=some [pB true]:=by
 have:=Zaj fSd ⟨d.1,d.2,d.1,d.2,h1,h2,h1,h2,rfl,rfl⟩
 rw [decide_eq_true ⟨rfl,rfl⟩] at this
 exact this
theorem G10 {l:List Int} (h:l.length<=1000000):G 10 [pRow encN l,pRow encN l]=some [pB true]:=Zaj fSa ⟨l,h,rfl,rfl⟩
theorem G24 {p:List Nat} (h:OkP p 0) {R:PD} (hR:dkRun p 25 0 ⟨([],[]),0,0⟩=R):G 24 [pI 25,pRow encU p,pI 0]=some [pRow encL R.d.1,pRow encL R.d.2,pI R.t,pRow encU p,pI (R.n:Int)]:=by
 subst hR;exact Zaj fDk ⟨25,p,by omega,h,rfl,rfl⟩
theorem k1:(EAk 1).k=1:=rfl
theorem k2:(EGv 2).k=2:=rfl
theorem k3:(ERn 3).k=3:=rfl
theorem k4:(EAs 4).k=4:=rfl
theorem k5:(EGi 5).k=5:=rfl
theorem k6:(ERd 6).k=6:=rfl
theorem k7:(ESw 7).k=7:=rfl
theorem k9:(ESd 9).k=9:=rfl
theorem k10:(ESa 10).k=10:=rfl
theorem Zan:OrcOk Try.prog orcA:=Zev (Zae tabA) (Zhy tabAP)
theorem r_eqI (a b:Int):ropPV .eqI [pI a,pI b]=some (pB (a == b)):=by simp [ropPV]
theorem rallA:ropPV .allB [pB true,pB true]=some (pB true):=rfl
theorem rnotA (b:Bool):ropPV .notB [pB b]=some (pB (!b)):=rfl
theorem calls_len {cl:LeM->List Int} {K:Nat} (hK:∀ w,(cl w).length<=K):∀ (l:List LeM) (acc:List Pr),(callsF cl l acc).length<=acc.length+l.length * K
 | [],acc=>by simp [callsF]
 | w :: l,acc=>by
  have h1:=calls_len hK l (dix.addC w.2.2.1 (cl w) acc)
  have h2:=dix.addC_len w.2.2.1 (cl w) acc
  have h3:=hK w
  have h4:(w :: l).length * K=l.length * K+K:=by rw [List.length_cons,Nat.add_mul,Nat.one_mul]
  simp only [callsF]
  omega
theorem ask_calls {d:Desk} {t:Int} (h:DI d t) (w:LeM):(askD t d w).2.2.1.length<=18:=by
 unfold askD
 split
 ·simp
 ·split
  ·exact Nat.le_trans (lec.clash_len _ _ _ _ _) (dkm.di_prune h (Int.le_refl t)).len
  ·simp
abbrev stA (l:List (Nat->Nat)) (X:LeM) (d:Desk) (t:Int) (i:Nat):List PV:=[pRow E4 l,pI t,pI (i:Int),pI X.1,pI X.2.1,pI X.2.2.1,pI X.2.2.2,pRow encL d.1,pRow encL d.2,pRow encL d.1,pRow encL d.2]
abbrev stM (l:List (Nat->Nat)) (X:LeM) (d:Desk) (t:Int) (i:Nat) (c f:Int) (Y:LeM):List PV:=[pRow E4 l,pI t,pI (i:Int),pI c,pI f,pI X.1,pI X.2.1,pI X.2.2.1,pI X.2.2.2,pRow encL d.1,pRow encL d.2,pRow encL d.1,pRow encL d.2,pI Y.1,pI Y.2.1,pI Y.2.2.1,pI Y.2.2.2]
abbrev stN (l:List (Nat->Nat)) (X:LeM) (d:Desk) (t:Int) (i:Nat) (cs:List Pr) (k:Nat) (D:Desk):List PV:=[pRow E4 l,pI t,pI (i:Int),pRow encP cs,pRow encP cs,pI (k:Int),pI X.1,pI X.2.1,pI X.2.2.1,pI X.2.2.2,pRow encL d.1,pRow encL d.2,pRow encL d.1,pRow encL d.2,pRow encL D.1,pRow encL D.2,pRow encL D.1,pRow encL D.2]
set_option maxHeartbeats 8000000 in
theorem told (k0:Nat):ToldF 3 (ELaw k0) (spec RL):=by
 refine Zca G _ (Zaw Try.prog 3) Try.func3 (by kernel_rfl) sh0 (by kernel_rfl) ?_ ?_
 ·intro ps qs h
  obtain ⟨p,l,X,_,_,_,_,rfl,rfl⟩:=Zak h
  exact Zbp rfl
 ·intro C ps qs hF h a w hsh
  obtain ⟨p,l,X,hp,hpl,hz,hl,rfl,rfl⟩:=Zak h
  show wpL Try.prog flA _ a w
  have fin:∀ qs a1 w1,qs=[pB true]->Zaf C shR qs a1 w1->(AX.ret=.normal->wpL Try.prog [] (fun e a' w'=>(e=.normal \/ e=.ret)/\∃ sh' ps' es,Zaf C sh' ps' a' w'/\resTo Try.prog Try.f3 sh' (ELaw k0)=some es/\evs (fun i=>ps'[i]?) G es=some [pB true]) a1 w1)/\(AX.ret ≠ .normal->(AX.ret.to=.normal \/ AX.ret.to=.ret)/\∃ sh' ps' es,Zaf C sh' ps' a1 w1/\resTo Try.prog Try.f3 sh' (ELaw k0)=some es/\evs (fun i=>ps'[i]?) G es=some [pB true]):=by
   rintro qs a1 w1 rfl h1
   exact ⟨nofun,fun _=>⟨.inr rfl,shR,_,[SX.var 0],h1,by kernel_rfl,rfl⟩⟩
  by_cases hl1:100 < p.length
  ·rw [<- List.append_nil flA]
   refine Zad names_ok mixed_ok Zan q1 hsh ?_ (fun qs a1 w1 hq h1=>fin qs a1 w1 (by simp [evs,SX.ev] at hq;exact hq.symm) h1)
   simp [-Zag,Zab,Zaa,Base.ev,SX.ev,evs,Value.oneCell',hF,Zac,binPV,G8,u8]
   all_goals omega
  by_cases hl2:15 < l.length
  ·rw [<- List.append_nil flA]
   refine Zad names_ok mixed_ok Zan q2 hsh ?_ (fun qs a1 w1 hq h1=>fin qs a1 w1 (by simp [evs,SX.ev] at hq;exact hq.symm) h1)
   simp [-Zag,Zab,Zaa,Base.ev,SX.ev,evs,Value.oneCell',hF,Zac,binPV,G8,u8]
   all_goals omega
  have hok:OkP p 0:=⟨by omega,by omega,hp⟩
  have hPI:=Znw hok
  obtain ⟨R,hR⟩:∃ R,dkRun p 25 0 ⟨([],[]),0,0⟩=R:=⟨_,rfl⟩
  have g24:=G24 hok hR
  rw [hR] at hPI
  have hp0:=hPI.t0
  have hp1:=hPI.t1
  rw [cutA]
  refine Zad names_ok mixed_ok Zan pre hsh ?_ ?_
  ·simp [-Zag,Zab,Zaa,Base.ev,SX.ev,evs,Value.oneCell',hF,Zac,binPV,G8,u8,g24,u24]
   all_goals omega
  intro qs a1 w1 hq h1
  refine ⟨fun _=>?_,fun h=>absurd rfl h⟩
  simp [evs,SX.ev,hF,g24] at hq
  subst hq
  refine Zap (fun q' a w=>∃ (i:Nat) (d:Desk) (t:Int),i<=l.length/\q'=l.length - i/\DI d t/\0<=t/\t<=975+69 * (i:Int)/\Zaf C shA (stA l X d t i) a w) ?_ (n:=l.length) ⟨0,R.d,R.t,by omega,by omega,hPI.di,hp0,by omega,h1⟩
  clear hR g24 hPI hp0 hp1 h1
  rintro q' a w ⟨i,d,t,hi,rfl,hM,ht0,ht1,hin⟩
  show wpL Try.prog lpA _ a w
  by_cases hlt:i < l.length
  ·have hzi:=hz _ (List.getElem_mem hlt)
   have c0:Zbr (pRow E4 l) (pI (i:Int)) 4 0=some (pU (l[i] 0:Int)):=cellK 4 _ l i hlt 0 (by omega)
   have c1:Zbr (pRow E4 l) (pI (i:Int)) 4 1=some (pU (l[i] 1:Int)):=cellK 4 _ l i hlt 1 (by omega)
   have c2:Zbr (pRow E4 l) (pI (i:Int)) 4 2=some (pU (l[i] 2:Int)):=cellK 4 _ l i hlt 2 (by omega)
   have c3:Zbr (pRow E4 l) (pI (i:Int)) 4 3=some (pU (l[i] 3:Int)):=cellK 4 _ l i hlt 3 (by omega)
   have i1:=Zal E4 l i 4 1 .i64 rfl hlt (by decide)
   have i2:=Zal E4 l i 4 2 .i64 rfl hlt (by decide)
   have i3:=Zal E4 l i 4 3 .i64 rfl hlt (by decide)
   have i4:=Zal E4 l i 4 4 .i64 rfl hlt (by decide)
   have v3:IntKind.i64.wrap ((i:Int)+1)=(i:Int)+1:=wrapI _ (by omega) (by omega)
   have vh:IntKind.i64.wrap (100+(i:Int))=100+(i:Int):=wrapI _ (by omega) (by omega)
   have vl:IntKind.i64.wrap ((l.length:Int) - 1)=(l.length:Int) - 1:=wrapI _ (by omega) (by omega)
   generalize l[i]=f at *
   obtain ⟨x0,h0⟩:∃ x0:Nat,f 0 % 5=x0:=⟨_,rfl⟩
   obtain ⟨x1,h1'⟩:∃ x1:Nat,f 1 % 3=x1:=⟨_,rfl⟩
   obtain ⟨x2,h2'⟩:∃ x2:Nat,f 2 % 3=x2:=⟨_,rfl⟩
   obtain ⟨x3,h3'⟩:∃ x3:Nat,f 3 % 2=x3:=⟨_,rfl⟩
   obtain ⟨y3,h4'⟩:∃ y3:Nat,f 3 % 70=y3:=⟨_,rfl⟩
   have t0:(f 0:Int).tmod 5=(x0:Int):=by rw [<- h0];rfl
   have t1:(f 1:Int).tmod 3=(x1:Int):=by rw [<- h1'];rfl
   have t2:(f 2:Int).tmod 3=(x2:Int):=by rw [<- h2'];rfl
   have t3:(f 3:Int).tmod 2=(x3:Int):=by rw [<- h3'];rfl
   have t4:(f 3:Int).tmod 70=(y3:Int):=by rw [<- h4'];rfl
   have wx1:IntKind.i64.wrap (x1:Int)=(x1:Int):=wrapI _ (by omega) (by omega)
   have wx2:IntKind.i64.wrap (x2:Int)=(x2:Int):=wrapI _ (by omega) (by omega)
   have wx3:IntKind.i64.wrap (x3:Int)=(x3:Int):=wrapI _ (by omega) (by omega)
   have wy3:IntKind.i64.wrap (y3:Int)=(y3:Int):=wrapI _ (by omega) (by omega)
   have wc:IntKind.i64.wrap (1+(x1:Int))=1+(x1:Int):=wrapI _ (by omega) (by omega)
   have wf:IntKind.i64.wrap (1+(x2:Int))=1+(x2:Int):=wrapI _ (by omega) (by omega)
   have wm:IntKind.i64.wrap (1+(x3:Int))=1+(x3:Int):=wrapI _ (by omega) (by omega)
   have wt:IntKind.i64.wrap (t+(y3:Int))=t+(y3:Int):=wrapI _ (by omega) (by omega)
   have hx0:x0 < 5:=by omega
   have hx1:x1 < 3:=by omega
   have hx2:x2 < 3:=by omega
   have hx3:x3 < 2:=by omega
   have hy3:y3 < 70:=by omega
   clear h0 h1' h2' h3' h4' hzi
   obtain ⟨Q,hQ⟩:∃ Q:Exit->Act->World->Prop,Q=(fun e a' w'=>(e=.normal/\∃ n',n' < l.length - i/\∃ (j:Nat) (d:Desk) (t:Int),j<=l.length/\n'=l.length - j/\DI d t/\0<=t/\t<=975+69 * (j:Int)/\Zaf C shA (stA l X d t j) a' w') \/ (e=.exit (Zah (nth flA 8))/\wpL Try.prog (flA.drop 9) (fun e a' w'=>(e=.normal \/ e=.ret)/\∃ sh' ps' es,Zaf C sh' ps' a' w'/\resTo Try.prog Try.f3 sh' (ELaw k0)=some es/\evs (fun i=>ps'[i]?) G es=some [pB true]) a' w') \/ (e=.ret/\(((Exit.ret=.normal) \/ Exit.ret=.ret)/\∃ sh' ps' es,Zaf C sh' ps' a' w'/\resTo Try.prog Try.f3 sh' (ELaw k0)=some es/\evs (fun i=>ps'[i]?) G es=some [pB true]))):=⟨_,rfl⟩
   obtain ⟨QB,hQB⟩:∃ QB:Exit->Act->World->Prop,QB=(fun e a' w'=>(e=.normal/\wpL Try.prog (lpA.drop 3) Q a' w') \/ (e=.exit (Zah (nth lpA 2))/\wpL Try.prog (lpA.drop 3) Q a' w') \/ (e=.ret/\Q .ret a' w') \/ (∃ j,j ≠ (Zah (nth lpA 2))/\e=.exit j/\Q (.exit j) a' w') \/ (∃ ch,e=.panic ch/\Q (.panic ch) a' w')):=⟨_,rfl⟩
   have rest:∀ (D:Desk) (t2:Int),DI D t2->0<=t2->t2<=975+69 * ((i:Int)+1)->∀ a w,Zaf C shA (stA l X D t2 i) a w->wpL Try.prog (bkA.drop 6) QB a w:=by
    intro D t2 hM2 h20 h21 a w hin
    have hm2:=hM2.len
    have hm4:=hM2.l4
    have e9:=G9 (d:=D) (by omega) (by omega)
    rw [<- List.append_nil (bkA.drop 6)]
    refine Zad names_ok mixed_ok Zan sd hin ?_ ?_
    ·simp [-Zag,Zab,Zaa,Base.ev,SX.ev,evs,Value.oneCell',hF,binPV,e9,u9,deskAll.k9]
    intro qs a2 w2 hq h2
    refine ⟨fun _=>?_,fun h=>absurd rfl h⟩
    simp [evs,SX.ev] at hq
    subst hq
    rw [hQB]
    refine .inl ⟨rfl,?_⟩
    rw [<- List.append_nil (lpA.drop 3)]
    refine Zad names_ok mixed_ok Zan stp h2 ?_ ?_
    ·simp [-Zag,Zab,Zaa,Base.ev,SX.ev,evs,Value.oneCell',binPV,v3]
    ·intro qs a1' w1 hq h1
     rw [hQ]
     refine ⟨fun _=>.inl ⟨rfl,l.length - (i+1),by omega,i+1,D,t2,by omega,rfl,hM2,h20,by omega,?_⟩,fun h=>absurd rfl h⟩
     simp [evs,SX.ev,binPV,v3] at hq
     subst hq
     exact h1
   rw [<- hQ,cutL]
   refine Zad names_ok mixed_ok Zan hd hin ?_ ?_
   ·simp [-Zag,Zab,Zaa,Base.ev,SX.ev,evs,Value.oneCell',Zac,binPV]
    exact hlt
   intro qs a1' w1 hq h1
   refine ⟨fun _=>?_,fun h=>absurd rfl h⟩
   simp [evs,SX.ev] at hq
   subst hq
   refine Zcz ?_
   rw [<- hQB]
   show wpL Try.prog bkA QB a1' w1
   rw [cutB]
   clear hQ hQB
   have hm1:=hM.len
   have hm4:=hM.l4
   refine Zad names_ok mixed_ok Zan md h1 ?_ ?_
   ·simp [-Zag,Zab,Zaa,Base.ev,SX.ev,evs,Value.oneCell',Zac,binPV,Zbq,c1,c2,c3,i1,i2,i3,i4,t1,t2,t3,wx1,wx2,wx3,wc,wf,wm,vh]
   intro qs a2' w2 hq h2
   refine ⟨fun _=>?_,fun h=>absurd rfl h⟩
   simp [evs,SX.ev,binPV,Zbq,c1,c2,c3,t1,t2,t3,wx1,wx2,wx3,wc,wf,wm,vh] at hq
   subst hq
   have goW:∀ Y:LeM,dkm.okW Y->∀ a w,Zaf C shM (stM l X d t i (1+(x1:Int)) (1+(x2:Int)) Y) a w->wpL Try.prog ((bkA.drop 4).take 2++bkA.drop 6) QB a w:=by
    intro Y hY a w h2
    by_cases hk0:x0=0
    ·subst hk0
     have e2:=G2 hM (1+(x1:Int)) (1+(x2:Int))
     have e5:=G5 hM (1+(x1:Int)) (1+(x2:Int))
     have hM2:=dkm.di_give hM (1+(x1:Int)) (1+(x2:Int))
     generalize giveD d (1+(x1:Int)) (1+(x2:Int))=D at *
     refine Zad names_ok mixed_ok Zan deskAll.sG h2 ?_ (fun qs a3 w3 hq h3=>⟨fun _=>rest D _ hM2 (by omega) (by omega) a3 w3 (by simp [evs,SX.ev,hF,e2,e5] at hq;subst hq;exact h3),fun h=>absurd rfl h⟩)
     simp [-Zag,Zab,Zaa,Base.ev,SX.ev,evs,Value.oneCell',hF,binPV,c0,i1,i4,t0,e2,e5,u2,u5,deskAll.k2,deskAll.k5]
    ·by_cases hk1:x0=1
     ·subst hk1
      have e3:=G3 hM (show t<=t+(y3:Int) by omega) (by omega) (by omega)
      have e6:=G6 hM (show t<=t+(y3:Int) by omega) (by omega) (by omega)
      have hM2:=dkm.di_run hM (show t<=t+(y3:Int) by omega) (by omega) (by omega)
      have hcl:=calls_len (cl:=dkm.clashW (runD (t+(y3:Int)) d).1 (t+(y3:Int))) (K:=18) (fun w=>Nat.le_trans (lec.clash_len _ _ _ _ _) hM2.len) (runD (t+(y3:Int)) d).1.2 []
      have hl4:=hM2.l4
      simp only [List.length_nil] at hcl
      generalize callsF (dkm.clashW (runD (t+(y3:Int)) d).1 (t+(y3:Int))) (runD (t+(y3:Int)) d).1.2 []=CF at *
      have hlet:(runD (t+(y3:Int)) d).2.length<=4:=by
       have:∀ (n:Nat) (d:Desk),(dkm.loopD (t+(y3:Int)) n d).2.length<=n:=by
        intro n
        induction n with
        | zero=>intro d;simp [dkm.loopD]
        | succ n ih =>
         intro d
         unfold dkm.loopD
         split
         ·simp only [List.length_cons];have:=ih (dkm.lendsD (t+(y3:Int)) d ‹_›);omega
         ·simp
       exact Nat.le_trans (this _ _) hm4
      generalize runD (t+(y3:Int)) d=Z at *
      obtain ⟨D,lt⟩:=Z
      simp only at e3 e6 hM2 hcl hl4 hlet
      have e7:=G7 (l:=lt) (by omega)
      rw [cutB2,List.append_assoc]
      refine Zad names_ok mixed_ok Zan rK h2 ?_ ?_
      ·simp [-Zag,Zab,Zaa,Base.ev,SX.ev,evs,Value.oneCell',hF,binPV,c0,i1,i4,t0]
      intro qs a3 w3 hq h3
      refine ⟨fun _=>?_,fun h=>absurd rfl h⟩
      simp [evs,SX.ev,binPV,c0,t0] at hq
      subst hq
      refine Zcz ?_
      show wpL Try.prog swA _ a3 w3
      rw [cutS]
      refine Zad names_ok mixed_ok Zan rK1 h3 ?_ ?_
      ·simp [-Zag,Zab,Zaa,Base.ev,SX.ev,evs,Value.oneCell',binPV]
      intro qs a4 w4 hq h4
      refine ⟨fun _=>?_,fun h=>absurd rfl h⟩
      simp [evs,SX.ev] at hq
      subst hq
      refine cond_in atS (b:=false) rfl h4 ?_
      rw [List.append_nil]
      show wpL Try.prog elA _ a4 w4
      rw [cutE]
      refine Zad names_ok mixed_ok Zan rK2 h4 ?_ ?_
      ·simp [-Zag,Zab,Zaa,Base.ev,SX.ev,evs,Value.oneCell',binPV]
      intro qs a5 w5 hq h5
      refine ⟨fun _=>?_,fun h=>absurd rfl h⟩
      simp [evs,SX.ev] at hq
      subst hq
      refine cond_in atE (b:=true) rfl h5 ?_
      rw [List.append_nil]
      show wpL Try.prog ruA _ a5 w5
      rw [cutR]
      refine Zad names_ok mixed_ok Zan rN h5 ?_ ?_
      ·simp [-Zag,Zab,Zaa,Base.ev,SX.ev,evs,Value.oneCell',hF,binPV,Zbq,c3,i3,i4,t4,wy3,wt,e3,u3,deskAll.k3,e6,u6,deskAll.k6,e7,u7,deskAll.k7,lenP]
      intro qs a6 w6 hq h6
      refine ⟨fun _=>?_,fun h=>absurd rfl h⟩
      simp [evs,SX.ev,hF,binPV,Zbq,c3,t4,wy3,wt,e3,e6] at hq
      subst hq
      refine Zap (fun q' a w=>∃ k:Nat,k<=CF.length/\q'=CF.length - k/\Zaf C shN (stN l X d (t+(y3:Int)) i CF k D) a w) ?_ (n:=CF.length) ⟨0,by omega,by omega,h6⟩
      rintro q' a w ⟨k,hk,rfl,hin⟩
      show wpL Try.prog lpN _ a w
      rw [<- List.append_nil lpN]
      by_cases hklt:k < CF.length
      ·obtain ⟨b0',b1'⟩:=Zst CF k hklt
       have ix:=Zal encP CF k 2 2 .i64 rfl hklt (by decide)
       have vk:IntKind.i64.wrap ((k:Int)+1)=(k:Int)+1:=wrapI _ (by omega) (by omega)
       have re:=r_eqP CF[k].1 CF[k].2 CF[k].1 CF[k].2
       rw [decide_eq_true rfl] at re
       refine Zad names_ok mixed_ok Zan no hin ?_ ?_
       ·simp [-Zag,Zab,Zaa,Base.ev,SX.ev,evs,Value.oneCell',lenP,binPV,b0',b1',ix,vk,hklt,deskAll.r_eqI,rallA,rnotA]
       ·intro qs a7 w7 hq h7
        refine ⟨fun _=>.inl ⟨rfl,CF.length - (k+1),by omega,k+1,by omega,rfl,?_⟩,fun h=>absurd rfl h⟩
        simp [evs,SX.ev,binPV,vk] at hq
        subst hq
        exact h7
      ·have hke:k=CF.length:=by omega
       subst hke
       refine Zad names_ok mixed_ok Zan nx hin ?_ ?_
       ·simp [-Zag,Zab,Zaa,Base.ev,SX.ev,evs,Value.oneCell',lenP,binPV]
       ·intro qs a7 w7 hq h7
        refine ⟨nofun,fun _=>.inr (.inl ⟨by rw [show Zah (nth ruA 6)=3 by kernel_rfl];rfl,?_⟩)⟩
        simp [evs,SX.ev] at hq
        subst hq
        rw [<- List.append_nil (ruA.drop 7)]
        refine Zad names_ok mixed_ok Zan rE h7 ?_ ?_
        ·simp [-Zag,Zab,Zaa,Base.ev,SX.ev,evs,Value.oneCell',lenP]
        intro qs a8 w8 hq h8
        refine ⟨fun _=>.inl ⟨rfl,?_⟩,fun h=>absurd rfl h⟩
        simp [evs,SX.ev] at hq
        subst hq
        exact rest D _ hM2 (by omega) (by omega) a8 w8 h8
     ·have n0:¬ (x0:Int)=0:=by omega
      have n1:¬ (x0:Int)=1:=by omega
      obtain ⟨Y1,Y2,Y3,Y4⟩:=Y
      have e1:=G1 hM (Int.le_refl t) ht0 (by omega) hY
      have e4:=G4 hM ht0 (by omega) hY
      have hM2:=dkm.di_ask hM (Int.le_refl t) hY ht0 (by omega)
      have hcl:=ask_calls hM (Y1,Y2,Y3,Y4)
      generalize askD t d (Y1,Y2,Y3,Y4)=A at *
      obtain ⟨D,b,P,er⟩:=A
      simp only at e1 e4 hM2 hcl
      have e10:=G10 (l:=P) (by omega)
      cases b with
      | false =>
       refine Zad names_ok mixed_ok Zan deskAll.sA0 h2 ?_ (fun qs a3 w3 hq h3=>⟨fun _=>rest D _ hM2 (by omega) (by omega) a3 w3 (by simp [evs,SX.ev,hF,e1,e4] at hq;subst hq;exact h3),fun h=>absurd rfl h⟩)
       simp [-Zag,Zab,Zaa,Base.ev,SX.ev,evs,Value.oneCell',hF,binPV,c0,i1,i4,t0,e1,e4,e10,u1,u4,u10,deskAll.k1,deskAll.k4,deskAll.k10,n0,n1,hk0,hk1]
      | true =>
       refine Zad names_ok mixed_ok Zan deskAll.sA1 h2 ?_ (fun qs a3 w3 hq h3=>⟨fun _=>rest D _ hM2 (by omega) (by omega) a3 w3 (by simp [evs,SX.ev,hF,e1,e4] at hq;subst hq;exact h3),fun h=>absurd rfl h⟩)
       simp [-Zag,Zab,Zaa,Base.ev,SX.ev,evs,Value.oneCell',hF,binPV,c0,i1,i4,t0,e1,e4,e10,u1,u4,u10,deskAll.k1,deskAll.k4,deskAll.k10,n0,n1,hk0,hk1]
   have hY:dkm.okW (1+(x1:Int),100+(i:Int),1+(x2:Int),1+(x3:Int)):=by simp only [dkm.okW];omega
   have goY:=goW _ hY
   have goX:=goW X
   clear goW hY c0 c1 c2 c3 i1 i2 i3 i4 t0 t1 t2 t3 t4 rest
   rw [<- List.append_assoc]
   generalize 1+(x1:Int)=Y1 at *
   generalize 1+(x2:Int)=Y3 at *
   generalize 1+(x3:Int)=Y4 at *
   generalize 100+(i:Int)=Y2 at *
   by_cases d1:(i:Int)=(l.length:Int) - 1
   rotate_left
   ·refine Zad names_ok mixed_ok Zan wA h2 ?_ (fun qs a3 w3 hq h3=>⟨fun _=>goY a3 w3 (by simp [evs,SX.ev] at hq;subst hq;exact h3),fun h=>absurd rfl h⟩)
    simp [-Zag,Zab,Zaa,Base.ev,SX.ev,evs,Value.oneCell',Zac,binPV,vl,d1]
    all_goals omega
   by_cases d2:1<=X.1
   rotate_left
   ·refine Zad names_ok mixed_ok Zan wB h2 ?_ (fun qs a3 w3 hq h3=>⟨fun _=>goY a3 w3 (by simp [evs,SX.ev] at hq;subst hq;exact h3),fun h=>absurd rfl h⟩)
    simp [-Zag,Zab,Zaa,Base.ev,SX.ev,evs,Value.oneCell',Zac,binPV,vl,d1,d2]
    all_goals omega
   by_cases d3:X.1<=3
   rotate_left
   ·refine Zad names_ok mixed_ok Zan wC h2 ?_ (fun qs a3 w3 hq h3=>⟨fun _=>goY a3 w3 (by simp [evs,SX.ev] at hq;subst hq;exact h3),fun h=>absurd rfl h⟩)
    simp [-Zag,Zab,Zaa,Base.ev,SX.ev,evs,Value.oneCell',Zac,binPV,vl,d1,d2,d3]
    all_goals omega
   by_cases d4:X.2.2.2=1
   ·by_cases d6:1<=X.2.2.1
    rotate_left
    ·refine Zad names_ok mixed_ok Zan wE1 h2 ?_ (fun qs a3 w3 hq h3=>⟨fun _=>goY a3 w3 (by simp [evs,SX.ev] at hq;subst hq;exact h3),fun h=>absurd rfl h⟩)
     simp [-Zag,Zab,Zaa,Base.ev,SX.ev,evs,Value.oneCell',Zac,binPV,vl,d1,d2,d3,d4,d6]
     all_goals omega
    by_cases d7:X.2.2.1<=6
    rotate_left
    ·refine Zad names_ok mixed_ok Zan wE2 h2 ?_ (fun qs a3 w3 hq h3=>⟨fun _=>goY a3 w3 (by simp [evs,SX.ev] at hq;subst hq;exact h3),fun h=>absurd rfl h⟩)
     simp [-Zag,Zab,Zaa,Base.ev,SX.ev,evs,Value.oneCell',Zac,binPV,vl,d1,d2,d3,d4,d6,d7]
     all_goals omega
    ·refine Zad names_ok mixed_ok Zan wE3 h2 ?_ (fun qs a3 w3 hq h3=>⟨fun _=>goX (by simp only [dkm.okW];omega) a3 w3 (by simp [evs,SX.ev] at hq;subst hq;exact h3),fun h=>absurd rfl h⟩)
     simp [-Zag,Zab,Zaa,Base.ev,SX.ev,evs,Value.oneCell',Zac,binPV,vl,d1,d2,d3,d4,d6,d7]
     all_goals omega
   by_cases d5:X.2.2.2=2
   rotate_left
   ·refine Zad names_ok mixed_ok Zan wD h2 ?_ (fun qs a3 w3 hq h3=>⟨fun _=>goY a3 w3 (by simp [evs,SX.ev] at hq;subst hq;exact h3),fun h=>absurd rfl h⟩)
    simp [-Zag,Zab,Zaa,Base.ev,SX.ev,evs,Value.oneCell',Zac,binPV,vl,d1,d2,d3,d4,d5]
    all_goals omega
   by_cases d6:1<=X.2.2.1
   rotate_left
   ·refine Zad names_ok mixed_ok Zan wF1 h2 ?_ (fun qs a3 w3 hq h3=>⟨fun _=>goY a3 w3 (by simp [evs,SX.ev] at hq;subst hq;exact h3),fun h=>absurd rfl h⟩)
    simp [-Zag,Zab,Zaa,Base.ev,SX.ev,evs,Value.oneCell',Zac,binPV,vl,d1,d2,d3,d4,d5,d6]
    all_goals omega
   by_cases d7:X.2.2.1<=6
   rotate_left
   ·refine Zad names_ok mixed_ok Zan wF2 h2 ?_ (fun qs a3 w3 hq h3=>⟨fun _=>goY a3 w3 (by simp [evs,SX.ev] at hq;subst hq;exact h3),fun h=>absurd rfl h⟩)
    simp [-Zag,Zab,Zaa,Base.ev,SX.ev,evs,Value.oneCell',Zac,binPV,vl,d1,d2,d3,d4,d5,d6,d7]
    all_goals omega
   ·refine Zad names_ok mixed_ok Zan wF3 h2 ?_ (fun qs a3 w3 hq h3=>⟨fun _=>goX (by simp only [dkm.okW];omega) a3 w3 (by simp [evs,SX.ev] at hq;subst hq;exact h3),fun h=>absurd rfl h⟩)
    simp [-Zag,Zab,Zaa,Base.ev,SX.ev,evs,Value.oneCell',Zac,binPV,vl,d1,d2,d3,d4,d5,d6,d7]
    all_goals omega
  ·have hie:i=l.length:=by omega
   subst hie
   rw [<- List.append_nil lpA]
   refine Zad names_ok mixed_ok Zan ex hin ?_ ?_
   ·simp [-Zag,Zab,Zaa,Base.ev,SX.ev,evs,Value.oneCell',Zac,binPV]
   ·intro qs a1' w1 hq h1
    refine ⟨nofun,fun _=>.inr (.inl ⟨by rw [show Zah (nth flA 8)=0 by kernel_rfl];rfl,?_⟩)⟩
    simp [evs,SX.ev] at hq
    subst hq
    rw [<- List.append_nil (flA.drop 9)]
    refine Zad names_ok mixed_ok Zan post h1 ?_ (fun qs a1 w1 hq h1=>fin qs a1 w1 (by simp [evs,SX.ev] at hq;exact hq.symm) h1)
    simp [-Zag,Zab,Zaa,Base.ev,SX.ev,evs,Value.oneCell',Zac,binPV]
theorem walk (w:World) (v:Value) (len:Nat) (Z:Nat->Int) (hg:IsRow .u8 w v len Z) (v1:Value) (len1:Nat) (Z1:Nat->Nat->Int) (h:IsGrid 4 w v1 len1 Z1) (cs:List Value) (hc:LKs [.int .i64,.int .i64,.int .i64,.int .i64] cs) :
  Calls Try.prog 3 #[v,v1,.agg cs.toArray] w fun e w'=>e=.returned (.bool true)/\Ex w w':=by
 obtain ⟨p,hbp,hlen,hr0⟩:=rowU hg
 obtain ⟨l,hb,hr⟩:=gridK pos4 h
 obtain ⟨hcl,hck⟩:=hc
 match cs,hcl with
 | [x0,x1,x2,x3],_ =>
  obtain ⟨m1,rfl,_⟩:=hck 0 _ x0 rfl rfl
  obtain ⟨m2,rfl,_⟩:=hck 1 _ x1 rfl rfl
  obtain ⟨m3,rfl,_⟩:=hck 2 _ x2 rfl rfl
  obtain ⟨m4,rfl,_⟩:=hck 3 _ x3 rfl rfl
  refine Zle (told 0) rfl (us:=[v,v1,.int .i64 m1,.int .i64 m2,.int .i64 m3,.int .i64 m4]) (ps:=[pRow encU p,pRow E4 l,pI m1,pI m2,pI m3,pI m4]) (Zaj fL ⟨p,l,(m1,m2,m3,m4),hbp,hlen,hb,Zlm hr,rfl,rfl⟩) rfl rfl (fun i p u hp hu=>?_)
  match i,hp,hu with
  | 0,hp,hu=>simp at hp hu;subst hp;subst hu;exact hr0
  | 1,hp,hu=>simp at hp hu;subst hp;subst hu;exact hr
  | 2,hp,hu=>simp at hp hu;subst hp;subst hu;exact Zc7 rfl
  | 3,hp,hu=>simp at hp hu;subst hp;subst hu;exact Zc7 rfl
  | 4,hp,hu=>simp at hp hu;subst hp;subst hu;exact Zc7 rfl
  | 5,hp,hu=>simp at hp hu;subst hp;subst hu;exact Zc7 rfl
  | i+6,hp,hu=>simp at hp
end Go.Proofs.Ytcaclmdkhffegaa.deskAll
