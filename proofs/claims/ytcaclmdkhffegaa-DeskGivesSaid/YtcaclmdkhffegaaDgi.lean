/- DeskGives by the symbolic engine. -/
import Derived.Test.YtcaclmdkhffegaaDbg
import Derived.Test.YtcaclmdkhffegaaDrn
import Derived.Test.YtcaclmdkhffegaaDpk
import Derived.Test.YtcaclmdkhffegaaDkn
import Derived.Test.YtcaclmdkhffegaaWsw
import Derived.Test.YtcaclmdkhffegaaLea
import Derived.Test.YtcaclmdkhffegaaFroA
import Derived.Test.YtcaclmdkhffegaaEng31
namespace Go.Proofs.Ytcaclmdkhffegaa.deskGives
open Go Go.RowKit eng SX Fact fil lem lea grd
open pck (OkP encU)
open fileFronts (Zai rowU)
open wlm (isFl)
open wsw (ESw toldSw RSw fSw)
open dkm (Desk DI giveD runD)
open dkn (Gv gv_run)
open ddk (EGv toldGv RGv fGv)
open drn (ERn toldRn RRn fRn)
open dpk (EDk toldDk RDk fDk dkRun PD pi_all)
set_option linter.unusedVariables false
set_option linter.unusedSimpArgs false
set_option maxRecDepth 1000000

def hA (_:FuncId) (o:Oper):Option Hint:=match o.op with | .call { callee:=.builtin .append,.. }=>some .own | _=>none
def tabA (f:FuncId):Option FnE:=cond (Nat.beq f 12) (some (EGv 2)) (cond (Nat.beq f 14) (some (ERn 3)) (cond (Nat.beq f 16) (some (ESw 7)) (cond (Nat.beq f 9) (some (ETrue 8)) none)))
def tabAP (f:FuncId):Option PtrE:=cond (Nat.beq f 11) (some (EDk 24)) none
def orcA:Orc:=orcOr (orcFn tabA) (orcP tabAP)
noncomputable def flA:=flat (Za1 Try.prog 8)
noncomputable def lpA:=flat (Zah (nth flA 9))
noncomputable def bkA:=flat (Zbg (nth lpA 2))
noncomputable def lpC:=flat (Zah (nth bkA 1))
noncomputable def bkC:=flat (Zbg (nth lpC 2))
noncomputable def lpF:=flat (Zah (nth bkC 1))
noncomputable def lpH:=flat (Zah (nth flA 13))
noncomputable def bkH:=flat (Zbg (nth lpH 2))
noncomputable def lpI:=flat (Zah (nth bkH 2))
def dbox:BoxT:=⟨30,0,false,[.leaf,.leaf],none,false⟩
def bwait (k:Nat):BoxT:=⟨25,4,true,[],some k,false⟩
def sh0:Shape:=⟨[(0,.leaf)],[],[some true],110,8⟩
def shAN:Shape:=⟨[(3,.ptr 0 0 0 0),(4,.leaf),(5,.leaf),(6,.nil),(7,.leaf)],[dbox],[none,some false,none,some false,some false],110,8⟩
def shAO:Shape:=⟨[(3,.ptr 0 0 0 0),(4,.leaf),(5,.leaf),(6,.own 1 5 4),(7,.leaf)],[dbox,bwait 5],[none,some false,none,some false,some false],110,8⟩
def shCN:Shape:=⟨[(3,.ptr 0 0 0 0),(4,.leaf),(5,.leaf),(6,.nil),(7,.leaf),(8,.leaf)],[dbox],[none,some false,none,none,some false,some false],110,8⟩
def shCO:Shape:=⟨[(3,.ptr 0 0 0 0),(4,.leaf),(5,.leaf),(6,.own 1 6 4),(7,.leaf),(8,.leaf)],[dbox,bwait 6],[none,some false,none,none,some false,some false],110,8⟩
def shFN:Shape:=⟨[(3,.ptr 0 0 0 0),(4,.leaf),(5,.leaf),(6,.nil),(7,.leaf),(8,.leaf),(9,.leaf)],[dbox],[none,some false,none,none,none,some false,some false],110,8⟩
def shFO:Shape:=⟨[(3,.ptr 0 0 0 0),(4,.leaf),(5,.leaf),(6,.own 1 7 4),(7,.leaf),(8,.leaf),(9,.leaf)],[dbox,bwait 7],[none,some false,none,none,none,some false,some false],110,8⟩
def shH:Shape:=⟨[(5,.leaf),(6,.leaf),(13,.leaf)],[],[some false,some false,none],110,8⟩
def shI00:Shape:=⟨[(5,.leaf),(6,.leaf),(13,.leaf),(14,.nil),(15,.nil),(16,.leaf)],[],[some false,some false,none,none],110,8⟩
def shI10:Shape:=⟨[(5,.leaf),(6,.leaf),(13,.leaf),(14,.own 0 4 4),(15,.nil),(16,.leaf)],[bwait 4],[some false,some false,none,none],110,8⟩
def shI01:Shape:=⟨[(5,.leaf),(6,.leaf),(13,.leaf),(14,.nil),(15,.own 0 4 4),(16,.leaf)],[bwait 4],[some false,some false,none,none],110,8⟩
def shI11:Shape:=⟨[(5,.leaf),(6,.leaf),(13,.leaf),(14,.own 0 4 4),(15,.own 1 5 4),(16,.leaf)],[bwait 4,bwait 5],[some false,some false,none,none],110,8⟩
def shR:Shape:=⟨[(2,.leaf)],[],[none],110,8⟩
@[simp] def zDgi1:SX:=.lit 1 [.cell (.var 0) (.var 3) 4 0,.cell (.var 0) (.var 3) 4 1,.cell (.var 0) (.var 3) 4 2,.cell (.var 0) (.var 3) 4 3]
@[simp] def zDgi2:SX:=.lit 1 [.cell (.var 1) (.var 3) 4 0,.cell (.var 1) (.var 3) 4 1,.cell (.var 1) (.var 3) 4 2,.cell (.var 1) (.var 3) 4 3]
@[simp] def zDgi3:SX:=.bin .add (.var 3) (.con (.int .i64 1))
@[simp] def zDgi4:SX:=.bin .eql (.cell (.var 0) (.var 3) 4 2) (.var 2)
@[simp] def zDgi5:SX:=.bin .eql (.cell (.var 1) (.var 3) 4 2) (.var 2)
@[simp] def zDgi6:SX:=.bin .lss (.var 3) (.len (.var 0))
@[simp] def zDgi7:Fact:=.idx (.var 0) (.var 3) 4 4
@[simp] def zDgi8:Fact:=.idx (.var 1) (.var 3) 4 4
@[simp] def zDgi9:Fact:=.ok (.cell (.var 0) (.var 3) 4 2)
@[simp] def Zb0:Fact:=.ok (.cell (.var 1) (.var 3) 4 2)
@[simp] def Zdt:Fact:=same (.len (.var 4)) (.len (.var 4))
@[simp] def Zgv:List SX:=[.var 3,.var 4,.var 0]
@[simp] def Zfj:SX:=.con (.int .i64 0)
@[simp] def Zj2:SX:=rop ROp.cat [.var 4,zDgi1]
@[simp] def Zee:SX:=.con (.int .i64 1)
@[simp] def Zdj:Fact:=.idx (.var 0) (.var 3) 4 3
@[simp] def Zdi:Fact:=.idx (.var 1) (.var 3) 4 3
@[simp] def Zax:Fact:=.ok (.var 2)
@[simp] def Zcb:Fact:=.ok (.len (.var 0))
@[simp] def Zgu:Fact:=same (.len (.var 5)) (.len (.var 5))
@[simp] def Zdh:Fact:=.is zDgi6 (.bool true)
@[simp] def Zjf:SX:=.bin .lss (.var 2) (.con (.int .i64 12))
@[simp] def Zje:SX:=.bin .leq (.var 3) (.con (.int .i64 3))
@[simp] def Zjd:SX:=.bin .leq (.var 4) (.con (.int .i64 3))
@[simp] def Zjc:List SX:=[.con (.int .i64 25),.var 0,Zfj]
@[simp] def Zjb:Fact:=.ok (.cell (.var 0) (.var 3) 4 0)
@[simp] def Zja:Fact:=.ok (.cell (.var 0) (.var 3) 4 1)
@[simp] def Zi9:Fact:=.ok (.cell (.var 0) (.var 3) 4 3)
@[simp] def Zi8:Fact:=.ok (.cell (.var 1) (.var 3) 4 0)
@[simp] def Zi7:Fact:=.ok (.cell (.var 1) (.var 3) 4 1)
@[simp] def Zi6:Fact:=.ok (.cell (.var 1) (.var 3) 4 3)
@[simp] def Zhh:SX:=.bin .add (.var 2) Zee
@[simp] def Zi5:SX:=rop ROp.cat [.var 4,zDgi2]
@[simp] def Zi4:SX:=rop ROp.cat [.var 5,zDgi2]
@[simp] def Zb2:Fact:=.ok (.var 0)
@[simp] def Zlq:List SX:=[.var 5,.var 6,.var 3,.var 4]
@[simp] def Zpu:SX:=.bin .gtr (.len (.var 0)) (.con (.int .i64 100))
@[simp] def Zpt:List SX:=[.var 0,.var 1,.var 2,.var 3,.var 4,.var 5]
@[simp] def Zi3:Fact:=.is zDgi4 (.bool false)
@[simp] def Zi2:Fact:=.is zDgi5 (.bool false)
@[simp] def Zi1:Fact:=.is zDgi4 (.bool true)
@[simp] def Zi0:Fact:=.is zDgi5 (.bool true)
@[simp] def Za7:Fact:=.ok zDgi3
@[simp] def Zps:List SX:=[.var 0,.var 1,.var 2,.var 3,.var 4]
@[simp] def Zpr:SX:=.bin .leq (.var 2) (.con (.int .i64 3))
@[simp] def Zgt:SX:=.fn 3 Zgv 2
@[simp] def Zlp:SX:=.bin .add (.var 4) Zee
@[simp] def Zpq:Fact:=same (.len (.var 6)) (.len (.var 6))
@[simp] def Zlo:List SX:=[.var 0,.var 1,.var 2]
@[simp] def Zpp:SX:=.bin .neq (.len (.var 4)) Zfj
@[simp] def Zpo:Fact:=same (.len Zj2) (.len Zj2)
@[simp] def Zpn:Fact:=same (.len zDgi1) (.len zDgi1)
@[simp] def Zpm:Fact:=same (.len zDgi2) (.len zDgi2)
@[simp] def Zpl:Fact:=upto (.len Zj2) 4294967296
@[simp] def Zfi:Fact:=.ok (.var 3)
@[simp] def Zpk:SX:=rop ROp.cat [.var 5,Zgt]
@[simp] def Zpj:Fact:=upto (.len zDgi1) 4294967296
@[simp] def Zpi:Fact:=upto (.len zDgi2) 4294967296
@[simp] def Zcm:Fact:=.ok zDgi6
@[simp] def Zph:Fact:=.is zDgi6 (.bool false)
@[simp] def Zpg:Fact:=rng Zfj (.len zDgi1)
@[simp] def Zpf:Fact:=rng Zfj (.len zDgi2)
theorem q1:segTo Try.prog orcA 10000 flA sh0 [1,1] shR [] hA=some (.ret,[.fn 9 (ETrue 8) [],.is (.fn 8 [] 0) (.bool true),Zcb,.ok Zpu,.is Zpu (.bool true),.ok (.con (.bool true))],[.con (.bool true)]):=by kernel_rfl
theorem pre:segTo Try.prog orcA 10000 (flA.take 9) sh0 [1,0] shAN [(5,0)] hA=some (.normal,[.fn 9 (ETrue 8) [],.is (.fn 8 [] 0) (.bool true),Zcb,.ok Zpu,.is Zpu (.bool false),.fp 11 (EDk 24) Zjc,.ok (.fn 24 Zjc 2),.ok (.fn 24 Zjc 4),.ok (.fn 24 Zjc 2),.ok Zfj],[.fn 24 Zjc 2,.fn 24 Zjc 1,Zfj,.fn 24 Zjc 0,.fn 24 Zjc 1]):=by kernel_rfl
theorem ahN:segTo Try.prog orcA 10000 (lpA.take 2) shAN [1] shAN [(0,0)] hA=some (.normal,[.ok Zjf,.is Zjf (.bool true),Zb2,Zax],Zps):=by kernel_rfl
theorem axN:segTo Try.prog orcA 10000 lpA shAN [0] shAN [(0,0)] hA=some (.exit 0,[.ok Zjf,.is Zjf (.bool false),Zb2,Zax],Zps):=by kernel_rfl
theorem amN:segTo Try.prog orcA 10000 (bkA.take 1) shAN [] shCN [(0,0)] hA=some (.normal,[Zb2,Zax,.ok Zee],[.var 0,.var 1,.var 2,Zee,.var 3,.var 4]):=by kernel_rfl
theorem chN:segTo Try.prog orcA 10000 (lpC.take 2) shCN [1] shCN [(0,0)] hA=some (.normal,[.ok Zje,.is Zje (.bool true),Zb2,Zax,Zfi],Zpt):=by kernel_rfl
theorem cxN:segTo Try.prog orcA 10000 lpC shCN [0] shAN [(0,0)] hA=some (.exit 2,[.ok Zje,.is Zje (.bool false),Zb2,Zax],[.var 0,.var 1,.var 2,.var 4,.var 5]):=by kernel_rfl
theorem cbN:segTo Try.prog orcA 10000 (bkC.take 1) shCN [] shFN [(0,0)] hA=some (.normal,[Zb2,Zax,Zfi,.ok Zee],[.var 0,.var 1,.var 2,.var 3,Zee,.var 4,.var 5]):=by kernel_rfl
theorem fxN:segTo Try.prog orcA 10000 lpF shFN [0] shCN [(0,0)] hA=some (.exit 4,[.ok Zjd,.is Zjd (.bool false),Zb2,Zax,Zfi],[.var 0,.var 1,.var 2,.var 3,.var 5,.var 6]):=by kernel_rfl
theorem foN:segTo Try.prog orcA 10000 lpF shFN [1] shFN [(0,0)] hA=some (.normal,[.ok Zjd,.is Zjd (.bool true),.fn 12 (EGv 2) Zlq,.ok Zlp,Zb2,Zax,Zfi,.ok Zlp],[.var 0,.var 1,.var 2,.var 3,Zlp,.fn 2 Zlq 0,.fn 2 Zlq 1]):=by kernel_rfl
theorem csN:segTo Try.prog orcA 10000 (lpC.drop 3) shCN [] shCN [(0,0)] hA=some (.normal,[Za7,Zb2,Zax,Za7],[.var 0,.var 1,.var 2,zDgi3,.var 4,.var 5]):=by kernel_rfl
theorem asN:segTo Try.prog orcA 10000 (lpA.drop 3) shAN [] shAN [(0,0)] hA=some (.normal,[.ok Zhh,Zb2,.ok Zhh],[.var 0,.var 1,Zhh,.var 3,.var 4]):=by kernel_rfl
theorem ahO:segTo Try.prog orcA 10000 (lpA.take 2) shAO [1] shAO [(0,0),(1,0)] hA=some (.normal,[.ok Zjf,.is Zjf (.bool true),Zb2,Zax,Zgu],Zpt):=by kernel_rfl
theorem axO:segTo Try.prog orcA 10000 lpA shAO [0] shAO [(0,0),(1,0)] hA=some (.exit 0,[.ok Zjf,.is Zjf (.bool false),Zb2,Zax,Zgu],Zpt):=by kernel_rfl
theorem amO:segTo Try.prog orcA 10000 (bkA.take 1) shAO [] shCO [(0,0),(1,0)] hA=some (.normal,[Zb2,Zax,.ok Zee,Zgu],[.var 0,.var 1,.var 2,Zee,.var 3,.var 4,.var 5]):=by kernel_rfl
theorem chO:segTo Try.prog orcA 10000 (lpC.take 2) shCO [1] shCO [(0,0),(1,0)] hA=some (.normal,[.ok Zje,.is Zje (.bool true),Zb2,Zax,Zfi,Zpq],[.var 0,.var 1,.var 2,.var 3,.var 4,.var 5,.var 6]):=by kernel_rfl
theorem cxO:segTo Try.prog orcA 10000 lpC shCO [0] shAO [(0,0),(1,0)] hA=some (.exit 2,[.ok Zje,.is Zje (.bool false),Zb2,Zax,Zpq],[.var 0,.var 1,.var 2,.var 4,.var 5,.var 6]):=by kernel_rfl
theorem cbO:segTo Try.prog orcA 10000 (bkC.take 1) shCO [] shFO [(0,0),(1,0)] hA=some (.normal,[Zb2,Zax,Zfi,.ok Zee,Zpq],[.var 0,.var 1,.var 2,.var 3,Zee,.var 4,.var 5,.var 6]):=by kernel_rfl
theorem fxO:segTo Try.prog orcA 10000 lpF shFO [0] shCO [(0,0),(1,0)] hA=some (.exit 4,[.ok Zjd,.is Zjd (.bool false),Zb2,Zax,Zfi,same (.len (.var 7)) (.len (.var 7))],[.var 0,.var 1,.var 2,.var 3,.var 5,.var 6,.var 7]):=by kernel_rfl
theorem foO:segTo Try.prog orcA 10000 lpF shFO [1] shFO [(0,0),(1,0)] hA=some (.normal,[.ok Zjd,.is Zjd (.bool true),.fn 12 (EGv 2) Zlq,.ok Zlp,Zb2,Zax,Zfi,.ok Zlp,same (.len (.var 7)) (.len (.var 7))],[.var 0,.var 1,.var 2,.var 3,Zlp,.fn 2 Zlq 0,.fn 2 Zlq 1,.var 7]):=by kernel_rfl
theorem csO:segTo Try.prog orcA 10000 (lpC.drop 3) shCO [] shCO [(0,0),(1,0)] hA=some (.normal,[Za7,Zb2,Zax,Za7,Zpq],[.var 0,.var 1,.var 2,zDgi3,.var 4,.var 5,.var 6]):=by kernel_rfl
theorem asO:segTo Try.prog orcA 10000 (lpA.drop 3) shAO [] shAO [(0,0),(1,0)] hA=some (.normal,[.ok Zhh,Zb2,.ok Zhh,Zgu],[.var 0,.var 1,Zhh,.var 3,.var 4,.var 5]):=by kernel_rfl
theorem rNN:segTo Try.prog orcA 10000 (bkA.drop 2) shAN [0] shAN [(0,0)] hA=some (.normal,[.fn 14 (ERn 3) Zgv,cells Zgt 4,same (.len Zgt) Zfj,Zb2,Zax],[.var 0,.var 1,.var 2,.fn 3 Zgv 0,.fn 3 Zgv 1]):=by kernel_rfl
theorem rNO:segTo Try.prog orcA 10000 (bkA.drop 2) shAN [1] shAO [(0,0),(9,0)] hA=some (.normal,[.fn 14 (ERn 3) Zgv,cells Zgt 4,rng Zfj (.len Zgt),upto (.len Zgt) 4294967296,Zb2,Zax,same (.len Zgt) (.len Zgt)],[.var 0,.var 1,.var 2,.fn 3 Zgv 0,.fn 3 Zgv 1,Zgt]):=by kernel_rfl
theorem rOO:segTo Try.prog orcA 10000 (bkA.drop 2) shAO [] shAO [(0,0),(1,1)] hA=some (.normal,[.fn 14 (ERn 3) Zgv,cells Zgt 4,Zgu,upto (.len Zpk) 4294967296,Zb2,Zax,same (.len Zpk) (.len Zpk)],[.var 0,.var 1,.var 2,.fn 3 Zgv 0,.fn 3 Zgv 1,Zpk]):=by kernel_rfl
theorem zN:segTo Try.prog orcA 10000 ((flA.drop 10).take 3) shAN [0,0] shH [] hA=some (.normal,[.ok (.len (.var 4)),.ok Zpp,.is Zpp (.bool false),.ok (.len (.var 1)),.ok (.bin .neq Zfj (.len (.var 1))),.is (.bin .neq Zfj (.len (.var 1))) (.bool false),.ok Zee],[.var 1,.lit 0 [],Zee]):=by kernel_rfl
theorem zO:segZ Try.prog orcA 10000 ((flA.drop 10).take 3) shAO [0,0] [6] shH [] hA=some ([.ok (.len (.var 4)),.ok Zpp,.is Zpp (.bool false),.ok (.len (.var 1)),.ok (.bin .neq (.len (.var 5)) (.len (.var 1))),.is (.bin .neq (.len (.var 5)) (.len (.var 1))) (.bool false),.ok Zee],[.var 1,.var 5,Zee]):=by kernel_rfl
theorem hh:segTo Try.prog orcA 10000 (lpH.take 2) shH [1] shH [] hA=some (.normal,[.ok Zpr,.is Zpr (.bool true),Zax],Zlo):=by kernel_rfl
theorem hx:segTo Try.prog orcA 10000 lpH shH [0] shH [] hA=some (.exit 6,[.ok Zpr,.is Zpr (.bool false),Zax],Zlo):=by kernel_rfl
theorem hb:segTo Try.prog orcA 10000 (bkH.take 2) shH [] shI00 [] hA=some (.normal,[Zax,.ok Zfj],[.var 0,.var 1,.var 2,Zfj]):=by kernel_rfl
theorem ix00:segTo Try.prog orcA 10000 lpI shI00 [0] shI00 [] hA=some (.exit 8,[Zcb,Zcm,Zph,Zax,Zfi],[.var 0,.var 1,.var 2,.var 3]):=by kernel_rfl
theorem ic00:segTo Try.prog orcA 10000 (bkH.drop 3) shI00 [1] shH [] hA=some (.normal,[.fn 16 (ESw 7) [.lit 0 [],.lit 0 []],.is (.fn 7 [.lit 0 [],.lit 0 []] 0) (.bool true),Zax],Zlo):=by kernel_rfl
theorem i00_00:segTo Try.prog orcA 10000 lpI shI00 [1,0,0] shI00 [] hA=some (.normal,[Zcb,Zcm,Zdh,zDgi7,Zdj,zDgi9,.ok zDgi4,Zi3,zDgi8,Zdi,Zb0,.ok zDgi5,Zi2,Za7,Zax,Za7],[.var 0,.var 1,.var 2,zDgi3]):=by kernel_rfl
theorem i00_10:segTo Try.prog orcA 10000 lpI shI00 [1,1,0] shI10 [(3,0)] hA=some (.normal,[Zcb,Zcm,Zdh,zDgi7,Zdj,zDgi9,.ok zDgi4,Zi1,zDgi7,zDgi7,Zjb,Zja,zDgi9,Zi9,Zpg,Zpj,zDgi8,Zdi,Zb0,.ok zDgi5,Zi2,Za7,Zax,Za7,Zpn],[.var 0,.var 1,.var 2,zDgi3,zDgi1]):=by kernel_rfl
theorem i00_01:segTo Try.prog orcA 10000 lpI shI00 [1,0,1] shI01 [(3,0)] hA=some (.normal,[Zcb,Zcm,Zdh,zDgi7,Zdj,zDgi9,.ok zDgi4,Zi3,zDgi8,Zdi,Zb0,.ok zDgi5,Zi0,zDgi8,zDgi8,Zi8,Zi7,Zb0,Zi6,Zpf,Zpi,Za7,Zax,Za7,Zpm],[.var 0,.var 1,.var 2,zDgi3,zDgi2]):=by kernel_rfl
theorem i00_11:segTo Try.prog orcA 10000 lpI shI00 [1,1,1] shI11 [(3,0),(5,0)] hA=some (.normal,[Zcb,Zcm,Zdh,zDgi7,Zdj,zDgi9,.ok zDgi4,Zi1,zDgi7,zDgi7,Zjb,Zja,zDgi9,Zi9,Zpg,Zpj,zDgi8,Zdi,Zb0,.ok zDgi5,Zi0,zDgi8,zDgi8,Zi8,Zi7,Zb0,Zi6,Zpf,Zpi,Za7,Zax,Za7,Zpn,Zpm],[.var 0,.var 1,.var 2,zDgi3,zDgi1,zDgi2]):=by kernel_rfl
theorem ix10:segTo Try.prog orcA 10000 lpI shI10 [0] shI10 [(0,0)] hA=some (.exit 8,[Zcb,Zcm,Zph,Zax,Zfi,Zdt],Zps):=by kernel_rfl
theorem ic10:segTo Try.prog orcA 10000 (bkH.drop 3) shI10 [1] shH [] hA=some (.normal,[.fn 16 (ESw 7) [.var 4,.lit 0 []],.is (.fn 7 [.var 4,.lit 0 []] 0) (.bool true),Zax],Zlo):=by kernel_rfl
theorem i10_00:segTo Try.prog orcA 10000 lpI shI10 [1,0,0] shI10 [(0,0)] hA=some (.normal,[Zcb,Zcm,Zdh,zDgi7,Zdj,zDgi9,.ok zDgi4,Zi3,zDgi8,Zdi,Zb0,.ok zDgi5,Zi2,Za7,Zax,Za7,Zdt],[.var 0,.var 1,.var 2,zDgi3,.var 4]):=by kernel_rfl
theorem i10_10:segTo Try.prog orcA 10000 lpI shI10 [1,1,0] shI10 [(0,1)] hA=some (.normal,[Zcb,Zcm,Zdh,zDgi7,Zdj,zDgi9,.ok zDgi4,Zi1,zDgi7,zDgi7,Zjb,Zja,zDgi9,Zi9,Zdt,Zpl,zDgi8,Zdi,Zb0,.ok zDgi5,Zi2,Za7,Zax,Za7,Zpo],[.var 0,.var 1,.var 2,zDgi3,Zj2]):=by kernel_rfl
theorem i10_01:segTo Try.prog orcA 10000 lpI shI10 [1,0,1] shI11 [(0,0),(4,0)] hA=some (.normal,[Zcb,Zcm,Zdh,zDgi7,Zdj,zDgi9,.ok zDgi4,Zi3,zDgi8,Zdi,Zb0,.ok zDgi5,Zi0,zDgi8,zDgi8,Zi8,Zi7,Zb0,Zi6,Zpf,Zpi,Za7,Zax,Za7,Zdt,Zpm],[.var 0,.var 1,.var 2,zDgi3,.var 4,zDgi2]):=by kernel_rfl
theorem i10_11:segTo Try.prog orcA 10000 lpI shI10 [1,1,1] shI11 [(0,1),(5,0)] hA=some (.normal,[Zcb,Zcm,Zdh,zDgi7,Zdj,zDgi9,.ok zDgi4,Zi1,zDgi7,zDgi7,Zjb,Zja,zDgi9,Zi9,Zdt,Zpl,zDgi8,Zdi,Zb0,.ok zDgi5,Zi0,zDgi8,zDgi8,Zi8,Zi7,Zb0,Zi6,Zpf,Zpi,Za7,Zax,Za7,Zpo,Zpm],[.var 0,.var 1,.var 2,zDgi3,Zj2,zDgi2]):=by kernel_rfl
theorem ix01:segTo Try.prog orcA 10000 lpI shI01 [0] shI01 [(0,0)] hA=some (.exit 8,[Zcb,Zcm,Zph,Zax,Zfi,Zdt],Zps):=by kernel_rfl
theorem ic01:segTo Try.prog orcA 10000 (bkH.drop 3) shI01 [1] shH [] hA=some (.normal,[.fn 16 (ESw 7) [.lit 0 [],.var 4],.is (.fn 7 [.lit 0 [],.var 4] 0) (.bool true),Zax],Zlo):=by kernel_rfl
theorem i01_00:segTo Try.prog orcA 10000 lpI shI01 [1,0,0] shI01 [(0,0)] hA=some (.normal,[Zcb,Zcm,Zdh,zDgi7,Zdj,zDgi9,.ok zDgi4,Zi3,zDgi8,Zdi,Zb0,.ok zDgi5,Zi2,Za7,Zax,Za7,Zdt],[.var 0,.var 1,.var 2,zDgi3,.var 4]):=by kernel_rfl
theorem i01_10:segTo Try.prog orcA 10000 lpI shI01 [1,1,0] shI11 [(4,0),(0,0)] hA=some (.normal,[Zcb,Zcm,Zdh,zDgi7,Zdj,zDgi9,.ok zDgi4,Zi1,zDgi7,zDgi7,Zjb,Zja,zDgi9,Zi9,Zpg,Zpj,zDgi8,Zdi,Zb0,.ok zDgi5,Zi2,Za7,Zax,Za7,Zpn,Zdt],[.var 0,.var 1,.var 2,zDgi3,zDgi1,.var 4]):=by kernel_rfl
theorem i01_01:segTo Try.prog orcA 10000 lpI shI01 [1,0,1] shI01 [(0,1)] hA=some (.normal,[Zcb,Zcm,Zdh,zDgi7,Zdj,zDgi9,.ok zDgi4,Zi3,zDgi8,Zdi,Zb0,.ok zDgi5,Zi0,zDgi8,zDgi8,Zi8,Zi7,Zb0,Zi6,Zdt,upto (.len Zi5) 4294967296,Za7,Zax,Za7,same (.len Zi5) (.len Zi5)],[.var 0,.var 1,.var 2,zDgi3,Zi5]):=by kernel_rfl
theorem i01_11:segTo Try.prog orcA 10000 lpI shI01 [1,1,1] shI11 [(4,0),(0,1)] hA=some (.normal,[Zcb,Zcm,Zdh,zDgi7,Zdj,zDgi9,.ok zDgi4,Zi1,zDgi7,zDgi7,Zjb,Zja,zDgi9,Zi9,Zpg,Zpj,zDgi8,Zdi,Zb0,.ok zDgi5,Zi0,zDgi8,zDgi8,Zi8,Zi7,Zb0,Zi6,Zdt,upto (.len Zi5) 4294967296,Za7,Zax,Za7,Zpn,same (.len Zi5) (.len Zi5)],[.var 0,.var 1,.var 2,zDgi3,zDgi1,Zi5]):=by kernel_rfl
theorem ix11:segTo Try.prog orcA 10000 lpI shI11 [0] shI11 [(0,0),(1,0)] hA=some (.exit 8,[Zcb,Zcm,Zph,Zax,Zfi,Zdt,Zgu],Zpt):=by kernel_rfl
theorem ic11:segTo Try.prog orcA 10000 (bkH.drop 3) shI11 [1] shH [] hA=some (.normal,[.fn 16 (ESw 7) [.var 4,.var 5],.is (.fn 7 [.var 4,.var 5] 0) (.bool true),Zax],Zlo):=by kernel_rfl
theorem i11_00:segTo Try.prog orcA 10000 lpI shI11 [1,0,0] shI11 [(0,0),(1,0)] hA=some (.normal,[Zcb,Zcm,Zdh,zDgi7,Zdj,zDgi9,.ok zDgi4,Zi3,zDgi8,Zdi,Zb0,.ok zDgi5,Zi2,Za7,Zax,Za7,Zdt,Zgu],[.var 0,.var 1,.var 2,zDgi3,.var 4,.var 5]):=by kernel_rfl
theorem i11_10:segTo Try.prog orcA 10000 lpI shI11 [1,1,0] shI11 [(0,1),(1,0)] hA=some (.normal,[Zcb,Zcm,Zdh,zDgi7,Zdj,zDgi9,.ok zDgi4,Zi1,zDgi7,zDgi7,Zjb,Zja,zDgi9,Zi9,Zdt,Zpl,zDgi8,Zdi,Zb0,.ok zDgi5,Zi2,Za7,Zax,Za7,Zpo,Zgu],[.var 0,.var 1,.var 2,zDgi3,Zj2,.var 5]):=by kernel_rfl
theorem i11_01:segTo Try.prog orcA 10000 lpI shI11 [1,0,1] shI11 [(0,0),(1,1)] hA=some (.normal,[Zcb,Zcm,Zdh,zDgi7,Zdj,zDgi9,.ok zDgi4,Zi3,zDgi8,Zdi,Zb0,.ok zDgi5,Zi0,zDgi8,zDgi8,Zi8,Zi7,Zb0,Zi6,Zgu,upto (.len Zi4) 4294967296,Za7,Zax,Za7,Zdt,same (.len Zi4) (.len Zi4)],[.var 0,.var 1,.var 2,zDgi3,.var 4,Zi4]):=by kernel_rfl
theorem i11_11:segTo Try.prog orcA 10000 lpI shI11 [1,1,1] shI11 [(0,1),(1,1)] hA=some (.normal,[Zcb,Zcm,Zdh,zDgi7,Zdj,zDgi9,.ok zDgi4,Zi1,zDgi7,zDgi7,Zjb,Zja,zDgi9,Zi9,Zdt,Zpl,zDgi8,Zdi,Zb0,.ok zDgi5,Zi0,zDgi8,zDgi8,Zi8,Zi7,Zb0,Zi6,Zgu,upto (.len Zi4) 4294967296,Za7,Zax,Za7,Zpo,same (.len Zi4) (.len Zi4)],[.var 0,.var 1,.var 2,zDgi3,Zj2,Zi4]):=by kernel_rfl
theorem hs:segTo Try.prog orcA 10000 (lpH.drop 3) shH [] shH [] hA=some (.normal,[.ok Zhh,.ok Zhh],[.var 0,.var 1,Zhh]):=by kernel_rfl
theorem post:segTo Try.prog orcA 10000 (flA.drop 14) shH [] shR [] hA=some (.ret,[.ok (.con (.bool true))],[.con (.bool true)]):=by kernel_rfl
theorem cutA:flA=flA.take 9++.block (Zaf (nth flA 9)) (.loop (Zah (nth flA 9))) :: ((flA.drop 10).take 3++.block (Zaf (nth flA 13)) (.loop (Zah (nth flA 13))) :: flA.drop 14):=by kernel_rfl
theorem cutL:lpA=lpA.take 2++.block (Zaf (nth lpA 2)) (Zbg (nth lpA 2)) :: lpA.drop 3:=by kernel_rfl
theorem cutB:bkA=bkA.take 1++.block (Zaf (nth bkA 1)) (.loop (Zah (nth bkA 1))) :: bkA.drop 2:=by kernel_rfl
theorem cutC:lpC=lpC.take 2++.block (Zaf (nth lpC 2)) (Zbg (nth lpC 2)) :: lpC.drop 3:=by kernel_rfl
theorem cutD:bkC=bkC.take 1++[.block (Zaf (nth bkC 1)) (.loop (Zah (nth bkC 1)))]:=by kernel_rfl
theorem cutH:lpH=lpH.take 2++.block (Zaf (nth lpH 2)) (Zbg (nth lpH 2)) :: lpH.drop 3:=by kernel_rfl
theorem cutI:bkH=bkH.take 2++.block (Zaf (nth bkH 2)) (.loop (Zah (nth bkH 2))) :: bkH.drop 3:=by kernel_rfl
def ELaw (k:Nat):FnE:={ k:=k,ins:=[none],leaks:=[true],outs:=[none],kinds:=[.truth] }
def RL (ps qs:List PV):Prop:=∃ (p:List Nat),(∀ z ∈ p,z < 256)/\p.length<=9223372036854775807/\ps=[pRow encU p]/\qs=[pB true]
theorem fL:∀ ps q1 q2,RL ps q1->RL ps q2->q1=q2:=by
 rintro ps q1 q2 ⟨_,_,_,_,rfl⟩ ⟨_,_,_,_,rfl⟩;rfl
noncomputable def G:Fns:=fun k=>match k with | 2=>spec RGv | 3=>spec RRn | 7=>spec RSw | 8=>spec RTrue | 24=>spec RDk | _=>fun _=>none
theorem u2:ToldF 12 (EGv 2) (G 2):=toldGv 2
theorem u3:ToldF 14 (ERn 3) (G 3):=toldRn 3
theorem u7:ToldF 16 (ESw 7) (G 7):=toldSw 7
theorem u8:ToldF 9 (ETrue 8) (G 8):=dkb.begunLit 8
theorem u24:ToldP 11 (EDk 24) (G 24):=toldDk 24
theorem G2 {d:Desk} {t:Int} (h:DI d t) (c f:Int):G 2 [pRow encL d.1,pRow encL d.2,pI c,pI f]=some [pRow encL (giveD d c f).1,pRow encL (giveD d c f).2]:=Zam fGv ⟨d,c,f,by have:=h.len;omega,by have:=h.l4;omega,rfl,rfl⟩
theorem G3 {d:Desk} {s t:Int} (h:DI d s) (hs:s<=t) (h0:0<=t) (h1:t<=1000000):G 3 [pRow encL d.1,pRow encL d.2,pI t]=some [pRow encL (runD t d).1.1,pRow encL (runD t d).1.2,pRow encL (runD t d).2,pRow dix.encP (dix.callsF (dkm.clashW (runD t d).1 t) (runD t d).1.2 [])]:=Zam fRn ⟨d,s,t,h,hs,h0,h1,rfl,rfl⟩
theorem G7 {l:List LeM} (h:l.length<=1000000):G 7 [pRow encL l,pRow encL l]=some [pB true]:=by
 have:=Zam fSw ⟨l,l,h,h,rfl,rfl⟩
 rw [decide_eq_true rfl] at this
 exact this
theorem G8:G 8 []=some [pB true]:=Zam fTrue ⟨rfl,rfl⟩
theorem G24 {p:List Nat} (h:OkP p 0) {R:PD} (hR:dkRun p 25 0 ⟨([],[]),0,0⟩=R):G 24 [pI 25,pRow encU p,pI 0]=some [pRow encL R.d.1,pRow encL R.d.2,pI R.t,pRow encU p,pI (R.n:Int)]:=by
 subst hR;exact Zam fDk ⟨25,p,by omega,h,rfl,rfl⟩
theorem k2:(EGv 2).k=2:=rfl
theorem k3:(ERn 3).k=3:=rfl
theorem k7:(ESw 7).k=7:=rfl
theorem Zao:OrcOk Try.prog orcA:=Zgh (Zae tabA) (Zkh tabAP)
theorem lenL (xs:List LeM):lenPV (pRow encL xs)=some (pI (xs.length:Int)):=rfl
theorem r_catG (acc:List LeM) (x:LeM):ropPV .cat [pRow encL acc,.row 1 [pI x.1,pI x.2.1,pI x.2.2.1,pI x.2.2.2]]=some (pRow encL (acc++[x])):=by simp [ropPV,pRow,Enc.all,encL]
theorem r_oneG (x:LeM):PV.row 1 [pI x.1,pI x.2.1,pI x.2.2.1,pI x.2.2.2]=pRow encL [x]:=by simp [pRow,Enc.all,encL]
abbrev stA (now:Int) (first:List LeM) (i:Nat) (d:Desk):List PV:=[pI now,pRow encL first,pI (i:Int),pRow encL d.1,pRow encL d.2]
abbrev stC (now:Int) (first:List LeM) (i c:Nat) (d:Desk):List PV:=[pI now,pRow encL first,pI (i:Int),pI (c:Int),pRow encL d.1,pRow encL d.2]
abbrev stF (now:Int) (first:List LeM) (i c f:Nat) (d:Desk):List PV:=[pI now,pRow encL first,pI (i:Int),pI (c:Int),pI (f:Int),pRow encL d.1,pRow encL d.2]
def InA (C:Base) (now:Int) (first:List LeM) (i:Nat) (d:Desk) (acc:List LeM) (a:Act) (w:World):Prop :=
 (acc=[]/\Zag C shAN (stA now first i d) a w) \/ Zag C shAO (stA now first i d++[pRow encL acc]) a w
def InC (C:Base) (now:Int) (first:List LeM) (i c:Nat) (d:Desk) (acc:List LeM) (a:Act) (w:World):Prop :=
 (acc=[]/\Zag C shCN (stC now first i c d) a w) \/ Zag C shCO (stC now first i c d++[pRow encL acc]) a w
def InF (C:Base) (now:Int) (first:List LeM) (i c f:Nat) (d:Desk) (acc:List LeM) (a:Act) (w:World):Prop :=
 (acc=[]/\Zag C shFN (stF now first i c f d) a w) \/ Zag C shFO (stF now first i c f d++[pRow encL acc]) a w
def Left (d D:Desk) (c f:Nat):Prop:=D.2=d.2/\∀ x ∈ D.1,x ∈ d.1/\¬ x.1 < (c:Int)/\¬ (x.1=(c:Int)/\x.2.1 < (f:Int))
theorem left_give {d D:Desk} {c f:Nat} (h:Left d D c f):Left d (giveD D c f) c (f+1):=by
 refine ⟨h.1,fun x hx=>?_⟩
 obtain ⟨hx1,hx2⟩:=List.mem_filter.1 hx
 obtain ⟨g1,g2,g3⟩:=h.2 x hx1
 simp only [Bool.not_eq_true',Bool.and_eq_false_iff,beq_eq_false_iff_ne] at hx2
 refine ⟨g1,g2,fun ⟨e1,e2⟩=>?_⟩
 have:x.2.1=(f:Int):=by
  have:¬ x.2.1 < (f:Int):=fun h=>g3 ⟨e1,h⟩
  omega
 rcases hx2 with h | h
 ·exact h e1
 ·exact h this
set_option maxHeartbeats 2000000 in
theorem loopF (C:Base) (hF:C.F=G) (now:Int) (first:List LeM) (i c:Nat) (hc:c<=3) (d:Desk) (hd3:∀ x ∈ d.1,x.2.1<=3) (acc:List LeM) (Q:Exit->Act->World->Prop) (R:List Code)
  (hQ:∀ D a w,DI D now->Left d D (c+1) 1->InC C now first i c D acc a w->wpL Try.prog R Q a w) {D0:Desk} {a:Act} {w:World} (hD0:DI D0 now) (hL0:Left d D0 c 1) (hin:InF C now first i c 1 D0 acc a w) :
  wpL Try.prog (.block (Zaf (nth bkC 1)) (.loop (Zah (nth bkC 1))) :: R) Q a w:=by
 refine Zas (fun n a w=>∃ (f:Nat) (D:Desk),1<=f/\f<=4/\n=4 - f/\DI D now/\Left d D c f/\InF C now first i c f D acc a w) ?_ (n:=3) ⟨1,D0,by omega,by omega,by omega,hD0,hL0,hin⟩
 rintro n a w ⟨f,D,hf1,hf4,rfl,hD,hL,hin⟩
 show wpL Try.prog lpF _ a w
 rw [<- List.append_nil lpF]
 by_cases hlt:f<=3
 ·have v3:IntKind.i64.wrap ((f:Int)+1)=(f:Int)+1:=wrapI _ (by omega) (by omega)
  have e2:=G2 hD (c:Int) (f:Int)
  have hD2:=dkm.di_give hD (c:Int) (f:Int)
  have hL2:=left_give hL
  have hfi:(f:Int)<=3:=by omega
  generalize giveD D (c:Int) (f:Int)=E at *
  rcases hin with ⟨h00,hin⟩ | hin
  ·refine Zad names_ok mixed_ok Zao foN hin ?_ ?_
   ·simp [-Zai,Zab,Zaa,Base.ev,SX.ev,evs,Value.oneCell',hF,binPV,v3,e2,u2,deskGives.k2,hfi,hlt]
   ·intro qs a1 w1 hq h1
    simp [evs,SX.ev,hF,binPV,v3,e2] at hq
    subst hq
    exact ⟨fun _=>.inl ⟨rfl,4 - (f+1),by omega,f+1,E,by omega,by omega,rfl,hD2,hL2,.inl ⟨h00,h1⟩⟩,fun h=>absurd rfl h⟩
  ·refine Zad names_ok mixed_ok Zao foO hin ?_ ?_
   ·simp [-Zai,Zab,Zaa,Base.ev,SX.ev,evs,Value.oneCell',hF,binPV,v3,e2,u2,deskGives.k2,hfi,hlt,deskGives.lenL]
   ·intro qs a1 w1 hq h1
    simp [evs,SX.ev,hF,binPV,v3,e2] at hq
    subst hq
    exact ⟨fun _=>.inl ⟨rfl,4 - (f+1),by omega,f+1,E,by omega,by omega,rfl,hD2,hL2,.inr h1⟩,fun h=>absurd rfl h⟩
 ·obtain rfl:f=4:=by omega
  have hL2:Left d D (c+1) 1:=⟨hL.1,fun x hx=>by
   obtain ⟨g1,g2,g3⟩:=hL.2 x hx
   have h3:=hd3 x g1
   have h1:=(hD.al.may.2.1 x hx).2.2.1
   have:x.1 ≠ (c:Int):=fun e=>g3 ⟨e,by omega⟩
   exact ⟨g1,by omega,fun ⟨_,h⟩=>by omega⟩⟩
  rcases hin with ⟨h00,hin⟩ | hin
  ·refine Zad names_ok mixed_ok Zao fxN hin ?_ ?_
   ·simp [-Zai,Zab,Zaa,Base.ev,SX.ev,evs,Value.oneCell',binPV]
   ·intro qs a1 w1 hq h1
    simp [evs,SX.ev] at hq
    subst hq
    exact ⟨nofun,fun _=>.inr (.inl ⟨by rw [show Zaf (nth bkC 1)=4 by kernel_rfl];rfl,hQ D _ _ hD hL2 (.inl ⟨h00,h1⟩)⟩)⟩
  ·refine Zad names_ok mixed_ok Zao fxO hin ?_ ?_
   ·simp [-Zai,Zab,Zaa,Base.ev,SX.ev,evs,Value.oneCell',binPV,deskGives.lenL]
   ·intro qs a1 w1 hq h1
    simp [evs,SX.ev] at hq
    subst hq
    exact ⟨nofun,fun _=>.inr (.inl ⟨by rw [show Zaf (nth bkC 1)=4 by kernel_rfl];rfl,hQ D _ _ hD hL2 (.inr h1)⟩)⟩
set_option maxHeartbeats 2000000 in
theorem loopC (C:Base) (hF:C.F=G) (now:Int) (first:List LeM) (i:Nat) (d:Desk) (hd3:∀ x ∈ d.1,x.2.1<=3) (acc:List LeM) (Q:Exit->Act->World->Prop) (R:List Code)
  (hQ:∀ D a w,DI D now->D.1=[]->D.2=d.2->InA C now first i D acc a w->wpL Try.prog R Q a w) {a:Act} {w:World} (hD0:DI d now) (hin:InC C now first i 1 d acc a w) :
  wpL Try.prog (.block (Zaf (nth bkA 1)) (.loop (Zah (nth bkA 1))) :: R) Q a w:=by
 refine Zas (fun n a w=>∃ (c:Nat) (D:Desk),1<=c/\c<=4/\n=4 - c/\DI D now/\Left d D c 1/\InC C now first i c D acc a w) ?_ (n:=3) ⟨1,d,by omega,by omega,by omega,hD0,⟨rfl,fun x hx=>⟨hx,by have:=(hD0.al.may.2.1 x hx).1;omega,fun ⟨_,h⟩=>by have:=(hD0.al.may.2.1 x hx).2.2.1;omega⟩⟩,hin⟩
 rintro n a w ⟨c,D,hc1,hc4,rfl,hD,hL,hin⟩
 show wpL Try.prog lpC _ a w
 by_cases hlt:c<=3
 ·have v3:IntKind.i64.wrap ((c:Int)+1)=(c:Int)+1:=wrapI _ (by omega) (by omega)
  have hci:(c:Int)<=3:=by omega
  obtain ⟨Q',hQ'⟩:∃ Q':Exit->Act->World->Prop,Q'=(fun e a' w'=>(e=.normal/\∃ n',n' < 4 - c/\∃ (c:Nat) (D:Desk),1<=c/\c<=4/\n'=4 - c/\DI D now/\Left d D c 1/\InC C now first i c D acc a' w') \/ (e=.exit (Zaf (nth bkA 1))/\wpL Try.prog R Q a' w') \/ (e=.ret/\Q .ret a' w')):=⟨_,rfl⟩
  have step:∀ E a w,DI E now->Left d E (c+1) 1->InC C now first i c E acc a w->wpL Try.prog (lpC.drop 3) Q' a w:=by
   intro E a w hE hLE hin
   rw [hQ',<- List.append_nil (lpC.drop 3)]
   rcases hin with ⟨h00,hin⟩ | hin
   ·refine Zad names_ok mixed_ok Zao csN hin ?_ ?_
    ·simp [-Zai,Zab,Zaa,Base.ev,SX.ev,evs,Value.oneCell',binPV,v3]
    ·intro qs a2 w2 hq h2
     simp [evs,SX.ev,binPV,v3] at hq
     subst hq
     exact ⟨fun _=>.inl ⟨rfl,4 - (c+1),by omega,c+1,E,by omega,by omega,rfl,hE,hLE,.inl ⟨h00,h2⟩⟩,fun h=>absurd rfl h⟩
   ·refine Zad names_ok mixed_ok Zao csO hin ?_ ?_
    ·simp [-Zai,Zab,Zaa,Base.ev,SX.ev,evs,Value.oneCell',binPV,v3,deskGives.lenL]
    ·intro qs a2 w2 hq h2
     simp [evs,SX.ev,binPV,v3] at hq
     subst hq
     exact ⟨fun _=>.inl ⟨rfl,4 - (c+1),by omega,c+1,E,by omega,by omega,rfl,hE,hLE,.inr h2⟩,fun h=>absurd rfl h⟩
  rw [<- hQ',cutC]
  clear hQ'
  rcases hin with ⟨h00,hin⟩ | hin
  ·refine Zad names_ok mixed_ok Zao chN hin ?_ ?_
   ·simp [-Zai,Zab,Zaa,Base.ev,SX.ev,evs,Value.oneCell',binPV,hci,hlt]
   intro qs a2 w2 hq h2
   refine ⟨fun _=>?_,fun h=>absurd rfl h⟩
   simp [evs,SX.ev] at hq
   subst hq
   refine Zcj ?_
   show wpL Try.prog bkC _ a2 w2
   rw [cutD]
   refine Zad names_ok mixed_ok Zao cbN h2 ?_ ?_
   ·simp [-Zai,Zab,Zaa,Base.ev,SX.ev,evs,Value.oneCell',binPV]
   intro qs a3 w3 hq h3
   refine ⟨fun _=>?_,fun h=>absurd rfl h⟩
   simp [evs,SX.ev] at hq
   subst hq
   exact loopF C hF now first i c hlt d hd3 acc _ [] (fun E a w hE hLE h=>.inl ⟨rfl,step E a w hE hLE h⟩) hD hL (.inl ⟨h00,h3⟩)
  ·refine Zad names_ok mixed_ok Zao chO hin ?_ ?_
   ·simp [-Zai,Zab,Zaa,Base.ev,SX.ev,evs,Value.oneCell',binPV,hci,hlt,deskGives.lenL]
   intro qs a2 w2 hq h2
   refine ⟨fun _=>?_,fun h=>absurd rfl h⟩
   simp [evs,SX.ev] at hq
   subst hq
   refine Zcj ?_
   show wpL Try.prog bkC _ a2 w2
   rw [cutD]
   refine Zad names_ok mixed_ok Zao cbO h2 ?_ ?_
   ·simp [-Zai,Zab,Zaa,Base.ev,SX.ev,evs,Value.oneCell',binPV,deskGives.lenL]
   intro qs a3 w3 hq h3
   refine ⟨fun _=>?_,fun h=>absurd rfl h⟩
   simp [evs,SX.ev] at hq
   subst hq
   exact loopF C hF now first i c hlt d hd3 acc _ [] (fun E a w hE hLE h=>.inl ⟨rfl,step E a w hE hLE h⟩) hD hL (.inr h3)
 ·obtain rfl:c=4:=by omega
  have hn:D.1=[]:=List.eq_nil_iff_forall_not_mem.2 fun x hx=>by
   obtain ⟨_,g2,_⟩:=hL.2 x hx
   have:=(hD.al.may.2.1 x hx).2.1
   omega
  rw [<- List.append_nil lpC]
  rcases hin with ⟨h00,hin⟩ | hin
  ·refine Zad names_ok mixed_ok Zao cxN hin ?_ ?_
   ·simp [-Zai,Zab,Zaa,Base.ev,SX.ev,evs,Value.oneCell',binPV]
   ·intro qs a1 w1 hq h1
    simp [evs,SX.ev] at hq
    subst hq
    exact ⟨nofun,fun _=>.inr (.inl ⟨by rw [show Zaf (nth bkA 1)=2 by kernel_rfl];rfl,hQ D _ _ hD hn hL.1 (.inl ⟨h00,h1⟩)⟩)⟩
  ·refine Zad names_ok mixed_ok Zao cxO hin ?_ ?_
   ·simp [-Zai,Zab,Zaa,Base.ev,SX.ev,evs,Value.oneCell',binPV,deskGives.lenL]
   ·intro qs a1 w1 hq h1
    simp [evs,SX.ev] at hq
    subst hq
    exact ⟨nofun,fun _=>.inr (.inl ⟨by rw [show Zaf (nth bkA 1)=2 by kernel_rfl];rfl,hQ D _ _ hD hn hL.1 (.inr h1)⟩)⟩
abbrev stI (first served:List LeM) (f i:Nat):List PV:=[pRow encL first,pRow encL served,pI (f:Int),pI (i:Int)]
def InI (C:Base) (first served:List LeM) (f i:Nat) (A B:List LeM) (a:Act) (w:World):Prop :=
 (A=[]/\B=[]/\Zag C shI00 (stI first served f i) a w) \/ (B=[]/\Zag C shI10 (stI first served f i++[pRow encL A]) a w) \/ (A=[]/\Zag C shI01 (stI first served f i++[pRow encL B]) a w) \/ Zag C shI11 (stI first served f i++[pRow encL A,pRow encL B]) a w
set_option maxHeartbeats 8000000 in
theorem loopI (C:Base) (first served:List LeM) (f:Nat) (hll:served.length=first.length) (hl4:first.length<=1000) (Q:Exit->Act->World->Prop) (R:List Code)
  (hQ:∀ a w,InI C first served f first.length (first.filter (isFl f)) (served.filter (isFl f)) a w->wpL Try.prog R Q a w) {a:Act} {w:World} (hin:InI C first served f 0 [] [] a w) :
  wpL Try.prog (.block (Zaf (nth bkH 2)) (.loop (Zah (nth bkH 2))) :: R) Q a w:=by
 refine Zas (fun n a w=>∃ i,i<=first.length/\n=first.length - i/\InI C first served f i ((first.take i).filter (isFl f)) ((served.take i).filter (isFl f)) a w) ?_ (n:=first.length) ⟨0,by omega,by omega,by simpa using hin⟩
 rintro n a w ⟨i,hi,rfl,hin⟩
 show wpL Try.prog lpI _ a w
 rw [<- List.append_nil lpI]
 by_cases hlt:i < first.length
 ·have hlts:i < served.length:=by omega
  obtain ⟨a0',a1',a2',a3'⟩:=cellL first i hlt
  obtain ⟨b0',b1',b2',b3'⟩:=cellL served i hlts
  have ix:=Zan encL first i 4 4 .i64 rfl hlt (by decide)
  have ix3:=Zan encL first i 4 3 .i64 rfl hlt (by decide)
  have iy:=Zan encL served i 4 4 .i64 rfl hlts (by decide)
  have iy3:=Zan encL served i 4 3 .i64 rfl hlts (by decide)
  have v3:IntKind.i64.wrap ((i:Int)+1)=(i:Int)+1:=wrapI _ (by omega) (by omega)
  obtain ⟨A,hA⟩:∃ A,A=(first.take i).filter (isFl f):=⟨_,rfl⟩
  obtain ⟨B,hB⟩:∃ B,B=(served.take i).filter (isFl f):=⟨_,rfl⟩
  obtain ⟨A',hA'⟩:∃ A',A'=(first.take (i+1)).filter (isFl f):=⟨_,rfl⟩
  obtain ⟨B',hB'⟩:∃ B',B'=(served.take (i+1)).filter (isFl f):=⟨_,rfl⟩
  have hAl:A.length<=1000:=by rw [hA];refine Nat.le_trans (List.length_filter_le _ _) ?_;rw [List.length_take];omega
  have hBl:B.length<=1000:=by rw [hB];refine Nat.le_trans (List.length_filter_le _ _) ?_;rw [List.length_take];omega
  have next:∀ a w,InI C first served f (i+1) A' B' a w->∃ n',n' < first.length - i/\∃ i,i<=first.length/\n'=first.length - i/\InI C first served f i ((first.take i).filter (isFl f)) ((served.take i).filter (isFl f)) a w:=fun a w h=>⟨first.length - (i+1),by omega,i+1,by omega,rfl,by rw [<- hA',<- hB'];exact h⟩
  rw [<- hA,<- hB] at hin
  have rcA:=r_catG A first[i]
  have rcB:=r_catG B served[i]
  have r1A:=r_oneG first[i]
  have r1B:=r_oneG served[i]
  have hal:(A++[first[i]]).length=A.length+1:=by simp
  have hbl:(B++[served[i]]).length=B.length+1:=by simp
  rcases hin with hin | hin | hin | hin
  ·obtain ⟨ha,hb,hin⟩:=hin
   by_cases d1:first[i].2.2.1=(f:Int)
   ·have eA:A'=A++[first[i]]:=by rw [hA',hA,ldp.filt_step hlt (isFl f),if_pos (by simp [isFl,d1])]
    rw [d1] at r1A rcA
    by_cases d2:served[i].2.2.1=(f:Int)
    ·have eB:B'=B++[served[i]]:=by rw [hB',hB,ldp.filt_step hlts (isFl f),if_pos (by simp [isFl,d2])]
     rw [d2] at r1B rcB
     refine Zad names_ok mixed_ok Zao i00_11 hin ?_ ?_
     ·simp [-Zai,Zab,Zaa,Base.ev,SX.ev,evs,Value.oneCell',Zac,deskGives.lenL,binPV,a0',a1',a2',a3',b0',b1',b2',b3',ix,ix3,iy,iy3,v3,hlt,hlts,d1,d2,r1A,r1B]
      all_goals first | omega | exact ⟨⟨A.length+1,by omega,by omega⟩,⟨B.length+1,by omega,by omega⟩,⟨A.length+1,by omega⟩,B.length+1,by omega⟩ | exact ⟨⟨_,rfl,by omega⟩,_,rfl,by omega⟩ | exact ⟨⟨A.length+1,by omega,by omega⟩,A.length+1,by omega⟩ | exact ⟨⟨B.length+1,by omega,by omega⟩,B.length+1,by omega⟩ | skip
     ·intro qs a1 w1 hq h1
      simp [evs,SX.ev,binPV,v3,a0',a1',a2',a3',b0',b1',b2',b3',r1A,r1B,d1,d2] at hq
      subst hq
      refine ⟨fun _=>.inl ⟨rfl,next a1 w1 ?_⟩,fun h=>absurd rfl h⟩
      rw [eA,eB]
      rw [ha]
      rw [hb]
      exact .inr (.inr (.inr h1))
    ·have eB:B'=B:=by rw [hB',hB,ldp.filt_step hlts (isFl f),if_neg (by simp [isFl,d2]),List.append_nil]
     refine Zad names_ok mixed_ok Zao i00_10 hin ?_ ?_
     ·simp [-Zai,Zab,Zaa,Base.ev,SX.ev,evs,Value.oneCell',Zac,deskGives.lenL,binPV,a0',a1',a2',a3',b0',b1',b2',b3',ix,ix3,iy,iy3,v3,hlt,hlts,d1,d2,r1A]
      all_goals first | omega | exact ⟨⟨A.length+1,by omega,by omega⟩,⟨B.length+1,by omega,by omega⟩,⟨A.length+1,by omega⟩,B.length+1,by omega⟩ | exact ⟨⟨_,rfl,by omega⟩,_,rfl,by omega⟩ | exact ⟨⟨A.length+1,by omega,by omega⟩,A.length+1,by omega⟩ | exact ⟨⟨B.length+1,by omega,by omega⟩,B.length+1,by omega⟩ | skip
     ·intro qs a1 w1 hq h1
      simp [evs,SX.ev,binPV,v3,a0',a1',a2',a3',b0',b1',b2',b3',r1A,d1] at hq
      subst hq
      refine ⟨fun _=>.inl ⟨rfl,next a1 w1 ?_⟩,fun h=>absurd rfl h⟩
      rw [eA,eB]
      rw [ha]
      rw [hb]
      exact .inr (.inl ⟨rfl,h1⟩)
   ·have eA:A'=A:=by rw [hA',hA,ldp.filt_step hlt (isFl f),if_neg (by simp [isFl,d1]),List.append_nil]
    by_cases d2:served[i].2.2.1=(f:Int)
    ·have eB:B'=B++[served[i]]:=by rw [hB',hB,ldp.filt_step hlts (isFl f),if_pos (by simp [isFl,d2])]
     rw [d2] at r1B rcB
     refine Zad names_ok mixed_ok Zao i00_01 hin ?_ ?_
     ·simp [-Zai,Zab,Zaa,Base.ev,SX.ev,evs,Value.oneCell',Zac,deskGives.lenL,binPV,a0',a1',a2',a3',b0',b1',b2',b3',ix,ix3,iy,iy3,v3,hlt,hlts,d1,d2,r1B]
      all_goals first | omega | exact ⟨⟨A.length+1,by omega,by omega⟩,⟨B.length+1,by omega,by omega⟩,⟨A.length+1,by omega⟩,B.length+1,by omega⟩ | exact ⟨⟨_,rfl,by omega⟩,_,rfl,by omega⟩ | exact ⟨⟨A.length+1,by omega,by omega⟩,A.length+1,by omega⟩ | exact ⟨⟨B.length+1,by omega,by omega⟩,B.length+1,by omega⟩ | skip
     ·intro qs a1 w1 hq h1
      simp [evs,SX.ev,binPV,v3,a0',a1',a2',a3',b0',b1',b2',b3',r1B,d2] at hq
      subst hq
      refine ⟨fun _=>.inl ⟨rfl,next a1 w1 ?_⟩,fun h=>absurd rfl h⟩
      rw [eA,eB]
      rw [ha]
      rw [hb]
      exact .inr (.inr (.inl ⟨rfl,h1⟩))
    ·have eB:B'=B:=by rw [hB',hB,ldp.filt_step hlts (isFl f),if_neg (by simp [isFl,d2]),List.append_nil]
     refine Zad names_ok mixed_ok Zao i00_00 hin ?_ ?_
     ·simp [-Zai,Zab,Zaa,Base.ev,SX.ev,evs,Value.oneCell',Zac,deskGives.lenL,binPV,a0',a1',a2',a3',b0',b1',b2',b3',ix,ix3,iy,iy3,v3,hlt,hlts,d1,d2]
      all_goals first | omega | exact ⟨⟨A.length+1,by omega,by omega⟩,⟨B.length+1,by omega,by omega⟩,⟨A.length+1,by omega⟩,B.length+1,by omega⟩ | exact ⟨⟨_,rfl,by omega⟩,_,rfl,by omega⟩ | exact ⟨⟨A.length+1,by omega,by omega⟩,A.length+1,by omega⟩ | exact ⟨⟨B.length+1,by omega,by omega⟩,B.length+1,by omega⟩ | skip
     ·intro qs a1 w1 hq h1
      simp [evs,SX.ev,binPV,v3,a0',a1',a2',a3',b0',b1',b2',b3'] at hq
      subst hq
      refine ⟨fun _=>.inl ⟨rfl,next a1 w1 ?_⟩,fun h=>absurd rfl h⟩
      rw [eA,eB]
      rw [ha]
      rw [hb]
      exact .inl ⟨rfl,rfl,h1⟩
  ·obtain ⟨hb,hin⟩:=hin
   by_cases d1:first[i].2.2.1=(f:Int)
   ·have eA:A'=A++[first[i]]:=by rw [hA',hA,ldp.filt_step hlt (isFl f),if_pos (by simp [isFl,d1])]
    rw [d1] at r1A rcA
    by_cases d2:served[i].2.2.1=(f:Int)
    ·have eB:B'=B++[served[i]]:=by rw [hB',hB,ldp.filt_step hlts (isFl f),if_pos (by simp [isFl,d2])]
     rw [d2] at r1B rcB
     refine Zad names_ok mixed_ok Zao i10_11 hin ?_ ?_
     ·simp [-Zai,Zab,Zaa,Base.ev,SX.ev,evs,Value.oneCell',Zac,deskGives.lenL,binPV,a0',a1',a2',a3',b0',b1',b2',b3',ix,ix3,iy,iy3,v3,hlt,hlts,d1,d2,rcA,r1B]
      all_goals first | omega | exact ⟨⟨A.length+1,by omega,by omega⟩,⟨B.length+1,by omega,by omega⟩,⟨A.length+1,by omega⟩,B.length+1,by omega⟩ | exact ⟨⟨_,rfl,by omega⟩,_,rfl,by omega⟩ | exact ⟨⟨A.length+1,by omega,by omega⟩,A.length+1,by omega⟩ | exact ⟨⟨B.length+1,by omega,by omega⟩,B.length+1,by omega⟩ | skip
     ·intro qs a1 w1 hq h1
      simp [evs,SX.ev,binPV,v3,a0',a1',a2',a3',b0',b1',b2',b3',rcA,r1B,d1,d2] at hq
      subst hq
      refine ⟨fun _=>.inl ⟨rfl,next a1 w1 ?_⟩,fun h=>absurd rfl h⟩
      rw [eA,eB]
      rw [hb]
      exact .inr (.inr (.inr h1))
    ·have eB:B'=B:=by rw [hB',hB,ldp.filt_step hlts (isFl f),if_neg (by simp [isFl,d2]),List.append_nil]
     refine Zad names_ok mixed_ok Zao i10_10 hin ?_ ?_
     ·simp [-Zai,Zab,Zaa,Base.ev,SX.ev,evs,Value.oneCell',Zac,deskGives.lenL,binPV,a0',a1',a2',a3',b0',b1',b2',b3',ix,ix3,iy,iy3,v3,hlt,hlts,d1,d2,rcA]
      all_goals first | omega | exact ⟨⟨A.length+1,by omega,by omega⟩,⟨B.length+1,by omega,by omega⟩,⟨A.length+1,by omega⟩,B.length+1,by omega⟩ | exact ⟨⟨_,rfl,by omega⟩,_,rfl,by omega⟩ | exact ⟨⟨A.length+1,by omega,by omega⟩,A.length+1,by omega⟩ | exact ⟨⟨B.length+1,by omega,by omega⟩,B.length+1,by omega⟩ | skip
     ·intro qs a1 w1 hq h1
      simp [evs,SX.ev,binPV,v3,a0',a1',a2',a3',b0',b1',b2',b3',rcA,d1] at hq
      subst hq
      refine ⟨fun _=>.inl ⟨rfl,next a1 w1 ?_⟩,fun h=>absurd rfl h⟩
      rw [eA,eB]
      rw [hb]
      exact .inr (.inl ⟨rfl,h1⟩)
   ·have eA:A'=A:=by rw [hA',hA,ldp.filt_step hlt (isFl f),if_neg (by simp [isFl,d1]),List.append_nil]
    by_cases d2:served[i].2.2.1=(f:Int)
    ·have eB:B'=B++[served[i]]:=by rw [hB',hB,ldp.filt_step hlts (isFl f),if_pos (by simp [isFl,d2])]
     rw [d2] at r1B rcB
     refine Zad names_ok mixed_ok Zao i10_01 hin ?_ ?_
     ·simp [-Zai,Zab,Zaa,Base.ev,SX.ev,evs,Value.oneCell',Zac,deskGives.lenL,binPV,a0',a1',a2',a3',b0',b1',b2',b3',ix,ix3,iy,iy3,v3,hlt,hlts,d1,d2,r1B]
      all_goals first | omega | exact ⟨⟨A.length+1,by omega,by omega⟩,⟨B.length+1,by omega,by omega⟩,⟨A.length+1,by omega⟩,B.length+1,by omega⟩ | exact ⟨⟨_,rfl,by omega⟩,_,rfl,by omega⟩ | exact ⟨⟨A.length+1,by omega,by omega⟩,A.length+1,by omega⟩ | exact ⟨⟨B.length+1,by omega,by omega⟩,B.length+1,by omega⟩ | skip
     ·intro qs a1 w1 hq h1
      simp [evs,SX.ev,binPV,v3,a0',a1',a2',a3',b0',b1',b2',b3',r1B,d2] at hq
      subst hq
      refine ⟨fun _=>.inl ⟨rfl,next a1 w1 ?_⟩,fun h=>absurd rfl h⟩
      rw [eA,eB]
      rw [hb]
      exact .inr (.inr (.inr h1))
    ·have eB:B'=B:=by rw [hB',hB,ldp.filt_step hlts (isFl f),if_neg (by simp [isFl,d2]),List.append_nil]
     refine Zad names_ok mixed_ok Zao i10_00 hin ?_ ?_
     ·simp [-Zai,Zab,Zaa,Base.ev,SX.ev,evs,Value.oneCell',Zac,deskGives.lenL,binPV,a0',a1',a2',a3',b0',b1',b2',b3',ix,ix3,iy,iy3,v3,hlt,hlts,d1,d2]
      all_goals first | omega | exact ⟨⟨A.length+1,by omega,by omega⟩,⟨B.length+1,by omega,by omega⟩,⟨A.length+1,by omega⟩,B.length+1,by omega⟩ | exact ⟨⟨_,rfl,by omega⟩,_,rfl,by omega⟩ | exact ⟨⟨A.length+1,by omega,by omega⟩,A.length+1,by omega⟩ | exact ⟨⟨B.length+1,by omega,by omega⟩,B.length+1,by omega⟩ | skip
     ·intro qs a1 w1 hq h1
      simp [evs,SX.ev,binPV,v3,a0',a1',a2',a3',b0',b1',b2',b3'] at hq
      subst hq
      refine ⟨fun _=>.inl ⟨rfl,next a1 w1 ?_⟩,fun h=>absurd rfl h⟩
      rw [eA,eB]
      rw [hb]
      exact .inr (.inl ⟨rfl,h1⟩)
  ·obtain ⟨ha,hin⟩:=hin
   by_cases d1:first[i].2.2.1=(f:Int)
   ·have eA:A'=A++[first[i]]:=by rw [hA',hA,ldp.filt_step hlt (isFl f),if_pos (by simp [isFl,d1])]
    rw [d1] at r1A rcA
    by_cases d2:served[i].2.2.1=(f:Int)
    ·have eB:B'=B++[served[i]]:=by rw [hB',hB,ldp.filt_step hlts (isFl f),if_pos (by simp [isFl,d2])]
     rw [d2] at r1B rcB
     refine Zad names_ok mixed_ok Zao i01_11 hin ?_ ?_
     ·simp [-Zai,Zab,Zaa,Base.ev,SX.ev,evs,Value.oneCell',Zac,deskGives.lenL,binPV,a0',a1',a2',a3',b0',b1',b2',b3',ix,ix3,iy,iy3,v3,hlt,hlts,d1,d2,r1A,rcB]
      all_goals first | omega | exact ⟨⟨A.length+1,by omega,by omega⟩,⟨B.length+1,by omega,by omega⟩,⟨A.length+1,by omega⟩,B.length+1,by omega⟩ | exact ⟨⟨_,rfl,by omega⟩,_,rfl,by omega⟩ | exact ⟨⟨A.length+1,by omega,by omega⟩,A.length+1,by omega⟩ | exact ⟨⟨B.length+1,by omega,by omega⟩,B.length+1,by omega⟩ | skip
     ·intro qs a1 w1 hq h1
      simp [evs,SX.ev,binPV,v3,a0',a1',a2',a3',b0',b1',b2',b3',r1A,rcB,d1,d2] at hq
      subst hq
      refine ⟨fun _=>.inl ⟨rfl,next a1 w1 ?_⟩,fun h=>absurd rfl h⟩
      rw [eA,eB]
      rw [ha]
      exact .inr (.inr (.inr h1))
    ·have eB:B'=B:=by rw [hB',hB,ldp.filt_step hlts (isFl f),if_neg (by simp [isFl,d2]),List.append_nil]
     refine Zad names_ok mixed_ok Zao i01_10 hin ?_ ?_
     ·simp [-Zai,Zab,Zaa,Base.ev,SX.ev,evs,Value.oneCell',Zac,deskGives.lenL,binPV,a0',a1',a2',a3',b0',b1',b2',b3',ix,ix3,iy,iy3,v3,hlt,hlts,d1,d2,r1A]
      all_goals first | omega | exact ⟨⟨A.length+1,by omega,by omega⟩,⟨B.length+1,by omega,by omega⟩,⟨A.length+1,by omega⟩,B.length+1,by omega⟩ | exact ⟨⟨_,rfl,by omega⟩,_,rfl,by omega⟩ | exact ⟨⟨A.length+1,by omega,by omega⟩,A.length+1,by omega⟩ | exact ⟨⟨B.length+1,by omega,by omega⟩,B.length+1,by omega⟩ | skip
     ·intro qs a1 w1 hq h1
      simp [evs,SX.ev,binPV,v3,a0',a1',a2',a3',b0',b1',b2',b3',r1A,d1] at hq
      subst hq
      refine ⟨fun _=>.inl ⟨rfl,next a1 w1 ?_⟩,fun h=>absurd rfl h⟩
      rw [eA,eB]
      rw [ha]
      exact .inr (.inr (.inr h1))
   ·have eA:A'=A:=by rw [hA',hA,ldp.filt_step hlt (isFl f),if_neg (by simp [isFl,d1]),List.append_nil]
    by_cases d2:served[i].2.2.1=(f:Int)
    ·have eB:B'=B++[served[i]]:=by rw [hB',hB,ldp.filt_step hlts (isFl f),if_pos (by simp [isFl,d2])]
     rw [d2] at r1B rcB
     refine Zad names_ok mixed_ok Zao i01_01 hin ?_ ?_
     ·simp [-Zai,Zab,Zaa,Base.ev,SX.ev,evs,Value.oneCell',Zac,deskGives.lenL,binPV,a0',a1',a2',a3',b0',b1',b2',b3',ix,ix3,iy,iy3,v3,hlt,hlts,d1,d2,rcB]
      all_goals first | omega | exact ⟨⟨A.length+1,by omega,by omega⟩,⟨B.length+1,by omega,by omega⟩,⟨A.length+1,by omega⟩,B.length+1,by omega⟩ | exact ⟨⟨_,rfl,by omega⟩,_,rfl,by omega⟩ | exact ⟨⟨A.length+1,by omega,by omega⟩,A.length+1,by omega⟩ | exact ⟨⟨B.length+1,by omega,by omega⟩,B.length+1,by omega⟩ | skip
     ·intro qs a1 w1 hq h1
      simp [evs,SX.ev,binPV,v3,a0',a1',a2',a3',b0',b1',b2',b3',rcB,d2] at hq
      subst hq
      refine ⟨fun _=>.inl ⟨rfl,next a1 w1 ?_⟩,fun h=>absurd rfl h⟩
      rw [eA,eB]
      rw [ha]
      exact .inr (.inr (.inl ⟨rfl,h1⟩))
    ·have eB:B'=B:=by rw [hB',hB,ldp.filt_step hlts (isFl f),if_neg (by simp [isFl,d2]),List.append_nil]
     refine Zad names_ok mixed_ok Zao i01_00 hin ?_ ?_
     ·simp [-Zai,Zab,Zaa,Base.ev,SX.ev,evs,Value.oneCell',Zac,deskGives.lenL,binPV,a0',a1',a2',a3',b0',b1',b2',b3',ix,ix3,iy,iy3,v3,hlt,hlts,d1,d2]
      all_goals first | omega | exact ⟨⟨A.length+1,by omega,by omega⟩,⟨B.length+1,by omega,by omega⟩,⟨A.length+1,by omega⟩,B.length+1,by omega⟩ | exact ⟨⟨_,rfl,by omega⟩,_,rfl,by omega⟩ | exact ⟨⟨A.length+1,by omega,by omega⟩,A.length+1,by omega⟩ | exact ⟨⟨B.length+1,by omega,by omega⟩,B.length+1,by omega⟩ | skip
     ·intro qs a1 w1 hq h1
      simp [evs,SX.ev,binPV,v3,a0',a1',a2',a3',b0',b1',b2',b3'] at hq
      subst hq
      refine ⟨fun _=>.inl ⟨rfl,next a1 w1 ?_⟩,fun h=>absurd rfl h⟩
      rw [eA,eB]
      rw [ha]
      exact .inr (.inr (.inl ⟨rfl,h1⟩))
  ·skip
   by_cases d1:first[i].2.2.1=(f:Int)
   ·have eA:A'=A++[first[i]]:=by rw [hA',hA,ldp.filt_step hlt (isFl f),if_pos (by simp [isFl,d1])]
    rw [d1] at r1A rcA
    by_cases d2:served[i].2.2.1=(f:Int)
    ·have eB:B'=B++[served[i]]:=by rw [hB',hB,ldp.filt_step hlts (isFl f),if_pos (by simp [isFl,d2])]
     rw [d2] at r1B rcB
     refine Zad names_ok mixed_ok Zao i11_11 hin ?_ ?_
     ·simp [-Zai,Zab,Zaa,Base.ev,SX.ev,evs,Value.oneCell',Zac,deskGives.lenL,binPV,a0',a1',a2',a3',b0',b1',b2',b3',ix,ix3,iy,iy3,v3,hlt,hlts,d1,d2,rcA,rcB]
      all_goals first | omega | exact ⟨⟨A.length+1,by omega,by omega⟩,⟨B.length+1,by omega,by omega⟩,⟨A.length+1,by omega⟩,B.length+1,by omega⟩ | exact ⟨⟨_,rfl,by omega⟩,_,rfl,by omega⟩ | exact ⟨⟨A.length+1,by omega,by omega⟩,A.length+1,by omega⟩ | exact ⟨⟨B.length+1,by omega,by omega⟩,B.length+1,by omega⟩ | skip
     ·intro qs a1 w1 hq h1
      simp [evs,SX.ev,binPV,v3,a0',a1',a2',a3',b0',b1',b2',b3',rcA,rcB,d1,d2] at hq
      subst hq
      refine ⟨fun _=>.inl ⟨rfl,next a1 w1 ?_⟩,fun h=>absurd rfl h⟩
      rw [eA,eB]
      exact .inr (.inr (.inr h1))
    ·have eB:B'=B:=by rw [hB',hB,ldp.filt_step hlts (isFl f),if_neg (by simp [isFl,d2]),List.append_nil]
     refine Zad names_ok mixed_ok Zao i11_10 hin ?_ ?_
     ·simp [-Zai,Zab,Zaa,Base.ev,SX.ev,evs,Value.oneCell',Zac,deskGives.lenL,binPV,a0',a1',a2',a3',b0',b1',b2',b3',ix,ix3,iy,iy3,v3,hlt,hlts,d1,d2,rcA]
      all_goals first | omega | exact ⟨⟨A.length+1,by omega,by omega⟩,⟨B.length+1,by omega,by omega⟩,⟨A.length+1,by omega⟩,B.length+1,by omega⟩ | exact ⟨⟨_,rfl,by omega⟩,_,rfl,by omega⟩ | exact ⟨⟨A.length+1,by omega,by omega⟩,A.length+1,by omega⟩ | exact ⟨⟨B.length+1,by omega,by omega⟩,B.length+1,by omega⟩ | skip
     ·intro qs a1 w1 hq h1
      simp [evs,SX.ev,binPV,v3,a0',a1',a2',a3',b0',b1',b2',b3',rcA,d1] at hq
      subst hq
      refine ⟨fun _=>.inl ⟨rfl,next a1 w1 ?_⟩,fun h=>absurd rfl h⟩
      rw [eA,eB]
      exact .inr (.inr (.inr h1))
   ·have eA:A'=A:=by rw [hA',hA,ldp.filt_step hlt (isFl f),if_neg (by simp [isFl,d1]),List.append_nil]
    by_cases d2:served[i].2.2.1=(f:Int)
    ·have eB:B'=B++[served[i]]:=by rw [hB',hB,ldp.filt_step hlts (isFl f),if_pos (by simp [isFl,d2])]
     rw [d2] at r1B rcB
     refine Zad names_ok mixed_ok Zao i11_01 hin ?_ ?_
     ·simp [-Zai,Zab,Zaa,Base.ev,SX.ev,evs,Value.oneCell',Zac,deskGives.lenL,binPV,a0',a1',a2',a3',b0',b1',b2',b3',ix,ix3,iy,iy3,v3,hlt,hlts,d1,d2,rcB]
      all_goals first | omega | exact ⟨⟨A.length+1,by omega,by omega⟩,⟨B.length+1,by omega,by omega⟩,⟨A.length+1,by omega⟩,B.length+1,by omega⟩ | exact ⟨⟨_,rfl,by omega⟩,_,rfl,by omega⟩ | exact ⟨⟨A.length+1,by omega,by omega⟩,A.length+1,by omega⟩ | exact ⟨⟨B.length+1,by omega,by omega⟩,B.length+1,by omega⟩ | skip
     ·intro qs a1 w1 hq h1
      simp [evs,SX.ev,binPV,v3,a0',a1',a2',a3',b0',b1',b2',b3',rcB,d2] at hq
      subst hq
      refine ⟨fun _=>.inl ⟨rfl,next a1 w1 ?_⟩,fun h=>absurd rfl h⟩
      rw [eA,eB]
      exact .inr (.inr (.inr h1))
    ·have eB:B'=B:=by rw [hB',hB,ldp.filt_step hlts (isFl f),if_neg (by simp [isFl,d2]),List.append_nil]
     refine Zad names_ok mixed_ok Zao i11_00 hin ?_ ?_
     ·simp [-Zai,Zab,Zaa,Base.ev,SX.ev,evs,Value.oneCell',Zac,deskGives.lenL,binPV,a0',a1',a2',a3',b0',b1',b2',b3',ix,ix3,iy,iy3,v3,hlt,hlts,d1,d2]
      all_goals first | omega | exact ⟨⟨A.length+1,by omega,by omega⟩,⟨B.length+1,by omega,by omega⟩,⟨A.length+1,by omega⟩,B.length+1,by omega⟩ | exact ⟨⟨_,rfl,by omega⟩,_,rfl,by omega⟩ | exact ⟨⟨A.length+1,by omega,by omega⟩,A.length+1,by omega⟩ | exact ⟨⟨B.length+1,by omega,by omega⟩,B.length+1,by omega⟩ | skip
     ·intro qs a1 w1 hq h1
      simp [evs,SX.ev,binPV,v3,a0',a1',a2',a3',b0',b1',b2',b3'] at hq
      subst hq
      refine ⟨fun _=>.inl ⟨rfl,next a1 w1 ?_⟩,fun h=>absurd rfl h⟩
      rw [eA,eB]
      exact .inr (.inr (.inr h1))
 ·have hie:i=first.length:=by omega
  subst hie
  have e1:first.take first.length=first:=List.take_length
  have e2:served.take first.length=served:=List.take_of_length_le (by omega)
  rw [e1,e2] at hin
  generalize first.filter (isFl f)=A at *
  generalize served.filter (isFl f)=B at *
  rcases hin with ⟨ha,hb,hin⟩ | ⟨hb,hin⟩ | ⟨ha,hin⟩ | hin
  ·refine Zad names_ok mixed_ok Zao ix00 hin ?_ ?_
   ·simp [-Zai,Zab,Zaa,Base.ev,SX.ev,evs,Value.oneCell',Zac,binPV]
   ·intro qs a1 w1 hq h1
    simp [evs,SX.ev] at hq
    subst hq
    exact ⟨nofun,fun _=>.inr (.inl ⟨by rw [show Zaf (nth bkH 2)=8 by kernel_rfl];rfl,hQ _ _ (.inl ⟨ha,hb,h1⟩)⟩)⟩
  ·refine Zad names_ok mixed_ok Zao ix10 hin ?_ ?_
   ·simp [-Zai,Zab,Zaa,Base.ev,SX.ev,evs,Value.oneCell',Zac,deskGives.lenL,binPV]
   ·intro qs a1 w1 hq h1
    simp [evs,SX.ev] at hq
    subst hq
    exact ⟨nofun,fun _=>.inr (.inl ⟨by rw [show Zaf (nth bkH 2)=8 by kernel_rfl];rfl,hQ _ _ (.inr (.inl ⟨hb,h1⟩))⟩)⟩
  ·refine Zad names_ok mixed_ok Zao ix01 hin ?_ ?_
   ·simp [-Zai,Zab,Zaa,Base.ev,SX.ev,evs,Value.oneCell',Zac,deskGives.lenL,binPV]
   ·intro qs a1 w1 hq h1
    simp [evs,SX.ev] at hq
    subst hq
    exact ⟨nofun,fun _=>.inr (.inl ⟨by rw [show Zaf (nth bkH 2)=8 by kernel_rfl];rfl,hQ _ _ (.inr (.inr (.inl ⟨ha,h1⟩)))⟩)⟩
  ·refine Zad names_ok mixed_ok Zao ix11 hin ?_ ?_
   ·simp [-Zai,Zab,Zaa,Base.ev,SX.ev,evs,Value.oneCell',Zac,deskGives.lenL,binPV]
   ·intro qs a1 w1 hq h1
    simp [evs,SX.ev] at hq
    subst hq
    exact ⟨nofun,fun _=>.inr (.inl ⟨by rw [show Zaf (nth bkH 2)=8 by kernel_rfl];rfl,hQ _ _ (.inr (.inr (.inr h1)))⟩)⟩
abbrev stH (first served:List LeM) (f:Nat):List PV:=[pRow encL first,pRow encL served,pI (f:Int)]
set_option maxHeartbeats 4000000 in
theorem told (k0:Nat):ToldF 8 (ELaw k0) (spec RL):=by
 refine Zcy G _ (Za1 Try.prog 8) Try.func8 (by kernel_rfl) sh0 (by kernel_rfl) ?_ ?_
 ·intro ps qs h
  obtain ⟨p,_,_,rfl,rfl⟩:=Zal h
  exact Zb3 rfl
 ·intro C ps qs hF h a w hsh
  obtain ⟨p,hp,hpl,rfl,rfl⟩:=Zal h
  show wpL Try.prog flA _ a w
  have fin:∀ qs a1 w1,qs=[pB true]->Zag C shR qs a1 w1->(AX.ret=.normal->wpL Try.prog [] (fun e a' w'=>(e=.normal \/ e=.ret)/\∃ sh' ps' es,Zag C sh' ps' a' w'/\resTo Try.prog Try.f8 sh' (ELaw k0)=some es/\evs (fun i=>ps'[i]?) G es=some [pB true]) a1 w1)/\(AX.ret ≠ .normal->(AX.ret.to=.normal \/ AX.ret.to=.ret)/\∃ sh' ps' es,Zag C sh' ps' a1 w1/\resTo Try.prog Try.f8 sh' (ELaw k0)=some es/\evs (fun i=>ps'[i]?) G es=some [pB true]):=by
   rintro qs a1 w1 rfl h1
   exact ⟨nofun,fun _=>⟨.inr rfl,shR,_,[SX.var 0],h1,by kernel_rfl,rfl⟩⟩
  by_cases hl1:100 < p.length
  ·rw [<- List.append_nil flA]
   refine Zad names_ok mixed_ok Zao q1 hsh ?_ (fun qs a1 w1 hq h1=>fin qs a1 w1 (by simp [evs,SX.ev] at hq;exact hq.symm) h1)
   simp [-Zai,Zab,Zaa,Base.ev,SX.ev,evs,Value.oneCell',hF,Zac,binPV,G8,u8]
   all_goals omega
  have hok:OkP p 0:=⟨by omega,by omega,hp⟩
  have hPI:=pi_all hok
  obtain ⟨R,hR⟩:∃ R,dkRun p 25 0 ⟨([],[]),0,0⟩=R:=⟨_,rfl⟩
  have g24:=G24 hok hR
  rw [hR] at hPI
  obtain ⟨d0,now,n0⟩:=R
  have hp0:=hPI.t0
  have hp1:=hPI.t1
  have hdi:=hPI.di
  have hf3:=hPI.f3
  have hl3:=hPI.l3
  simp only at hp0 hp1 hdi hf3 hl3 g24
  clear hPI hR
  have hd4:=hdi.l4
  rw [cutA]
  refine Zad names_ok mixed_ok Zao pre hsh ?_ ?_
  ·simp [-Zai,Zab,Zaa,Base.ev,SX.ev,evs,Value.oneCell',hF,Zac,binPV,G8,u8,g24,u24]
   all_goals omega
  intro qs a1 w1 hq h1
  refine ⟨fun _=>?_,fun h=>absurd rfl h⟩
  simp [evs,SX.ev,hF,g24] at hq
  subst hq
  have hGv:Gv d0 now [] d0.2:=⟨hdi,hf3,fun f=>rfl,by simp⟩
  obtain ⟨first,hfirst⟩:∃ first,first=d0.2:=⟨_,rfl⟩
  rw [<- hfirst] at h1 hGv
  have hfl:first.length<=4:=by rw [hfirst];exact hd4
  have hd4':d0.2.length<=4 - 0:=hd4
  refine Zas (fun q' a w=>∃ (i:Nat) (d:Desk) (acc:List LeM),i<=12/\q'=12 - i/\Gv d now acc first/\(∀ x ∈ d.1,x.2.1<=3)/\d.2.length<=4 - i/\InA C now first i d acc a w) ?_ (n:=12) ⟨0,d0,[],by omega,by omega,hGv,hl3,hd4',.inl ⟨rfl,by rw [hfirst] at h1 ⊢;exact h1⟩⟩
  clear hGv hdi hf3 hl3 hd4 hd4' h1 g24 hfirst
  rintro q' a w ⟨i,d,acc,hi,rfl,hG,hl3,hd4,hin⟩
  show wpL Try.prog lpA _ a w
  have hal:acc.length<=4:=by have:=hG.len;omega
  by_cases hlt:i < 12
  ·have v3:IntKind.i64.wrap ((i:Int)+1)=(i:Int)+1:=wrapI _ (by omega) (by omega)
   have hii:(i:Int) < 12:=by omega
   obtain ⟨Q,hQ⟩:∃ Q:Exit->Act->World->Prop,Q=(fun e a' w'=>(e=.normal/\∃ n',n' < 12 - i/\∃ (j:Nat) (d:Desk) (acc:List LeM),j<=12/\n'=12 - j/\Gv d now acc first/\(∀ x ∈ d.1,x.2.1<=3)/\d.2.length<=4 - j/\InA C now first j d acc a' w') \/ (e=.exit (Zaf (nth flA 9))/\wpL Try.prog ((flA.drop 10).take 3++.block (Zaf (nth flA 13)) (.loop (Zah (nth flA 13))) :: flA.drop 14) (fun e a' w'=>(e=.normal \/ e=.ret)/\∃ sh' ps' es,Zag C sh' ps' a' w'/\resTo Try.prog Try.f8 sh' (ELaw k0)=some es/\evs (fun i=>ps'[i]?) G es=some [pB true]) a' w') \/ (e=.ret/\(((Exit.ret=.normal) \/ Exit.ret=.ret)/\∃ sh' ps' es,Zag C sh' ps' a' w'/\resTo Try.prog Try.f8 sh' (ELaw k0)=some es/\evs (fun i=>ps'[i]?) G es=some [pB true]))):=⟨_,rfl⟩
   obtain ⟨QB,hQB⟩:∃ QB:Exit->Act->World->Prop,QB=(fun e a' w'=>(e=.normal/\wpL Try.prog (lpA.drop 3) Q a' w') \/ (e=.exit (Zaf (nth lpA 2))/\wpL Try.prog (lpA.drop 3) Q a' w') \/ (e=.ret/\Q .ret a' w') \/ (∃ j,j ≠ (Zaf (nth lpA 2))/\e=.exit j/\Q (.exit j) a' w') \/ (∃ ch,e=.panic ch/\Q (.panic ch) a' w')):=⟨_,rfl⟩
   have stp:∀ (D:Desk) (acc2:List LeM),Gv D now acc2 first->(∀ x ∈ D.1,x.2.1<=3)->D.2.length<=4 - (i+1)->∀ a w,InA C now first i D acc2 a w->wpL Try.prog (lpA.drop 3) Q a w:=by
    intro D acc2 hG2 h3 h4 a w hin
    have hal2:acc2.length<=4:=by have:=hG2.len;omega
    rw [hQ,<- List.append_nil (lpA.drop 3)]
    rcases hin with ⟨h00,hin⟩ | hin
    ·refine Zad names_ok mixed_ok Zao asN hin ?_ ?_
     ·simp [-Zai,Zab,Zaa,Base.ev,SX.ev,evs,Value.oneCell',binPV,v3]
     ·intro qs a2 w2 hq h2
      simp [evs,SX.ev,binPV,v3] at hq
      subst hq
      exact ⟨fun _=>.inl ⟨rfl,12 - (i+1),by omega,i+1,D,acc2,by omega,rfl,hG2,h3,h4,.inl ⟨h00,h2⟩⟩,fun h=>absurd rfl h⟩
    ·refine Zad names_ok mixed_ok Zao asO hin ?_ ?_
     ·simp [-Zai,Zab,Zaa,Base.ev,SX.ev,evs,Value.oneCell',binPV,v3,deskGives.lenL]
     ·intro qs a2 w2 hq h2
      simp [evs,SX.ev,binPV,v3] at hq
      subst hq
      exact ⟨fun _=>.inl ⟨rfl,12 - (i+1),by omega,i+1,D,acc2,by omega,rfl,hG2,h3,h4,.inr h2⟩,fun h=>absurd rfl h⟩
   rw [<- hQ,cutL]
   clear hQ
   have run:∀ D a w,DI D now->D.1=[]->D.2=d.2->InA C now first i D acc a w->wpL Try.prog (bkA.drop 2) QB a w:=by
    intro D a w hD hn hD2 hin'
    have hG1:Gv D now acc first:=⟨hD,by rw [hD2];exact hG.file,by rw [hD2];exact hG.same,by rw [hD2];exact hG.len⟩
    obtain ⟨hG2,hlen⟩:=gv_run hG1 hn hp0 (by omega)
    have e3:=G3 hD (Int.le_refl now) hp0 (by omega)
    have h3:=dpk.run_l3 hD (Int.le_refl now) hp0 (by omega) (by rw [hn];simp) hG1.file
    generalize dix.callsF (dkm.clashW (runD now D).1 now) (runD now D).1.2 []=CF at *
    generalize runD now D=Z at *
    obtain ⟨X,lt⟩:=Z
    simp only at hG2 hlen e3 h3
    have hla:(acc++lt).length<=4:=by have:=hG2.len;omega
    have hll:acc.length+lt.length<=4:=by rw [List.length_append] at hla;exact hla
    have hX4:X.2.length<=4 - (i+1):=by rw [hD2] at hlen;omega
    have cl:=Zgi encL lt 4 rfl (by omega)
    have rc:ropPV .cat [pRow encL acc,pRow encL lt]=some (pRow encL (acc++lt)):=by simp [ropPV,pRow,Enc.all]
    rw [<- List.append_nil (bkA.drop 2),hQB]
    rcases hin' with ⟨h00,hin'⟩ | hin'
    ·subst h00
     by_cases hz:lt=[]
     ·subst hz
      refine Zad names_ok mixed_ok Zao rNN hin' ?_ ?_
      ·simp [-Zai,Zab,Zaa,Base.ev,SX.ev,evs,Value.oneCell',hF,binPV,e3,u3,deskGives.k3,deskGives.lenL,cl]
      ·intro qs a2 w2 hq h2
       simp [evs,SX.ev,hF,e3] at hq
       subst hq
       exact ⟨fun _=>.inl ⟨rfl,stp X [] (by simpa using hG2) h3 hX4 a2 w2 (.inl ⟨rfl,h2⟩)⟩,fun h=>absurd rfl h⟩
     ·have hpos:0 < lt.length:=List.length_pos_iff.2 hz
      simp only [List.nil_append] at rc hG2
      refine Zad names_ok mixed_ok Zao rNO hin' ?_ ?_
      ·simp [-Zai,Zab,Zaa,Base.ev,SX.ev,evs,Value.oneCell',hF,binPV,e3,u3,deskGives.k3,deskGives.lenL,rc,cl,hz,hpos]
       all_goals first | omega | exact ⟨⟨lt.length,by omega,by omega⟩,lt.length,by omega⟩ | skip
      ·intro qs a2 w2 hq h2
       simp [evs,SX.ev,hF,e3,rc] at hq
       subst hq
       exact ⟨fun _=>.inl ⟨rfl,stp X lt hG2 h3 hX4 a2 w2 (.inr h2)⟩,fun h=>absurd rfl h⟩
    ·refine Zad names_ok mixed_ok Zao rOO hin' ?_ ?_
     ·simp [-Zai,Zab,Zaa,Base.ev,SX.ev,evs,Value.oneCell',hF,binPV,e3,u3,deskGives.k3,deskGives.lenL,rc,cl]
      all_goals first | omega | exact ⟨⟨acc.length+lt.length,by omega,by omega⟩,acc.length+lt.length,by omega⟩ | skip
     ·intro qs a2 w2 hq h2
      simp [evs,SX.ev,hF,e3,rc] at hq
      subst hq
      exact ⟨fun _=>.inl ⟨rfl,stp X (acc++lt) hG2 h3 hX4 a2 w2 (.inr h2)⟩,fun h=>absurd rfl h⟩
   clear stp
   rcases hin with ⟨h00,hin⟩ | hin
   ·refine Zad names_ok mixed_ok Zao ahN hin ?_ ?_
    ·simp [-Zai,Zab,Zaa,Base.ev,SX.ev,evs,Value.oneCell',binPV,hii,hlt]
    intro qs a2 w2 hq h2
    refine ⟨fun _=>?_,fun h=>absurd rfl h⟩
    simp [evs,SX.ev] at hq
    subst hq
    refine Zcj ?_
    rw [<- hQB]
    show wpL Try.prog bkA QB a2 w2
    rw [cutB]
    refine Zad names_ok mixed_ok Zao amN h2 ?_ ?_
    ·simp [-Zai,Zab,Zaa,Base.ev,SX.ev,evs,Value.oneCell',binPV]
    intro qs a3 w3 hq h3
    refine ⟨fun _=>?_,fun h=>absurd rfl h⟩
    simp [evs,SX.ev] at hq
    subst hq
    exact loopC C hF now first i d hl3 acc QB (bkA.drop 2) run hG.di (.inl ⟨h00,h3⟩)
   ·refine Zad names_ok mixed_ok Zao ahO hin ?_ ?_
    ·simp [-Zai,Zab,Zaa,Base.ev,SX.ev,evs,Value.oneCell',binPV,hii,hlt,deskGives.lenL]
    intro qs a2 w2 hq h2
    refine ⟨fun _=>?_,fun h=>absurd rfl h⟩
    simp [evs,SX.ev] at hq
    subst hq
    refine Zcj ?_
    rw [<- hQB]
    show wpL Try.prog bkA QB a2 w2
    rw [cutB]
    refine Zad names_ok mixed_ok Zao amO h2 ?_ ?_
    ·simp [-Zai,Zab,Zaa,Base.ev,SX.ev,evs,Value.oneCell',binPV,deskGives.lenL]
    intro qs a3 w3 hq h3
    refine ⟨fun _=>?_,fun h=>absurd rfl h⟩
    simp [evs,SX.ev] at hq
    subst hq
    exact loopC C hF now first i d hl3 acc QB (bkA.drop 2) run hG.di (.inr h3)
  ·obtain rfl:i=12:=by omega
   have hd0:d.2=[]:=List.eq_nil_of_length_eq_zero (by omega)
   have hsame:=hG.same
   have hlen:=hG.len
   rw [hd0] at hsame hlen
   simp only [List.append_nil,List.length_nil,Nat.add_zero] at hsame hlen
   have tail:∀ a w,Zag C shH (stH first acc 1) a w->wpL Try.prog (.block (Zaf (nth flA 13)) (.loop (Zah (nth flA 13))) :: flA.drop 14) (fun e a' w'=>(e=.normal \/ e=.ret)/\∃ sh' ps' es,Zag C sh' ps' a' w'/\resTo Try.prog Try.f8 sh' (ELaw k0)=some es/\evs (fun i=>ps'[i]?) G es=some [pB true]) a w:=by
    intro a w hin
    refine Zas (fun q' a w=>∃ f:Nat,1<=f/\f<=4/\q'=4 - f/\Zag C shH (stH first acc f) a w) ?_ (n:=3) ⟨1,by omega,by omega,by omega,hin⟩
    rintro q' a w ⟨f,hf1,hf4,rfl,hin⟩
    show wpL Try.prog lpH _ a w
    by_cases hlt:f<=3
    ·have v3:IntKind.i64.wrap ((f:Int)+1)=(f:Int)+1:=wrapI _ (by omega) (by omega)
     have hfi:(f:Int)<=3:=by omega
     have e7:=G7 (l:=first.filter (isFl f)) (Nat.le_trans (List.length_filter_le _ _) (by omega))
     rw [cutH]
     refine Zad names_ok mixed_ok Zao hh hin ?_ ?_
     ·simp [-Zai,Zab,Zaa,Base.ev,SX.ev,evs,Value.oneCell',binPV,hfi,hlt]
     intro qs a2 w2 hq h2
     refine ⟨fun _=>?_,fun h=>absurd rfl h⟩
     simp [evs,SX.ev] at hq
     subst hq
     refine Zcj ?_
     show wpL Try.prog bkH _ a2 w2
     rw [cutI]
     refine Zad names_ok mixed_ok Zao hb h2 ?_ ?_
     ·simp [-Zai,Zab,Zaa,Base.ev,SX.ev,evs,Value.oneCell',binPV]
     intro qs a3 w3 hq h3
     refine ⟨fun _=>?_,fun h=>absurd rfl h⟩
     simp [evs,SX.ev] at hq
     subst hq
     refine loopI C first acc f hlen (by omega) _ (bkH.drop 3) ?_ (.inl ⟨rfl,rfl,h3⟩)
     intro a4 w4 h4
     rw [hsame f] at h4
     have hstep:∀ a5 w5,Zag C shH (stH first acc f) a5 w5->wpL Try.prog (lpH.drop 3) (fun e a' w'=>(e=.normal/\∃ n',n' < 4 - f/\∃ f:Nat,1<=f/\f<=4/\n'=4 - f/\Zag C shH (stH first acc f) a' w') \/ (e=.exit (Zaf (nth flA 13))/\wpL Try.prog (flA.drop 14) (fun e a' w'=>(e=.normal \/ e=.ret)/\∃ sh' ps' es,Zag C sh' ps' a' w'/\resTo Try.prog Try.f8 sh' (ELaw k0)=some es/\evs (fun i=>ps'[i]?) G es=some [pB true]) a' w') \/ (e=.ret/\(((Exit.ret=.normal) \/ Exit.ret=.ret)/\∃ sh' ps' es,Zag C sh' ps' a' w'/\resTo Try.prog Try.f8 sh' (ELaw k0)=some es/\evs (fun i=>ps'[i]?) G es=some [pB true]))) a5 w5:=by
      intro a5 w5 h5
      rw [<- List.append_nil (lpH.drop 3)]
      refine Zad names_ok mixed_ok Zao hs h5 ?_ ?_
      ·simp [-Zai,Zab,Zaa,Base.ev,SX.ev,evs,Value.oneCell',binPV,v3]
      ·intro qs a6 w6 hq h6
       simp [evs,SX.ev,binPV,v3] at hq
       subst hq
       exact ⟨fun _=>.inl ⟨rfl,4 - (f+1),by omega,f+1,by omega,by omega,rfl,h6⟩,fun h=>absurd rfl h⟩
     rw [<- List.append_nil (bkH.drop 3)]
     generalize first.filter (isFl f)=A at *
     rcases h4 with ⟨ha,hb,h4⟩ | ⟨hb,h4⟩ | ⟨ha,h4⟩ | h4
     ·have e7:G 7 [PV.row 0 [],PV.row 0 []]=some [pB true]:=by rw [ha] at e7;exact e7
      refine Zad names_ok mixed_ok Zao ic00 h4 ?_ (fun qs a5 w5 hq h5=>⟨fun _=>.inl ⟨rfl,hstep a5 w5 (by simp [evs,SX.ev] at hq;subst hq;exact h5)⟩,fun h=>absurd rfl h⟩)
      simp [-Zai,Zab,Zaa,Base.ev,SX.ev,evs,Value.oneCell',hF,binPV,e7,u7,deskGives.k7]
     ·have e7:G 7 [pRow encL A,PV.row 0 []]=some [pB true]:=by rw [hb] at e7 ⊢;exact e7
      refine Zad names_ok mixed_ok Zao ic10 h4 ?_ (fun qs a5 w5 hq h5=>⟨fun _=>.inl ⟨rfl,hstep a5 w5 (by simp [evs,SX.ev] at hq;subst hq;exact h5)⟩,fun h=>absurd rfl h⟩)
      simp [-Zai,Zab,Zaa,Base.ev,SX.ev,evs,Value.oneCell',hF,binPV,e7,u7,deskGives.k7,deskGives.lenL]
     ·have e7:G 7 [PV.row 0 [],pRow encL A]=some [pB true]:=by rw [ha] at e7 ⊢;exact e7
      refine Zad names_ok mixed_ok Zao ic01 h4 ?_ (fun qs a5 w5 hq h5=>⟨fun _=>.inl ⟨rfl,hstep a5 w5 (by simp [evs,SX.ev] at hq;subst hq;exact h5)⟩,fun h=>absurd rfl h⟩)
      simp [-Zai,Zab,Zaa,Base.ev,SX.ev,evs,Value.oneCell',hF,binPV,e7,u7,deskGives.k7,deskGives.lenL]
     ·refine Zad names_ok mixed_ok Zao ic11 h4 ?_ (fun qs a5 w5 hq h5=>⟨fun _=>.inl ⟨rfl,hstep a5 w5 (by simp [evs,SX.ev] at hq;subst hq;exact h5)⟩,fun h=>absurd rfl h⟩)
      simp [-Zai,Zab,Zaa,Base.ev,SX.ev,evs,Value.oneCell',hF,binPV,e7,u7,deskGives.k7,deskGives.lenL]
    ·obtain rfl:f=4:=by omega
     rw [<- List.append_nil lpH]
     refine Zad names_ok mixed_ok Zao hx hin ?_ ?_
     ·simp [-Zai,Zab,Zaa,Base.ev,SX.ev,evs,Value.oneCell',binPV]
     ·intro qs a2 w2 hq h2
      refine ⟨nofun,fun _=>.inr (.inl ⟨by rw [show Zaf (nth flA 13)=6 by kernel_rfl];rfl,?_⟩)⟩
      simp [evs,SX.ev] at hq
      subst hq
      rw [<- List.append_nil (flA.drop 14)]
      refine Zad names_ok mixed_ok Zao post h2 ?_ (fun qs a1 w1 hq h1=>fin qs a1 w1 (by simp [evs,SX.ev] at hq;exact hq.symm) h1)
      simp [-Zai,Zab,Zaa,Base.ev,SX.ev,evs,Value.oneCell',binPV]
   rw [<- List.append_nil lpA]
   rcases hin with ⟨h00,hin⟩ | hin
   ·refine Zad names_ok mixed_ok Zao axN hin ?_ ?_
    ·simp [-Zai,Zab,Zaa,Base.ev,SX.ev,evs,Value.oneCell',binPV]
    ·intro qs a2 w2 hq h2
     refine ⟨nofun,fun _=>.inr (.inl ⟨by rw [show Zaf (nth flA 9)=0 by kernel_rfl];rfl,?_⟩)⟩
     simp [evs,SX.ev] at hq
     subst hq
     subst h00
     have hf0:first=[]:=List.eq_nil_of_length_eq_zero (by simpa using hlen.symm)
     refine Zad names_ok mixed_ok Zao zN h2 ?_ ?_
     ·simp [-Zai,Zab,Zaa,Base.ev,SX.ev,evs,Value.oneCell',binPV,deskGives.lenL,hd0,hf0]
     intro qs a3 w3 hq h3
     refine ⟨fun _=>tail a3 w3 ?_,fun h=>absurd rfl h⟩
     simp [evs,SX.ev] at hq
     subst hq
     exact h3
   ·refine Zad names_ok mixed_ok Zao axO hin ?_ ?_
    ·simp [-Zai,Zab,Zaa,Base.ev,SX.ev,evs,Value.oneCell',binPV,deskGives.lenL]
    ·intro qs a2 w2 hq h2
     refine ⟨nofun,fun _=>.inr (.inl ⟨by rw [show Zaf (nth flA 9)=0 by kernel_rfl];rfl,?_⟩)⟩
     simp [evs,SX.ev] at hq
     subst hq
     refine seg_okZ names_ok mixed_ok Zao zO h2 ?_ ?_
     ·simp [-Zai,Zab,Zaa,Base.ev,SX.ev,evs,Value.oneCell',binPV,deskGives.lenL,hd0,hlen]
     intro qs a3 w3 hq h3
     refine tail a3 w3 ?_
     simp [evs,SX.ev] at hq
     subst hq
     exact h3
theorem walk (w:World) (v:Value) (len:Nat) (Z:Nat->Int) (hg:IsRow .u8 w v len Z) :
  Calls Try.prog 8 #[v] w fun e w'=>e=.returned (.bool true)/\Ex w w':=by
 obtain ⟨p,hbp,hlen,hr0⟩:=rowU hg
 refine told_true (told 0) rfl (us:=[v]) (ps:=[pRow encU p]) (Zam fL ⟨p,hbp,hlen,rfl,rfl⟩) rfl rfl (fun i p u hp hu=>?_)
 match i,hp,hu with
 | 0,hp,hu=>simp at hp hu;subst hp;subst hu;exact hr0
 | i+1,hp,hu=>simp at hp
end Go.Proofs.Ytcaclmdkhffegaa.deskGives
