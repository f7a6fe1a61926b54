/- DeskTime by the symbolic engine. -/
import Derived.Test.YtcaclmdkhffegaaDbg
import Derived.Test.YtcaclmdkhffegaaDrn
import Derived.Test.YtcaclmdkhffegaaDpk
import Derived.Test.YtcaclmdkhffegaaDkn
import Derived.Test.YtcaclmdkhffegaaLcq
import Derived.Test.YtcaclmdkhffegaaWra
import Derived.Test.YtcaclmdkhffegaaLea
import Derived.Test.YtcaclmdkhffegaaFroA
namespace Go.Proofs.Ytcaclmdkhffegaa.deskTime
open Go Go.RowKit eng SX Fact fil lem lea grd
open pck (OkP encU)
open fileFronts (Zag rowU)
open lec (encN lenN)
open leb (Zbb)
open wlm (Zbc)
open wra (ERa Znp RRa fRa)
open lhq (EHq Zpi RHq fHq Zh4)
open dkm (Desk DI askD giveD runD)
open dkn (Tm tm_start tm_ask tm_run)
open ddk (EAk Zns RAk fAk)
open drn (ERn Zno RRn fRn)
open dpk (EDk Znr RDk fDk dkRun PD Znw)
set_option linter.unusedVariables false
set_option linter.unusedSimpArgs false
set_option maxRecDepth 1000000

def hT (_:FuncId) (o:Oper):Option Hint:=match o.op with | .binOp .eql ..=>some .parts | _=>none
def tabA (f:FuncId):Option FnE:=cond (Nat.beq f 17) (some (EAk 1)) (cond (Nat.beq f 14) (some (ERn 3)) (cond (Nat.beq f 22) (some (EHq 4)) (cond (Nat.beq f 21) (some (ERa 5)) (cond (Nat.beq f 9) (some (ETrue 8)) none))))
def tabAP (f:FuncId):Option PtrE:=cond (Nat.beq f 11) (some (EDk 24)) none
def orcA:Orc:=orcOr (orcFn tabA) (orcP tabAP)
noncomputable def flA:=flat (Zaw Try.prog 4)
noncomputable def lpL:=flat (Zai (nth flA 12))
noncomputable def lpE:=flat (Zai (nth flA 16))
def dbox:BoxT:=⟨30,0,false,[.leaf,.leaf],none,false⟩
def wbox:BoxT:=⟨25,0,false,[.leaf,.leaf,.leaf,.leaf],none,false⟩
def sh0:Shape:=⟨[(0,.leaf),(1,.leaf),(2,.leaf),(3,.leaf),(4,.leaf)],[],[some true,none,none,none,some false],181,4⟩
def shW:Shape:=⟨[(4,.leaf),(11,.ptr 0 0 0 0),(12,.leaf),(13,.ptr 1 0 0 0)],[dbox,wbox],[some false,none,some false,some false,none,none,none,none],181,4⟩
def shL:Shape:=⟨[(4,.leaf),(11,.ptr 0 0 0 0),(12,.leaf),(13,.ptr 1 0 0 0),(17,.leaf),(18,.leaf)],[dbox,wbox],[some false,none,none,none,some false,some false,none,none,none,none],181,4⟩
def shE:Shape:=⟨[(12,.leaf),(13,.ptr 0 0 0 0),(20,.ptr 1 0 0 0),(21,.leaf),(23,.leaf),(24,.leaf)],[wbox,dbox],[none,some false,none,none,none,none,none,none,some false,some false],181,4⟩
def shR:Shape:=⟨[(10,.leaf)],[],[none],181,4⟩
@[simp] def zDti1:List SX:=[.var 4,.var 5,rop ROp.min2 [.bin .add (.var 2) (.conv .i64 (.bin .rem (.cell (.var 0) (.var 3) 3 2) (.con (.int .u8 9)))),.bin .sub (.bin .add (.var 1) (.con (.int .i64 60))) (.con (.int .i64 1))],.bin .add (.con (.int .i64 1)) (.conv .i64 (.bin .rem (.cell (.var 0) (.var 3) 3 0) (.con (.int .u8 3)))),.bin .add (.con (.int .i64 600)) (.var 3),.bin .add (.con (.int .i64 1)) (.conv .i64 (.bin .rem (.cell (.var 0) (.var 3) 3 1) (.con (.int .u8 3)))),.bin .add (.con (.int .i64 1)) (.conv .i64 (.bin .rem (.cell (.var 0) (.var 3) 3 2) (.con (.int .u8 2))))]
@[simp] def zDti2:List SX:=[.var 2,.var 3,.var 1,.var 4,.var 5,.var 6,.var 7]
@[simp] def zDti3:SX:=rop ROp.min2 [.bin .add (.var 2) (.conv .i64 (.bin .rem (.cell (.var 0) (.var 3) 3 2) (.con (.int .u8 9)))),.bin .sub (.bin .add (.var 1) (.con (.int .i64 60))) (.con (.int .i64 1))]
@[simp] def zDti4:SX:=.bin .add (.con (.int .i64 1)) (.conv .i64 (.bin .rem (.cell (.var 0) (.var 3) 3 0) (.con (.int .u8 3))))
@[simp] def zDti5:SX:=rop ROp.allB [rop ROp.eqI [.cell (.var 1) (.var 3) 4 0,.var 4],rop ROp.eqI [.cell (.var 1) (.var 3) 4 1,.var 5],rop ROp.eqI [.cell (.var 1) (.var 3) 4 2,.var 6],rop ROp.eqI [.cell (.var 1) (.var 3) 4 3,.var 7]]
@[simp] def zDti6:SX:=.bin .add (.var 3) (.con (.int .i64 1))
@[simp] def zDti7:SX:=.bin .rem (.cell (.var 0) (.var 3) 3 2) (.con (.int .u8 9))
@[simp] def zDti8:SX:=.bin .add (.var 1) (.con (.int .i64 60))
@[simp] def zDti9:Fact:=.idx (.var 0) (.var 3) 3 3
@[simp] def Zna:SX:=.bin .rem (.cell (.var 0) (.var 3) 3 0) (.con (.int .u8 3))
@[simp] def Zm9:SX:=.bin .rem (.cell (.var 0) (.var 3) 3 1) (.con (.int .u8 3))
@[simp] def Zm8:SX:=.bin .rem (.cell (.var 0) (.var 3) 3 2) (.con (.int .u8 2))
@[simp] def Zk9:SX:=.con (.int .i64 0)
@[simp] def Zm7:SX:=.bin .gtr (.len (.var 0)) (.con (.int .i64 100))
@[simp] def Zj4:SX:=.bin .lss (.var 3) (.len (.var 0))
@[simp] def Zj3:SX:=.bin .lss (.var 3) (.len (.var 1))
@[simp] def Zk8:List SX:=[.con (.int .i64 25),.var 0,Zk9]
@[simp] def Zdt:SX:=.con (.int .i64 1)
@[simp] def Zro:List SX:=[.var 8,.bin .add (.var 0) (.con (.int .i64 60)),.var 4,.var 6]
@[simp] def Zd5:SX:=.con (.bool true)
@[simp] def Zrn:SX:=.conv .i64 (.bin .rem (.var 1) (.con (.int .u8 3)))
@[simp] def Zrm:SX:=.conv .i64 (.bin .rem (.var 2) (.con (.int .u8 3)))
@[simp] def Zrl:SX:=.conv .i64 (.bin .rem (.var 3) (.con (.int .u8 2)))
@[simp] def Zm6:SX:=.bin .eql (.fn 1 zDti2 4) Zk9
@[simp] def Zm5:SX:=.bin .neq (.fn 1 zDti2 4) Zk9
@[simp] def Zm4:List SX:=[.fn 1 zDti2 1,.var 4,.var 6]
@[simp] def Zrk:SX:=.bin .gtr (.len (.var 4)) (.con (.int .i64 10))
@[simp] def Zpf:Fact:=.ok (.cell (.var 0) (.var 3) 3 2)
@[simp] def Zm3:SX:=.bin .eql zDti4 (.var 6)
@[simp] def zDti30:List SX:=[.var 0,.var 1,zDti3,zDti6,.fn 1 zDti1 0,.fn 1 zDti1 1,.var 6,.var 7,.var 8,.var 9]
@[simp] def Zk7:Fact:=.ok (.len (.var 0))
@[simp] def zDti32:List SX:=[.var 0,.var 1,.var 2,.var 3,.var 4,.var 5,.var 6,.var 7,.var 8,.var 9]
@[simp] def Zs8:Fact:=.ok (.bin .add (.var 2) (.conv .i64 zDti7))
@[simp] def zDti34:List SX:=[.var 0,.var 1,Zd5,zDti6,.var 4,.var 5,.var 6,.var 7,.var 8,.var 9]
@[simp] def Zrj:Fact:=.idx (.var 1) (.var 3) 4 4
@[simp] def Zs7:Fact:=.is (.fn 1 zDti2 2) (.bool false)
@[simp] def Zhj:Fact:=.ok (.var 6)
@[simp] def Zhi:Fact:=.ok (.var 7)
@[simp] def Zs6:Fact:=.ok (.cell (.var 0) (.var 3) 3 0)
@[simp] def Zri:List SX:=[.var 4,.var 5,zDti8]
theorem q1:segTo Try.prog orcA 10000 flA sh0 [1,1] shR []=some (.ret,[.fn 9 (ETrue 8) [],.is (.fn 8 [] 0) (.bool true),Zk7,.ok Zm7,.is Zm7 (.bool true),.ok Zd5],[Zd5]):=by kernel_rfl
theorem q2:segTo Try.prog orcA 10000 flA sh0 [1,0,1] shR []=some (.ret,[.fn 9 (ETrue 8) [],.is (.fn 8 [] 0) (.bool true),Zk7,.ok Zm7,.is Zm7 (.bool false),.ok (.len (.var 4)),.ok Zrk,.is Zrk (.bool true),.ok Zd5],[Zd5]):=by kernel_rfl
theorem pre:segTo Try.prog orcA 10000 (flA.take 7) sh0 [1,0,0] shW [(6,0),(7,0)]=some (.normal,[.fn 9 (ETrue 8) [],.is (.fn 8 [] 0) (.bool true),Zk7,.ok Zm7,.is Zm7 (.bool false),.ok (.len (.var 4)),.ok Zrk,.is Zrk (.bool false),.fp 11 (EDk 24) Zk8,.ok (.fn 24 Zk8 2),.ok (.fn 24 Zk8 4),.ok (.bin .rem (.var 1) (.con (.int .u8 3))),.ok Zrn,.ok (.bin .add Zdt Zrn),.ok (.bin .rem (.var 2) (.con (.int .u8 3))),.ok Zrm,.ok (.bin .add Zdt Zrm),.ok (.bin .rem (.var 3) (.con (.int .u8 2))),.ok Zrl,.ok (.bin .add Zdt Zrl),.ok (.fn 24 Zk8 2),.ok (.bin .add Zdt Zrn),.ok (.con (.int .i64 500)),.ok (.bin .add Zdt Zrm),.ok (.bin .add Zdt Zrl)],[.var 4,.fn 24 Zk8 2,.fn 24 Zk8 0,.fn 24 Zk8 1,.bin .add Zdt Zrn,.con (.int .i64 500),.bin .add Zdt Zrm,.bin .add Zdt Zrl]):=by kernel_rfl
theorem aOk:segTo Try.prog orcA 10000 (flA.drop 7) shW [1,1] shR []=some (.ret,[.fn 17 (EAk 1) zDti2,.ok (.fn 1 zDti2 2),.ok (.fn 1 zDti2 4),.is (.fn 1 zDti2 2) (.bool true),.ok Zm6,.is Zm6 (.bool true),.ok Zd5],[Zd5]):=by kernel_rfl
theorem aFu:segTo Try.prog orcA 10000 (flA.drop 7) shW [0,1,0,1] shR []=some (.ret,[.fn 17 (EAk 1) zDti2,.ok (.fn 1 zDti2 2),.ok (.fn 1 zDti2 4),Zs7,.ok Zm5,.is Zm5 (.bool true),.ok Zm6,.is Zm6 (.bool false),.ok (.bin .eql (.fn 1 zDti2 4) (.con (.int .i64 3))),.is (.bin .eql (.fn 1 zDti2 4) (.con (.int .i64 3))) (.bool true),.ok Zd5],[Zd5]):=by kernel_rfl
theorem aAh:segTo Try.prog orcA 10000 (flA.drop 7) shW [0,0,1,1] shR []=some (.ret,[.fn 17 (EAk 1) zDti2,.ok (.fn 1 zDti2 2),.ok (.fn 1 zDti2 4),Zs7,.ok Zm5,.is Zm5 (.bool false),.fn 21 (ERa 5) Zm4,.ok (.fn 5 Zm4 0),.is (.fn 5 Zm4 0) (.bool true),.ok Zm6,.is Zm6 (.bool true),.ok Zd5],[Zd5]):=by kernel_rfl
theorem aGo:segTo Try.prog orcA 10000 ((flA.drop 7).take 5) shW [0,0,0] shL [(0,0),(1,0)]=some (.normal,[.fn 17 (EAk 1) zDti2,.ok (.fn 1 zDti2 2),.ok (.fn 1 zDti2 4),Zs7,.ok Zm5,.is Zm5 (.bool false),.fn 21 (ERa 5) Zm4,.ok (.fn 5 Zm4 0),.is (.fn 5 Zm4 0) (.bool false),.ok (.var 1),.ok (.var 1),.ok Zk9,.ok (.var 4),.ok (.var 5),Zhj,Zhi],[.var 0,.var 1,.var 1,Zk9,.fn 1 zDti2 0,.fn 1 zDti2 1,.var 4,.var 5,.var 6,.var 7]):=by kernel_rfl
theorem exL:segTo Try.prog orcA 10000 lpL shL [0] shL [(0,0),(1,0)]=some (.exit 0,[Zk7,.ok Zj4,.is Zj4 (.bool false),.ok (.var 1),.ok (.var 2),.ok (.var 3),Zhj,Zhi,.ok (.var 8),.ok (.var 9)],zDti32):=by kernel_rfl
theorem lS:segTo Try.prog orcA 10000 lpL shL [1,1] shL [(0,0),(1,0)]=some (.normal,[Zk7,.ok Zj4,.is Zj4 (.bool true),zDti9,zDti9,Zpf,.ok zDti7,.ok (.conv .i64 zDti7),Zs8,.ok zDti8,.ok (.bin .sub zDti8 Zdt),.ok zDti3,zDti9,.idx (.var 0) (.var 3) 3 1,Zs6,.ok Zna,.ok (.conv .i64 Zna),.ok zDti4,.ok Zm3,.is Zm3 (.bool true),.ok zDti6,.ok (.var 1),.ok zDti3,.ok zDti6,Zhj,Zhi,.ok (.var 8),.ok (.var 9)],[.var 0,.var 1,zDti3,zDti6,.var 4,.var 5,.var 6,.var 7,.var 8,.var 9]):=by kernel_rfl
theorem lO0:segTo Try.prog orcA 10000 lpL shL [1,0,0] shL [(0,0),(1,0)]=some (.normal,[Zk7,.ok Zj4,.is Zj4 (.bool true),zDti9,zDti9,Zpf,.ok zDti7,.ok (.conv .i64 zDti7),Zs8,.ok zDti8,.ok (.bin .sub zDti8 Zdt),.ok zDti3,zDti9,.idx (.var 0) (.var 3) 3 1,Zs6,.ok Zna,.ok (.conv .i64 Zna),.ok zDti4,.ok Zm3,.is Zm3 (.bool false),.ok (.bin .add (.con (.int .i64 600)) (.var 3)),zDti9,.idx (.var 0) (.var 3) 3 2,.ok (.cell (.var 0) (.var 3) 3 1),.ok Zm9,.ok (.conv .i64 Zm9),.ok (.bin .add Zdt (.conv .i64 Zm9)),zDti9,zDti9,Zpf,.ok Zm8,.ok (.conv .i64 Zm8),.ok (.bin .add Zdt (.conv .i64 Zm8)),.fn 17 (EAk 1) zDti1,.ok (.fn 1 zDti1 2),.ok (.fn 1 zDti1 4),.is (.fn 1 zDti1 2) (.bool false),.ok zDti6,.ok (.var 1),.ok zDti3,.ok zDti6,Zhj,Zhi,.ok (.var 8),.ok (.var 9)],zDti30):=by kernel_rfl
theorem lO1:segTo Try.prog orcA 10000 lpL shL [1,0,1] shL [(0,0),(1,0)]=some (.normal,[Zk7,.ok Zj4,.is Zj4 (.bool true),zDti9,zDti9,Zpf,.ok zDti7,.ok (.conv .i64 zDti7),Zs8,.ok zDti8,.ok (.bin .sub zDti8 Zdt),.ok zDti3,zDti9,.idx (.var 0) (.var 3) 3 1,Zs6,.ok Zna,.ok (.conv .i64 Zna),.ok zDti4,.ok Zm3,.is Zm3 (.bool false),.ok (.bin .add (.con (.int .i64 600)) (.var 3)),zDti9,.idx (.var 0) (.var 3) 3 2,.ok (.cell (.var 0) (.var 3) 3 1),.ok Zm9,.ok (.conv .i64 Zm9),.ok (.bin .add Zdt (.conv .i64 Zm9)),zDti9,zDti9,Zpf,.ok Zm8,.ok (.conv .i64 Zm8),.ok (.bin .add Zdt (.conv .i64 Zm8)),.fn 17 (EAk 1) zDti1,.ok (.fn 1 zDti1 2),.ok (.fn 1 zDti1 4),.is (.fn 1 zDti1 2) (.bool true),.ok zDti6,.ok (.var 1),.ok zDti3,.ok zDti6,Zhj,Zhi,.ok (.var 8),.ok (.var 9)],zDti30):=by kernel_rfl
theorem mid:segTo Try.prog orcA 10000 ((flA.drop 13).take 3) shL [] shE [(1,0),(9,0)]=some (.normal,[.ok zDti8,.fn 14 (ERn 3) Zri,.ok (.var 1),.ok (.con (.bool false)),.ok Zk9,Zhj,Zhi,.ok (.var 8),.ok (.var 9)],[.var 1,.fn 3 Zri 2,.con (.bool false),Zk9,.var 6,.var 7,.var 8,.var 9,.fn 3 Zri 0,.fn 3 Zri 1]):=by kernel_rfl
theorem exE:segTo Try.prog orcA 10000 lpE shE [0] shE [(0,0),(1,0)] hT=some (.exit 2,[.ok (.len (.var 1)),.ok Zj3,.is Zj3 (.bool false),.ok (.var 0),.ok (.var 2),.ok (.var 3),.ok (.var 4),.ok (.var 5),Zhj,Zhi],zDti32):=by kernel_rfl
theorem e1:segTo Try.prog orcA 10000 lpE shE [1,1] shE [(0,0),(1,0)] hT=some (.normal,[.ok (.len (.var 1)),.ok Zj3,.is Zj3 (.bool true),.is (.var 2) (.bool true),.ok zDti6,.ok (.var 0),.ok Zd5,.ok zDti6,.ok (.var 4),.ok (.var 5),Zhj,Zhi],zDti34):=by kernel_rfl
theorem e00:segTo Try.prog orcA 10000 lpE shE [1,0,0] shE [(0,0),(1,0)] hT=some (.normal,[.ok (.len (.var 1)),.ok Zj3,.is Zj3 (.bool true),.is (.var 2) (.bool false),Zrj,Zrj,.ok (.cell (.var 1) (.var 3) 4 0),.ok (.cell (.var 1) (.var 3) 4 1),.ok (.cell (.var 1) (.var 3) 4 2),.ok (.cell (.var 1) (.var 3) 4 3),.ok zDti5,.is zDti5 (.bool false),.ok zDti6,.ok (.var 0),.ok (.con (.bool false)),.ok zDti6,.ok (.var 4),.ok (.var 5),Zhj,Zhi],[.var 0,.var 1,.con (.bool false),zDti6,.var 4,.var 5,.var 6,.var 7,.var 8,.var 9]):=by kernel_rfl
theorem e01:segTo Try.prog orcA 10000 lpE shE [1,0,1] shE [(0,0),(1,0)] hT=some (.normal,[.ok (.len (.var 1)),.ok Zj3,.is Zj3 (.bool true),.is (.var 2) (.bool false),Zrj,Zrj,.ok (.cell (.var 1) (.var 3) 4 0),.ok (.cell (.var 1) (.var 3) 4 1),.ok (.cell (.var 1) (.var 3) 4 2),.ok (.cell (.var 1) (.var 3) 4 3),.ok zDti5,.is zDti5 (.bool true),.ok zDti6,.ok (.var 0),.ok Zd5,.ok zDti6,.ok (.var 4),.ok (.var 5),Zhj,Zhi],zDti34):=by kernel_rfl
theorem post:segTo Try.prog orcA 10000 (flA.drop 17) shE [1,1] shR []=some (.ret,[.is (.var 2) (.bool true),.ok (.bin .add (.var 0) (.con (.int .i64 60))),.fn 22 (EHq 4) Zro,.ok (.fn 4 Zro 0),.ok (.bin .geq (.fn 4 Zro 0) (.var 7)),.is (.bin .geq (.fn 4 Zro 0) (.var 7)) (.bool true),.ok Zd5],[Zd5]):=by kernel_rfl
theorem pos3:0 < 3:=by decide
abbrev E3:=encK 3 pos3
theorem cutA:flA=flA.take 7++flA.drop 7:=by kernel_rfl
theorem cutB:flA.drop 7=(flA.drop 7).take 5++.block (Zah (nth flA 12)) (.loop (Zai (nth flA 12))) :: ((flA.drop 13).take 3++.block (Zah (nth flA 16)) (.loop (Zai (nth flA 16))) :: flA.drop 17):=by kernel_rfl
def ELaw (k:Nat):FnE:={ k:=k,ins:=[none,none,none,none,none],leaks:=[true,false,false,false,false],outs:=[none],kinds:=[.truth] }
def RL (ps qs:List PV):Prop:=∃ (p:List Nat) (y1 y2 y3:Nat) (l:List (Nat->Nat)),(∀ z ∈ p,z < 256)/\p.length<=9223372036854775807/\y1 < 256/\y2 < 256/\y3 < 256/\(∀ f ∈ l,∀ j,f j < 256)/\l.length<=9223372036854775807/\ps=[pRow encU p,pU (y1:Int),pU (y2:Int),pU (y3:Int),pRow E3 l]/\qs=[pB true]
theorem fL:∀ ps q1 q2,RL ps q1->RL ps q2->q1=q2:=by
 rintro ps q1 q2 ⟨_,_,_,_,_,_,_,_,_,_,_,_,_,rfl⟩ ⟨_,_,_,_,_,_,_,_,_,_,_,_,_,rfl⟩;rfl
noncomputable def G:Fns:=fun k=>match k with | 1=>spec RAk | 3=>spec RRn | 4=>spec RHq | 5=>spec RRa | 8=>spec RTrue | 24=>spec RDk | _=>fun _=>none
theorem u1:ToldF 17 (EAk 1) (G 1):=Zns 1
theorem u3:ToldF 14 (ERn 3) (G 3):=Zno 3
theorem u4:ToldF 22 (EHq 4) (G 4):=Zpi 4
theorem u5:ToldF 21 (ERa 5) (G 5):=Znp 5
theorem u8:ToldF 9 (ETrue 8) (G 8):=dkb.begunLit 8
theorem u24:ToldP 11 (EDk 24) (G 24):=Znr 24
theorem G1 {d:Desk} {s t c n f m:Int} (h:DI d s) (hs:s<=t) (h0:0<=t) (h1:t<=1000000) (hw:dkm.okW (c,n,f,m)):G 1 [pRow encL d.1,pRow encL d.2,pI t,pI c,pI n,pI f,pI m]=some [pRow encL (askD t d (c,n,f,m)).1.1,pRow encL (askD t d (c,n,f,m)).1.2,pB (askD t d (c,n,f,m)).2.1,pRow encN (askD t d (c,n,f,m)).2.2.1,pI (askD t d (c,n,f,m)).2.2.2] :=
 Zaj fAk ⟨d,t,(c,n,f,m),⟨by have:=h.len;omega,by have:=h.l4;omega,h0,h1⟩,(dkm.di_prune h hs).al.may,dkm.ok_lease hw h0 h1,h.u,rfl,rfl⟩
theorem G3 {d:Desk} {s t:Int} (h:DI d s) (hs:s<=t) (h0:0<=t) (h1:t<=1000000):G 3 [pRow encL d.1,pRow encL d.2,pI t]=some [pRow encL (runD t d).1.1,pRow encL (runD t d).1.2,pRow encL (runD t d).2,pRow dix.encP (dix.callsF (dkm.clashW (runD t d).1 t) (runD t d).1.2 [])]:=Zaj fRn ⟨d,s,t,h,hs,h0,h1,rfl,rfl⟩
theorem G4 {M:List LeM} {t c f:Int} (h:MayL M) (hl:M.length<=1000000):G 4 [pRow encL M,pI t,pI c,pI f]=some [pI (Zbb M t c f)]:=by
 rw [<- Zh4 h];exact Zaj fHq ⟨M,t,c,f,hl,rfl,rfl⟩
theorem G5 {l:List LeM} {c f:Int} (h:l.length<=1000000):G 5 [pRow encL l,pI c,pI f]=some [pB (Zbc l c f)]:=Zaj fRa ⟨l,c,f,h,rfl,rfl⟩
theorem G8:G 8 []=some [pB true]:=Zaj fTrue ⟨rfl,rfl⟩
theorem G24 {p:List Nat} (h:OkP p 0) {R:PD} (hR:dkRun p 25 0 ⟨([],[]),0,0⟩=R):G 24 [pI 25,pRow encU p,pI 0]=some [pRow encL R.d.1,pRow encL R.d.2,pI R.t,pRow encU p,pI (R.n:Int)]:=by
 subst hR;exact Zaj fDk ⟨25,p,by omega,h,rfl,rfl⟩
theorem k1:(EAk 1).k=1:=rfl
theorem k3:(ERn 3).k=3:=rfl
theorem k4:(EHq 4).k=4:=rfl
theorem k5:(ERa 5).k=5:=rfl
theorem Zan:OrcOk Try.prog orcA:=Zev (Zae tabA) (Zhy tabAP)
theorem ask_err (t:Int) (d:Desk) (w:LeM):((askD t d w).2.1=true/\(askD t d w).2.2.2=0) \/ ((askD t d w).2.1=false/\((askD t d w).2.2.2=0 \/ (askD t d w).2.2.2=3)):=by
 unfold askD
 split
 ·exact .inl ⟨rfl,rfl⟩
 ·split
  ·exact .inr ⟨rfl,.inl rfl⟩
  ·exact .inr ⟨rfl,.inr rfl⟩
theorem r_eqI (a b:Int):ropPV .eqI [pI a,pI b]=some (pB (a == b)):=by simp [ropPV]
theorem r_eqW (x y:LeM):ropPV .allB [pB (x.1 == y.1),pB (x.2.1 == y.2.1),pB (x.2.2.1 == y.2.2.1),pB (x.2.2.2 == y.2.2.2)]=some (pB (decide (x=y))):=by
 obtain ⟨a,b,c,d⟩:=x
 obtain ⟨a',b',c',d'⟩:=y
 simp only [ropPV,allPV,Option.map_some,Bool.and_true,Prod.mk.injEq]
 congr 3
 by_cases h1:a=a' <;> by_cases h2:b=b' <;> by_cases h3:c=c' <;> by_cases h4:d=d' <;> simp [h1,h2,h3,h4]
theorem Zoo {acc:List LeM} {n:Nat} (h:n < acc.length) (p:LeM):decide (p ∈ acc.take (n+1))=(decide (p ∈ acc.take n) || decide (acc[n]=p)):=by
 rw [List.take_add_one,List.getElem?_eq_getElem h]
 simp only [Option.toList_some,List.mem_append,List.mem_singleton,Bool.decide_or]
 congr 1
 exact decide_eq_decide.2 ⟨fun h=>h.symm,fun h=>h.symm⟩
abbrev stL (l:List (Nat->Nat)) (now t:Int) (i:Nat) (d:Desk) (x:LeM):List PV:=[pRow E3 l,pI now,pI t,pI (i:Int),pRow encL d.1,pRow encL d.2,pI x.1,pI x.2.1,pI x.2.2.1,pI x.2.2.2]
abbrev stE (now:Int) (lt:List LeM) (b:Bool) (i:Nat) (x:LeM) (d:Desk):List PV:=[pI now,pRow encL lt,pB b,pI (i:Int),pI x.1,pI x.2.1,pI x.2.2.1,pI x.2.2.2,pRow encL d.1,pRow encL d.2]
set_option maxHeartbeats 4000000 in
theorem told (k0:Nat):ToldF 4 (ELaw k0) (spec RL):=by
 refine Zca G _ (Zaw Try.prog 4) Try.func4 (by kernel_rfl) sh0 (by kernel_rfl) ?_ ?_
 ·intro ps qs h
  obtain ⟨p,y1,y2,y3,l,_,_,_,_,_,_,_,rfl,rfl⟩:=Zak h
  exact Zbp rfl
 ·intro C ps qs hF h a w hsh
  obtain ⟨p,y1,y2,y3,l,hp,hpl,hy1,hy2,hy3,hz,hl,rfl,rfl⟩:=Zak h
  show wpL Try.prog flA _ a w
  have fin:∀ qs a1 w1,qs=[pB true]->Zaf C shR qs a1 w1->(AX.ret=.normal->wpL Try.prog [] (fun e a' w'=>(e=.normal \/ e=.ret)/\∃ sh' ps' es,Zaf C sh' ps' a' w'/\resTo Try.prog Try.f4 sh' (ELaw k0)=some es/\evs (fun i=>ps'[i]?) G es=some [pB true]) a1 w1)/\(AX.ret ≠ .normal->(AX.ret.to=.normal \/ AX.ret.to=.ret)/\∃ sh' ps' es,Zaf C sh' ps' a1 w1/\resTo Try.prog Try.f4 sh' (ELaw k0)=some es/\evs (fun i=>ps'[i]?) G es=some [pB true]):=by
   rintro qs a1 w1 rfl h1
   exact ⟨nofun,fun _=>⟨.inr rfl,shR,_,[SX.var 0],h1,by kernel_rfl,rfl⟩⟩
  by_cases hl1:100 < p.length
  ·rw [<- List.append_nil flA]
   refine Zad names_ok mixed_ok Zan q1 hsh ?_ (fun qs a1 w1 hq h1=>fin qs a1 w1 (by simp [evs,SX.ev] at hq;exact hq.symm) h1)
   simp [-Zag,Zab,Zaa,Base.ev,SX.ev,evs,Value.oneCell',hF,Zac,binPV,G8,u8]
   all_goals omega
  by_cases hl2:10 < l.length
  ·rw [<- List.append_nil flA]
   refine Zad names_ok mixed_ok Zan q2 hsh ?_ (fun qs a1 w1 hq h1=>fin qs a1 w1 (by simp [evs,SX.ev] at hq;exact hq.symm) h1)
   simp [-Zag,Zab,Zaa,Base.ev,SX.ev,evs,Value.oneCell',hF,Zac,binPV,G8,u8]
   all_goals omega
  have hok:OkP p 0:=⟨by omega,by omega,hp⟩
  have hPI:=Znw hok
  obtain ⟨R,hR⟩:∃ R,dkRun p 25 0 ⟨([],[]),0,0⟩=R:=⟨_,rfl⟩
  have g24:=G24 hok hR
  rw [hR] at hPI
  have hp0:=hPI.t0
  have hp1:=hPI.t1
  have hdi:=hPI.di
  clear hPI hR
  obtain ⟨d,now,n0⟩:=R
  simp only at hp0 hp1 hdi g24
  obtain ⟨x1,h1'⟩:∃ x1:Nat,y1 % 3=x1:=⟨_,rfl⟩
  obtain ⟨x2,h2'⟩:∃ x2:Nat,y2 % 3=x2:=⟨_,rfl⟩
  obtain ⟨x3,h3'⟩:∃ x3:Nat,y3 % 2=x3:=⟨_,rfl⟩
  have t1:(y1:Int).tmod 3=(x1:Int):=by rw [<- h1'];rfl
  have t2:(y2:Int).tmod 3=(x2:Int):=by rw [<- h2'];rfl
  have t3:(y3:Int).tmod 2=(x3:Int):=by rw [<- h3'];rfl
  have wx1:IntKind.i64.wrap (x1:Int)=(x1:Int):=wrapI _ (by omega) (by omega)
  have wx2:IntKind.i64.wrap (x2:Int)=(x2:Int):=wrapI _ (by omega) (by omega)
  have wx3:IntKind.i64.wrap (x3:Int)=(x3:Int):=wrapI _ (by omega) (by omega)
  have wc:IntKind.i64.wrap (1+(x1:Int))=1+(x1:Int):=wrapI _ (by omega) (by omega)
  have wf:IntKind.i64.wrap (1+(x2:Int))=1+(x2:Int):=wrapI _ (by omega) (by omega)
  have wm:IntKind.i64.wrap (1+(x3:Int))=1+(x3:Int):=wrapI _ (by omega) (by omega)
  have hx1:x1 < 3:=by omega
  have hx2:x2 < 3:=by omega
  have hx3:x3 < 2:=by omega
  rw [cutA]
  refine Zad names_ok mixed_ok Zan pre hsh ?_ ?_
  ·simp [-Zag,Zab,Zaa,Base.ev,SX.ev,evs,Value.oneCell',hF,Zac,binPV,Zbq,G8,u8,g24,u24,t1,t2,t3,wx1,wx2,wx3,wc,wf,wm]
   all_goals omega
  intro qs a1 w1 hq h1
  refine ⟨fun _=>?_,fun h=>absurd rfl h⟩
  simp [evs,SX.ev,hF,g24,binPV,Zbq,t1,t2,t3,wx1,wx2,wx3,wc,wf,wm] at hq
  subst hq
  clear h1' h2' h3' t1 t2 t3 g24
  have hw:dkm.okW (1+(x1:Int),500,1+(x2:Int),1+(x3:Int)):=by simp only [dkm.okW];omega
  obtain ⟨W,hW⟩:∃ W:LeM,W=(1+(x1:Int),500,1+(x2:Int),1+(x3:Int)):=⟨_,rfl⟩
  have hW1:1+(x1:Int)=W.1:=by rw [hW]
  have hW2:(500:Int)=W.2.1:=by rw [hW]
  have hW3:1+(x2:Int)=W.2.2.1:=by rw [hW]
  have hW4:1+(x3:Int)=W.2.2.2:=by rw [hW]
  have e1:=G1 hdi (Int.le_refl now) hp0 (by omega) hw
  rw [<- hW] at e1 hw
  have h1:Zaf C shW [pRow E3 l,pI now,pRow encL d.1,pRow encL d.2,pI W.1,pI W.2.1,pI W.2.2.1,pI W.2.2.2] a1 w1:=by rw [<- hW1,<- hW2,<- hW3,<- hW4];exact h1
  rw [hW1,hW2,hW3,hW4] at e1
  clear hW1 hW2 hW3 hW4 hW wx1 wx2 wx3 wc wf wm
  have herr:=ask_err now d W
  have hD:=dkm.di_ask hdi (Int.le_refl now) hw hp0 (by omega)
  have hTm:=tm_start (w:=W) hdi
  generalize askD now d W=A at *
  obtain ⟨D,b,P,er⟩:=A
  simp only at e1 herr hD hTm
  have hD2:=hD.l4
  have e5:=G5 (l:=D.2) (c:=W.1) (f:=W.2.2.1) (by omega)
  rcases herr with ⟨rfl,rfl⟩ | ⟨rfl,rfl | rfl⟩
  ·rw [<- List.append_nil (flA.drop 7)]
   refine Zad names_ok mixed_ok Zan aOk h1 ?_ (fun qs a2 w2 hq h2=>fin qs a2 w2 (by simp [evs,SX.ev,hF,e1,binPV] at hq;exact hq.symm) h2)
   simp [-Zag,Zab,Zaa,Base.ev,SX.ev,evs,Value.oneCell',hF,binPV,e1,u1,deskTime.k1]
  ·cases hah:Zbc D.2 W.1 W.2.2.1 with
   | true =>
    rw [hah] at e5
    rw [<- List.append_nil (flA.drop 7)]
    refine Zad names_ok mixed_ok Zan aAh h1 ?_ (fun qs a2 w2 hq h2=>fin qs a2 w2 (by simp [evs,SX.ev,hF,e1,binPV] at hq;exact hq.symm) h2)
    simp [-Zag,Zab,Zaa,Base.ev,SX.ev,evs,Value.oneCell',hF,binPV,e1,u1,deskTime.k1,e5,u5,deskTime.k5]
   | false =>
    rw [hah] at e5
    have hT:=hTm rfl rfl hah
    rw [cutB]
    refine Zad names_ok mixed_ok Zan aGo h1 ?_ ?_
    ·simp [-Zag,Zab,Zaa,Base.ev,SX.ev,evs,Value.oneCell',hF,binPV,e1,u1,deskTime.k1,e5,u5,deskTime.k5]
    intro qs a2 w2 hq h2
    refine ⟨fun _=>?_,fun h=>absurd rfl h⟩
    simp [evs,SX.ev,hF,e1] at hq
    subst hq
    clear e1 e5 hTm hah hdi
    refine Zap (fun q' a w=>∃ (i:Nat) (D:Desk) (s t:Int),i<=l.length/\q'=l.length - i/\DI D s/\s<=t/\0<=t/\t<=now+59/\Tm D W (now+60)/\Zaf C shL (stL l now t i D W) a w) ?_ (n:=l.length) ⟨0,D,now,now,by omega,by omega,hD,by omega,hp0,by omega,hT,h2⟩
    clear hD hT h2 hD2
    rintro q' a w ⟨i,D,s,t,hi,rfl,hD,hst,ht0,ht1,hT,hin⟩
    show wpL Try.prog lpL _ a w
    rw [<- List.append_nil lpL]
    by_cases hlt:i < l.length
    ·have hzi:=hz _ (List.getElem_mem hlt)
     have c0:Zbr (pRow E3 l) (pI (i:Int)) 3 0=some (pU (l[i] 0:Int)):=cellK 3 _ l i hlt 0 (by omega)
     have c1:Zbr (pRow E3 l) (pI (i:Int)) 3 1=some (pU (l[i] 1:Int)):=cellK 3 _ l i hlt 1 (by omega)
     have c2:Zbr (pRow E3 l) (pI (i:Int)) 3 2=some (pU (l[i] 2:Int)):=cellK 3 _ l i hlt 2 (by omega)
     have i1:=Zal E3 l i 3 1 .i64 rfl hlt (by decide)
     have i2:=Zal E3 l i 3 2 .i64 rfl hlt (by decide)
     have i3:=Zal E3 l i 3 3 .i64 rfl hlt (by decide)
     have v3:IntKind.i64.wrap ((i:Int)+1)=(i:Int)+1:=wrapI _ (by omega) (by omega)
     have v6:IntKind.i64.wrap (600+(i:Int))=600+(i:Int):=wrapI _ (by omega) (by omega)
     generalize l[i]=f at *
     obtain ⟨z0,h0⟩:∃ z0:Nat,f 0 % 3=z0:=⟨_,rfl⟩
     obtain ⟨z1,h1'⟩:∃ z1:Nat,f 1 % 3=z1:=⟨_,rfl⟩
     obtain ⟨z2,h2'⟩:∃ z2:Nat,f 2 % 9=z2:=⟨_,rfl⟩
     obtain ⟨z3,h3'⟩:∃ z3:Nat,f 2 % 2=z3:=⟨_,rfl⟩
     have t0:(f 0:Int).tmod 3=(z0:Int):=by rw [<- h0];rfl
     have t1:(f 1:Int).tmod 3=(z1:Int):=by rw [<- h1'];rfl
     have t2:(f 2:Int).tmod 9=(z2:Int):=by rw [<- h2'];rfl
     have t3:(f 2:Int).tmod 2=(z3:Int):=by rw [<- h3'];rfl
     have wz0:IntKind.i64.wrap (z0:Int)=(z0:Int):=wrapI _ (by omega) (by omega)
     have wz1:IntKind.i64.wrap (z1:Int)=(z1:Int):=wrapI _ (by omega) (by omega)
     have wz2:IntKind.i64.wrap (z2:Int)=(z2:Int):=wrapI _ (by omega) (by omega)
     have wz3:IntKind.i64.wrap (z3:Int)=(z3:Int):=wrapI _ (by omega) (by omega)
     have wc:IntKind.i64.wrap (1+(z0:Int))=1+(z0:Int):=wrapI _ (by omega) (by omega)
     have wf:IntKind.i64.wrap (1+(z1:Int))=1+(z1:Int):=wrapI _ (by omega) (by omega)
     have wm:IntKind.i64.wrap (1+(z3:Int))=1+(z3:Int):=wrapI _ (by omega) (by omega)
     have w60:IntKind.i64.wrap (now+60)=now+60:=wrapI _ (by omega) (by omega)
     have w59:IntKind.i64.wrap (now+60 - 1)=now+60 - 1:=wrapI _ (by omega) (by omega)
     have wt:IntKind.i64.wrap (t+(z2:Int))=t+(z2:Int):=wrapI _ (by omega) (by omega)
     obtain ⟨u,hu⟩:∃ u:Int,min (t+(z2:Int)) (now+60 - 1)=u:=⟨_,rfl⟩
     have hu1:t<=u:=by omega
     have hu2:u<=now+59:=by omega
     have hz0:z0 < 3:=by omega
     have hz1:z1 < 3:=by omega
     have hz3:z3 < 2:=by omega
     clear h0 h1' h2' h3' hzi
     have wW:IntKind.i64.wrap W.1=W.1:=wrapI _ (by have:=hw.1;omega) (by have:=hw.2.1;omega)
     by_cases hc:1+(z0:Int)=W.1
     ·refine Zad names_ok mixed_ok Zan lS hin ?_ ?_
      ·simp [-Zag,Zab,Zaa,Base.ev,SX.ev,evs,Value.oneCell',hF,Zac,binPV,Zbq,ropPV,c0,c1,c2,i1,i2,i3,t0,t2,wz0,wz2,wc,wt,w60,w59,hu,v3,hc,hlt,wW]
      ·intro qs a3 w3 hq h3
       refine ⟨fun _=>.inl ⟨rfl,l.length - (i+1),by omega,i+1,D,s,u,by omega,rfl,hD,by omega,by omega,hu2,hT,?_⟩,fun h=>absurd rfl h⟩
       simp [evs,SX.ev,hF,binPV,Zbq,ropPV,c0,c1,c2,t0,t2,wz0,wz2,wc,wt,w60,w59,hu,v3] at hq
       subst hq
       exact h3
     ·have hwo:dkm.okW (1+(z0:Int),600+(i:Int),1+(z1:Int),1+(z3:Int)):=by simp only [dkm.okW];omega
      have e1:=G1 hD (show s<=u by omega) (by omega) (by omega) hwo
      have hD2:=dkm.di_ask hD (show s<=u by omega) hwo (by omega) (by omega)
      have hT2:=tm_ask (o:=(1+(z0:Int),600+(i:Int),1+(z1:Int),1+(z3:Int))) hD hT (show s<=u by omega) hc
      generalize askD u D (1+(z0:Int),600+(i:Int),1+(z1:Int),1+(z3:Int))=A at *
      obtain ⟨E,b,P,er⟩:=A
      simp only at e1 hD2 hT2
      cases b with
      | false =>
       refine Zad names_ok mixed_ok Zan lO0 hin ?_ ?_
       ·simp [-Zag,Zab,Zaa,Base.ev,SX.ev,evs,Value.oneCell',hF,Zac,binPV,Zbq,ropPV,c0,c1,c2,i1,i2,i3,t0,t1,t2,t3,wz0,wz1,wz2,wz3,wc,wf,wm,wt,w60,w59,hu,v3,v6,hc,hlt,e1,u1,deskTime.k1]
       ·intro qs a3 w3 hq h3
        refine ⟨fun _=>.inl ⟨rfl,l.length - (i+1),by omega,i+1,E,u,u,by omega,rfl,hD2,by omega,by omega,hu2,hT2,?_⟩,fun h=>absurd rfl h⟩
        simp [evs,SX.ev,hF,binPV,Zbq,ropPV,c0,c1,c2,t0,t1,t2,t3,wz0,wz1,wz2,wz3,wc,wf,wm,wt,w60,w59,hu,v3,v6,e1] at hq
        subst hq
        exact h3
      | true =>
       refine Zad names_ok mixed_ok Zan lO1 hin ?_ ?_
       ·simp [-Zag,Zab,Zaa,Base.ev,SX.ev,evs,Value.oneCell',hF,Zac,binPV,Zbq,ropPV,c0,c1,c2,i1,i2,i3,t0,t1,t2,t3,wz0,wz1,wz2,wz3,wc,wf,wm,wt,w60,w59,hu,v3,v6,hc,hlt,e1,u1,deskTime.k1]
       ·intro qs a3 w3 hq h3
        refine ⟨fun _=>.inl ⟨rfl,l.length - (i+1),by omega,i+1,E,u,u,by omega,rfl,hD2,by omega,by omega,hu2,hT2,?_⟩,fun h=>absurd rfl h⟩
        simp [evs,SX.ev,hF,binPV,Zbq,ropPV,c0,c1,c2,t0,t1,t2,t3,wz0,wz1,wz2,wz3,wc,wf,wm,wt,w60,w59,hu,v3,v6,e1] at hq
        subst hq
        exact h3
    ·have hie:i=l.length:=by omega
     subst hie
     refine Zad names_ok mixed_ok Zan exL hin ?_ ?_
     ·simp [-Zag,Zab,Zaa,Base.ev,SX.ev,evs,Value.oneCell',Zac,binPV]
     ·intro qs a3 w3 hq h3
      refine ⟨nofun,fun _=>.inr (.inl ⟨by rw [show Zah (nth flA 12)=0 by kernel_rfl];rfl,?_⟩)⟩
      simp [evs,SX.ev] at hq
      subst hq
      have w60:IntKind.i64.wrap (now+60)=now+60:=wrapI _ (by omega) (by omega)
      have e3:=G3 hD (show s<=now+60 by omega) (by omega) (by omega)
      have hX:=dkm.di_run hD (show s<=now+60 by omega) (by omega) (by omega)
      obtain ⟨hin2,hge⟩:=tm_run hD hT (show s<=now+60 by omega) (by omega) (by omega)
      generalize dix.callsF (dkm.clashW (runD (now+60) D).1 (now+60)) (runD (now+60) D).1.2 []=CF at *
      have hll:(runD (now+60) D).2.length<=4:=by
       have h4:=hD.l4
       have:∀ (n:Nat) (d:Desk),(dkm.loopD (now+60) n d).2.length<=n:=by
        intro n
        induction n with
        | zero=>intro d;simp [dkm.loopD]
        | succ n ih =>
         intro d
         unfold dkm.loopD
         split
         ·simp only [List.length_cons];have:=ih (dkm.lendsD (now+60) d ‹_›);omega
         ·simp
       exact Nat.le_trans (this _ _) h4
      generalize runD (now+60) D=Z at *
      obtain ⟨X,lt⟩:=Z
      simp only at e3 hX hin2 hge hll
      refine Zad names_ok mixed_ok Zan mid h3 ?_ ?_
      ·simp [-Zag,Zab,Zaa,Base.ev,SX.ev,evs,Value.oneCell',hF,binPV,w60,e3,u3,deskTime.k3]
      intro qs a4 w4 hq h4
      refine ⟨fun _=>?_,fun h=>absurd rfl h⟩
      simp [evs,SX.ev,hF,binPV,w60,e3] at hq
      subst hq
      refine Zap (fun q' a w=>∃ n:Nat,n<=lt.length/\q'=lt.length - n/\Zaf C shE (stE now lt (decide (W ∈ lt.take n)) n W X) a w) ?_ (n:=lt.length) ⟨0,by omega,by omega,by simp only [List.take_zero,List.not_mem_nil,decide_false];exact h4⟩
      rintro q' a w ⟨n,hn,rfl,hin⟩
      show wpL Try.prog lpE _ a w
      rw [<- List.append_nil lpE]
      by_cases hlt:n < lt.length
      ·obtain ⟨c0',c1',c2',c3'⟩:=cellL lt n hlt
       have ix:=Zal encL lt n 4 4 .i64 rfl hlt (by decide)
       have v3:IntKind.i64.wrap ((n:Int)+1)=(n:Int)+1:=wrapI _ (by omega) (by omega)
       have re:=r_eqW lt[n] W
       have hmt:=Zoo hlt W
       have next:∀ (b:Bool) a w,b=decide (W ∈ lt.take (n+1))->Zaf C shE (stE now lt b (n+1) W X) a w->∃ n',n' < lt.length - n/\∃ n:Nat,n<=lt.length/\n'=lt.length - n/\Zaf C shE (stE now lt (decide (W ∈ lt.take n)) n W X) a w:=by
        rintro b a w rfl h
        exact ⟨lt.length - (n+1),by omega,n+1,by omega,rfl,h⟩
       rw [hmt] at next
       clear hmt
       generalize decide (W ∈ lt.take n)=b at *
       cases b with
       | true =>
        refine Zad names_ok mixed_ok Zan deskTime.e1 hin ?_ ?_
        ·simp [-Zag,Zab,Zaa,Base.ev,SX.ev,evs,Value.oneCell',Zac,binPV,c0',c1',c2',c3',ix,v3,hlt]
        ·intro qs a5 w5 hq h5
         simp [evs,SX.ev,binPV,v3] at hq
         subst hq
         exact ⟨fun _=>.inl ⟨rfl,next true a5 w5 (by simp) h5⟩,fun h=>absurd rfl h⟩
       | false =>
        by_cases he:lt[n]=W
        ·rw [decide_eq_true he] at re
         refine Zad names_ok mixed_ok Zan e01 hin ?_ ?_
         ·simp [-Zag,Zab,Zaa,Base.ev,SX.ev,evs,Value.oneCell',Zac,binPV,c0',c1',c2',c3',ix,v3,hlt,deskTime.r_eqI,re]
         ·intro qs a5 w5 hq h5
          simp [evs,SX.ev,binPV,v3] at hq
          subst hq
          exact ⟨fun _=>.inl ⟨rfl,next true a5 w5 (by simp [he]) h5⟩,fun h=>absurd rfl h⟩
        ·rw [decide_eq_false he] at re
         refine Zad names_ok mixed_ok Zan e00 hin ?_ ?_
         ·simp [-Zag,Zab,Zaa,Base.ev,SX.ev,evs,Value.oneCell',Zac,binPV,c0',c1',c2',c3',ix,v3,hlt,deskTime.r_eqI,re]
         ·intro qs a5 w5 hq h5
          simp [evs,SX.ev,binPV,v3] at hq
          subst hq
          exact ⟨fun _=>.inl ⟨rfl,next false a5 w5 (by simp [he]) h5⟩,fun h=>absurd rfl h⟩
      ·have hne:n=lt.length:=by omega
       subst hne
       rw [List.take_length,decide_eq_true hin2] at hin
       refine Zad names_ok mixed_ok Zan exE hin ?_ ?_
       ·simp [-Zag,Zab,Zaa,Base.ev,SX.ev,evs,Value.oneCell',Zac,binPV]
       ·intro qs a5 w5 hq h5
        refine ⟨nofun,fun _=>.inr (.inl ⟨by rw [show Zah (nth flA 16)=2 by kernel_rfl];rfl,?_⟩)⟩
        simp [evs,SX.ev] at hq
        subst hq
        have hlX:=hX.len
        have e4:=G4 (t:=now+60) (c:=W.1) (f:=W.2.2.1) hX.al.may (by omega)
        generalize Zbb X.1 (now+60) W.1 W.2.2.1=hh at *
        rw [<- List.append_nil (flA.drop 17)]
        refine Zad names_ok mixed_ok Zan post h5 ?_ (fun qs a6 w6 hq h6=>fin qs a6 w6 (by simp [evs,SX.ev] at hq;exact hq.symm) h6)
        simp [-Zag,Zab,Zaa,Base.ev,SX.ev,evs,Value.oneCell',hF,binPV,w60,e4,u4,deskTime.k4,hge]
  ·rw [<- List.append_nil (flA.drop 7)]
   refine Zad names_ok mixed_ok Zan aFu h1 ?_ (fun qs a2 w2 hq h2=>fin qs a2 w2 (by simp [evs,SX.ev,hF,e1,binPV] at hq;exact hq.symm) h2)
   simp [-Zag,Zab,Zaa,Base.ev,SX.ev,evs,Value.oneCell',hF,binPV,e1,u1,deskTime.k1]
theorem walk (w:World) (v:Value) (len:Nat) (Z:Nat->Int) (hg:IsRow .u8 w v len Z) (a1:Int) (w1:(Lit.int .u8 a1).wf=true) (a2:Int) (w2:(Lit.int .u8 a2).wf=true) (a3:Int) (w3:(Lit.int .u8 a3).wf=true) (v4:Value) (len4:Nat) (Z4:Nat->Nat->Int) (h:IsGrid 3 w v4 len4 Z4) :
  Calls Try.prog 4 #[v,.int .u8 a1,.int .u8 a2,.int .u8 a3,v4] w fun e w'=>e=.returned (.bool true)/\Ex w w':=by
 obtain ⟨p,hbp,hlen,hr0⟩:=rowU hg
 obtain ⟨l,hb,hr⟩:=gridK pos3 h
 have b1:=bounds_u8 w1
 have b2:=bounds_u8 w2
 have b3:=bounds_u8 w3
 obtain ⟨y1,rfl⟩:∃ n:Nat,a1=(n:Int):=⟨a1.toNat,by omega⟩
 obtain ⟨y2,rfl⟩:∃ n:Nat,a2=(n:Int):=⟨a2.toNat,by omega⟩
 obtain ⟨y3,rfl⟩:∃ n:Nat,a3=(n:Int):=⟨a3.toNat,by omega⟩
 refine Zle (told 0) rfl (us:=[v,.int .u8 (y1:Int),.int .u8 (y2:Int),.int .u8 (y3:Int),v4]) (ps:=[pRow encU p,pU (y1:Int),pU (y2:Int),pU (y3:Int),pRow E3 l]) (Zaj fL ⟨p,y1,y2,y3,l,hbp,hlen,by omega,by omega,by omega,hb,Zlm hr,rfl,rfl⟩) rfl rfl (fun i p u hp hu=>?_)
 match i,hp,hu with
 | 0,hp,hu=>simp at hp hu;subst hp;subst hu;exact hr0
 | 1,hp,hu=>simp at hp hu;subst hp;subst hu;exact Zc7 rfl
 | 2,hp,hu=>simp at hp hu;subst hp;subst hu;exact Zc7 rfl
 | 3,hp,hu=>simp at hp hu;subst hp;subst hu;exact Zc7 rfl
 | 4,hp,hu=>simp at hp hu;subst hp;subst hu;exact hr
 | i+5,hp,hu=>simp at hp
end Go.Proofs.Ytcaclmdkhffegaa.deskTime
