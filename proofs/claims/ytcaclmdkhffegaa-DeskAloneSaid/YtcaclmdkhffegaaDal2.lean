/- DeskAlone by the symbolic engine. -/
import Derived.Test.YtcaclmdkhffegaaDbg
import Derived.Test.YtcaclmdkhffegaaDrn
import Derived.Test.YtcaclmdkhffegaaDpk
import Derived.Test.YtcaclmdkhffegaaLml
import Derived.Test.YtcaclmdkhffegaaLcq
import Derived.Test.YtcaclmdkhffegaaWra
import Derived.Test.YtcaclmdkhffegaaLea
import Derived.Test.YtcaclmdkhffegaaFroA
namespace Go.Proofs.Ytcaclmdkhffegaa.deskAlone
open Go Go.RowKit eng SX Fact fil lem lea grd lam
open pck (OkP encU)
open fileFronts (Zag rowU)
open lec (encN lenN)
open leb (Zbb)
open wlm (Zbc)
open wra (ERa Znp RRa fRa)
open lhq (EHq Zpi RHq fHq Zh4)
open lml (EMq toldMq RMq fMq)
open dkm (Desk DI askD giveD runD)
open ddk (EAk Zns RAk fAk EGv Zsd RGv fGv)
open drn (ERn Zno RRn fRn)
open dpk (EDk Znr RDk fDk dkRun PD Znw)
set_option linter.unusedVariables false
set_option linter.unusedSimpArgs false
set_option maxRecDepth 1000000

def tabA (f:FuncId):Option FnE:=cond (Nat.beq f 17) (some (EAk 1)) (cond (Nat.beq f 12) (some (EGv 2)) (cond (Nat.beq f 14) (some (ERn 3)) (cond (Nat.beq f 22) (some (EHq 4)) (cond (Nat.beq f 21) (some (ERa 5)) (cond (Nat.beq f 23) (some (EMq 6)) (cond (Nat.beq f 9) (some (ETrue 8)) none))))))
def tabAP (f:FuncId):Option PtrE:=cond (Nat.beq f 11) (some (EDk 24)) none
def orcA:Orc:=orcOr (orcFn tabA) (orcP tabAP)
noncomputable def flA:=flat (Zaw Try.prog 5)
noncomputable def lpA:=flat (Zai (nth flA 7))
noncomputable def bdA:=flat (Za9 (nth lpA 2))
noncomputable def lpB:=flat (Zai (nth bdA 5))
noncomputable def bdB:=flat (Za9 (nth lpB 2))
noncomputable def lpC:=flat (Zai (nth bdB 2))
def dbox:BoxT:=⟨30,0,false,[.leaf,.leaf],none,false⟩
def sh0:Shape:=⟨[(0,.leaf),(1,.leaf)],[],[some true,some false],156,5⟩
def shA:Shape:=⟨[(1,.leaf),(5,.ptr 0 0 0 0),(6,.leaf),(7,.leaf)],[dbox],[some false,none,none,some false,some false],156,5⟩
def shM:Shape:=⟨[(1,.leaf),(5,.ptr 0 0 0 0),(6,.leaf),(7,.leaf),(8,.leaf),(9,.leaf),(10,.ptr 1 0 0 0),(64,.leaf)],[dbox,dbox],[some false,none,none,none,none,none,some false,some false,some false,some false],156,5⟩
def shB:Shape:=⟨[(1,.leaf),(5,.ptr 0 0 0 0),(6,.leaf),(7,.leaf),(15,.leaf)],[dbox],[some false,none,none,none,some false,some false],156,5⟩
def shC:Shape:=⟨[(1,.leaf),(5,.ptr 0 0 0 0),(6,.leaf),(7,.leaf),(15,.leaf),(16,.leaf),(17,.leaf),(18,.leaf)],[dbox],[some false,none,none,none,none,none,none,some false,some false],156,5⟩
def shR:Shape:=⟨[(4,.leaf)],[],[none],156,5⟩
@[simp] def Ze5:List SX:=[.var 6,.var 7,.var 1,.var 3,.var 2,.var 4,.bin .add (.con (.int .i64 1)) (.conv .i64 (.bin .rem (.cell (.var 0) (.var 2) 4 3) (.con (.int .u8 2))))]
@[simp] def Za6:SX:=.con (.int .i64 1)
@[simp] def Zlc:SX:=.fn 4 [.var 7,.var 1,.var 6,.var 3] 0
@[simp] def Zi5:SX:=.bin .add (.var 1) (.conv .i64 (.bin .rem (.cell (.var 0) (.var 2) 4 3) (.con (.int .u8 40))))
@[simp] def Zi4:SX:=.bin .rem (.cell (.var 0) (.var 2) 4 3) (.con (.int .u8 2))
@[simp] def Zhu:List SX:=[.con (.int .i64 25),.var 0,.con (.int .i64 0)]
@[simp] def Zf8:SX:=.bin .leq (.var 6) (.con (.int .i64 3))
@[simp] def Zf7:SX:=.bin .eql (.var 5) (.con (.int .u8 0))
@[simp] def Zp0:SX:=.bin .rem (.cell (.var 0) (.var 2) 4 1) (.con (.int .u8 3))
@[simp] def Zod:SX:=.bin .rem (.cell (.var 0) (.var 2) 4 2) (.con (.int .u8 3))
@[simp] def Zg1:SX:=.bin .gtr (.len (.var 0)) (.con (.int .i64 100))
@[simp] def Zet:SX:=.con (.int .i64 0)
@[simp] def Zg0:SX:=.bin .eql (.var 5) (.con (.int .u8 1))
@[simp] def Zgz:SX:=.bin .eql Zlc (.con (.int .i64 2))
@[simp] def Zdv:Fact:=.idx (.var 0) (.var 2) 4 4
@[simp] def Zdu:SX:=.bin .add (.var 6) Za6
@[simp] def Zkm:SX:=.bin .gtr (.len (.var 1)) (.con (.int .i64 20))
@[simp] def Zoc:SX:=.bin .rem (.cell (.var 0) (.var 2) 4 0) (.con (.int .u8 4))
@[simp] def Zkl:SX:=.bin .leq (.var 3) (.con (.int .i64 3))
@[simp] def Zgy:SX:=.bin .neq Zlc Zet
@[simp] def Zgx:SX:=.bin .add (.var 5) Za6
@[simp] def Zkk:SX:=.bin .lss (.var 2) (.len (.var 0))
@[simp] def Zob:Fact:=.fn 22 (EHq 4) [.var 7,.var 1,.var 6,.var 3]
@[simp] def Zii:SX:=.cell (.var 0) (.var 2) 4 3
@[simp] def Zbf:Fact:=.ok (.var 1)
@[simp] def Zbe:Fact:=.ok (.var 2)
@[simp] def Zoa:SX:=.bin .add Za6 (.conv .i64 Zod)
@[simp] def Zn9:SX:=.bin .add Za6 (.conv .i64 Zp0)
@[simp] def zDal2_29:List SX:=[.var 0,.var 1,.var 2,Za6,.fn 1 Ze5 0,.fn 1 Ze5 1]
@[simp] def Zkj:SX:=.bin .gtr (.var 4) Zet
theorem q1:segTo Try.prog orcA 10000 flA sh0 [1,1] shR []=some (.ret,[.fn 9 (ETrue 8) [],.is (.fn 8 [] 0) (.bool true),.ok (.len (.var 0)),.ok Zg1,.is Zg1 (.bool true),.ok (.con (.bool true))],[.con (.bool true)]):=by kernel_rfl
theorem q2:segTo Try.prog orcA 10000 flA sh0 [1,0,1] shR []=some (.ret,[.fn 9 (ETrue 8) [],.is (.fn 8 [] 0) (.bool true),.ok (.len (.var 0)),.ok Zg1,.is Zg1 (.bool false),.ok (.len (.var 1)),.ok Zkm,.is Zkm (.bool true),.ok (.con (.bool true))],[.con (.bool true)]):=by kernel_rfl
theorem pre:segTo Try.prog orcA 10000 (flA.take 7) sh0 [1,0,0] shA [(6,0)]=some (.normal,[.fn 9 (ETrue 8) [],.is (.fn 8 [] 0) (.bool true),.ok (.len (.var 0)),.ok Zg1,.is Zg1 (.bool false),.ok (.len (.var 1)),.ok Zkm,.is Zkm (.bool false),.fp 11 (EDk 24) Zhu,.ok (.fn 24 Zhu 2),.ok (.fn 24 Zhu 4),.ok (.fn 24 Zhu 2),.ok Zet],[.var 1,.fn 24 Zhu 2,Zet,.fn 24 Zhu 0,.fn 24 Zhu 1]):=by kernel_rfl
theorem hd:segTo Try.prog orcA 10000 (lpA.take 2) shA [1] shA [(0,0)]=some (.normal,[.ok (.len (.var 0)),.ok Zkk,.is Zkk (.bool true),Zbf,Zbe],[.var 0,.var 1,.var 2,.var 3,.var 4]):=by kernel_rfl
theorem ex:segTo Try.prog orcA 10000 lpA shA [0] shA [(0,0)]=some (.exit 0,[.ok (.len (.var 0)),.ok Zkk,.is Zkk (.bool false),Zbf,Zbe],[.var 0,.var 1,.var 2,.var 3,.var 4]):=by kernel_rfl
theorem md:segTo Try.prog orcA 10000 (bdA.take 3) shA [] shM [(0,0),(4,0)]=some (.normal,[Zdv,.idx (.var 0) (.var 2) 4 2,.ok (.cell (.var 0) (.var 2) 4 1),.ok Zp0,.ok (.conv .i64 Zp0),.ok Zn9,Zdv,.idx (.var 0) (.var 2) 4 3,.ok (.cell (.var 0) (.var 2) 4 2),.ok Zod,.ok (.conv .i64 Zod),.ok Zoa,Zdv,.idx (.var 0) (.var 2) 4 1,.ok (.cell (.var 0) (.var 2) 4 0),.ok Zoc,Zbf,Zbe,.ok Zn9,.ok Zoa,.ok Zoc],[.var 0,.var 1,.var 2,Zn9,Zoa,Zoc,.var 3,.var 4,.var 3,.var 4]):=by kernel_rfl
theorem sG:segTo Try.prog orcA 10000 ((bdA.drop 3).take 2) shM [1] shB [(0,0)]=some (.normal,[.ok Zf7,.is Zf7 (.bool true),.fn 12 (EGv 2) [.var 6,.var 7,.var 3,.var 4],Zbf,Zbe,.ok Za6],[.var 0,.var 1,.var 2,Za6,.fn 2 [.var 6,.var 7,.var 3,.var 4] 0,.fn 2 [.var 6,.var 7,.var 3,.var 4] 1]):=by kernel_rfl
theorem sR:segTo Try.prog orcA 10000 ((bdA.drop 3).take 2) shM [0,1] shB [(0,0)]=some (.normal,[.ok Zf7,.is Zf7 (.bool false),.ok Zg0,.is Zg0 (.bool true),Zdv,Zdv,.ok Zii,.ok (.bin .rem Zii (.con (.int .u8 40))),.ok (.conv .i64 (.bin .rem Zii (.con (.int .u8 40)))),.ok Zi5,.fn 14 (ERn 3) [.var 6,.var 7,Zi5],.ok Zi5,Zbe,.ok Za6],[.var 0,Zi5,.var 2,Za6,.fn 3 [.var 6,.var 7,Zi5] 0,.fn 3 [.var 6,.var 7,Zi5] 1]):=by kernel_rfl
theorem sA0:segTo Try.prog orcA 10000 ((bdA.drop 3).take 2) shM [0,0,0] shB [(0,0)]=some (.normal,[.ok Zf7,.is Zf7 (.bool false),.ok Zg0,.is Zg0 (.bool false),Zdv,Zdv,.ok Zii,.ok Zi4,.ok (.conv .i64 Zi4),.ok (.bin .add Za6 (.conv .i64 Zi4)),.fn 17 (EAk 1) Ze5,.ok (.fn 1 Ze5 2),.ok (.fn 1 Ze5 4),.is (.fn 1 Ze5 2) (.bool false),Zbf,Zbe,.ok Za6],zDal2_29):=by kernel_rfl
theorem sA1:segTo Try.prog orcA 10000 ((bdA.drop 3).take 2) shM [0,0,1,0] shB [(0,0)]=some (.normal,[.ok Zf7,.is Zf7 (.bool false),.ok Zg0,.is Zg0 (.bool false),Zdv,Zdv,.ok Zii,.ok Zi4,.ok (.conv .i64 Zi4),.ok (.bin .add Za6 (.conv .i64 Zi4)),.fn 17 (EAk 1) Ze5,.ok (.fn 1 Ze5 2),.ok (.fn 1 Ze5 4),.is (.fn 1 Ze5 2) (.bool true),.fn 21 (ERa 5) [.var 9,.var 3,.var 4],.ok (.fn 5 [.var 9,.var 3,.var 4] 0),.is (.fn 5 [.var 9,.var 3,.var 4] 0) (.bool false),Zbf,Zbe,.ok Za6],zDal2_29):=by kernel_rfl
theorem bhd:segTo Try.prog orcA 10000 (lpB.take 2) shB [1] shB [(0,0)]=some (.normal,[.ok Zkl,.is Zkl (.bool true),Zbf,Zbe,.ok (.var 3)],[.var 0,.var 1,.var 2,.var 3,.var 4,.var 5]):=by kernel_rfl
theorem bex:segTo Try.prog orcA 10000 lpB shB [0] shB [(0,0)]=some (.exit 3,[.ok Zkl,.is Zkl (.bool false),Zbf,Zbe,.ok (.var 3)],[.var 0,.var 1,.var 2,.var 3,.var 4,.var 5]):=by kernel_rfl
theorem b0:segTo Try.prog orcA 10000 (bdB.take 2) shB [] shC [(0,0)]=some (.normal,[Zbf,Zbe,.ok (.var 3),.ok Zet,.ok Zet,.ok Za6],[.var 0,.var 1,.var 2,.var 3,Zet,Zet,Za6,.var 4,.var 5]):=by kernel_rfl
theorem c0:segTo Try.prog orcA 10000 lpC shC [1,0,0] shC [(0,0)]=some (.normal,[.ok Zf8,.is Zf8 (.bool true),Zob,.ok Zlc,.ok Zgy,.is Zgy (.bool false),.ok Zgz,.is Zgz (.bool false),.ok Zdu,Zbf,Zbe,.ok (.var 3),.ok (.var 4),.ok (.var 5),.ok Zdu],[.var 0,.var 1,.var 2,.var 3,.var 4,.var 5,Zdu,.var 7,.var 8]):=by kernel_rfl
theorem c1:segTo Try.prog orcA 10000 lpC shC [1,1,0] shC [(0,0)]=some (.normal,[.ok Zf8,.is Zf8 (.bool true),Zob,.ok Zlc,.ok Zgy,.is Zgy (.bool true),.ok Zgx,.ok Zgz,.is Zgz (.bool false),.ok Zdu,Zbf,Zbe,.ok (.var 3),.ok (.var 4),.ok Zgx,.ok Zdu],[.var 0,.var 1,.var 2,.var 3,.var 4,Zgx,Zdu,.var 7,.var 8]):=by kernel_rfl
theorem c2:segTo Try.prog orcA 10000 lpC shC [1,1,1] shC [(0,0)]=some (.normal,[.ok Zf8,.is Zf8 (.bool true),Zob,.ok Zlc,.ok Zgy,.is Zgy (.bool true),.ok Zgx,.ok Zgz,.is Zgz (.bool true),.ok (.bin .add (.var 4) Za6),.ok Zdu,Zbf,Zbe,.ok (.var 3),.ok (.bin .add (.var 4) Za6),.ok Zgx,.ok Zdu],[.var 0,.var 1,.var 2,.var 3,.bin .add (.var 4) Za6,Zgx,Zdu,.var 7,.var 8]):=by kernel_rfl
theorem cex:segTo Try.prog orcA 10000 lpC shC [0] shC [(0,0)]=some (.exit 5,[.ok Zf8,.is Zf8 (.bool false),Zbf,Zbe,.ok (.var 3),.ok (.var 4),.ok (.var 5),.ok (.var 6)],[.var 0,.var 1,.var 2,.var 3,.var 4,.var 5,.var 6,.var 7,.var 8]):=by kernel_rfl
theorem d00:segTo Try.prog orcA 10000 (bdB.drop 3) shC [0] shB [(0,0)]=some (.normal,[.ok Zkj,.is Zkj (.bool false),Zbf,Zbe,.ok (.var 3)],[.var 0,.var 1,.var 2,.var 3,.var 7,.var 8]):=by kernel_rfl
theorem d10:segTo Try.prog orcA 10000 (bdB.drop 3) shC [1,0] shB [(0,0)]=some (.normal,[.ok Zkj,.is Zkj (.bool true),.ok (.bin .gtr (.var 5) Za6),.is (.bin .gtr (.var 5) Za6) (.bool false),Zbf,Zbe,.ok (.var 3)],[.var 0,.var 1,.var 2,.var 3,.var 7,.var 8]):=by kernel_rfl
theorem bst:segTo Try.prog orcA 10000 (lpB.drop 3) shB [] shB [(0,0)]=some (.normal,[.ok (.bin .add (.var 3) Za6),Zbf,Zbe,.ok (.bin .add (.var 3) Za6)],[.var 0,.var 1,.var 2,.bin .add (.var 3) Za6,.var 4,.var 5]):=by kernel_rfl
theorem my:segTo Try.prog orcA 10000 (bdA.drop 6) shB [1,0] shA [(0,0)]=some (.normal,[.fn 23 (EMq 6) [.var 4],.is (.fn 6 [.var 4] 0) (.bool true),.ok (.len (.var 5)),.ok (.bin .gtr (.len (.var 5)) (.con (.int .i64 4))),.is (.bin .gtr (.len (.var 5)) (.con (.int .i64 4))) (.bool false),Zbf,Zbe],[.var 0,.var 1,.var 2,.var 4,.var 5]):=by kernel_rfl
theorem stp:segTo Try.prog orcA 10000 (lpA.drop 3) shA [] shA [(0,0)]=some (.normal,[.ok (.bin .add (.var 2) Za6),Zbf,.ok (.bin .add (.var 2) Za6)],[.var 0,.var 1,.bin .add (.var 2) Za6,.var 3,.var 4]):=by kernel_rfl
theorem post:segTo Try.prog orcA 10000 (flA.drop 8) shA [] shR []=some (.ret,[.ok (.con (.bool true))],[.con (.bool true)]):=by kernel_rfl
theorem pos4:0 < 4:=by decide
abbrev E4:=encK 4 pos4
theorem cutA:flA=flA.take 7++.block (Zah (nth flA 7)) (.loop (Zai (nth flA 7))) :: flA.drop 8:=by kernel_rfl
theorem cutL:lpA=lpA.take 2++.block (Zah (nth lpA 2)) (Za9 (nth lpA 2)) :: lpA.drop 3:=by kernel_rfl
theorem cutB:bdA=bdA.take 3++((bdA.drop 3).take 2++.block (Zah (nth bdA 5)) (.loop (Zai (nth bdA 5))) :: bdA.drop 6):=by kernel_rfl
theorem cutM:lpB=lpB.take 2++.block (Zah (nth lpB 2)) (Za9 (nth lpB 2)) :: lpB.drop 3:=by kernel_rfl
theorem cutC:bdB=bdB.take 2++.block (Zah (nth bdB 2)) (.loop (Zai (nth bdB 2))) :: bdB.drop 3:=by kernel_rfl
def ELaw (k:Nat):FnE:={ k:=k,ins:=[none,none],leaks:=[true,false],outs:=[none],kinds:=[.truth] }
def RL (ps qs:List PV):Prop:=∃ (p:List Nat) (l:List (Nat->Nat)),(∀ z ∈ p,z < 256)/\p.length<=9223372036854775807/\(∀ f ∈ l,∀ j,f j < 256)/\l.length<=9223372036854775807/\ps=[pRow encU p,pRow E4 l]/\qs=[pB true]
theorem fL:∀ ps q1 q2,RL ps q1->RL ps q2->q1=q2:=by
 rintro ps q1 q2 ⟨_,_,_,_,_,_,_,rfl⟩ ⟨_,_,_,_,_,_,_,rfl⟩;rfl
noncomputable def G:Fns:=fun k=>match k with | 1=>spec RAk | 2=>spec RGv | 3=>spec RRn | 4=>spec RHq | 5=>spec RRa | 6=>spec RMq | 8=>spec RTrue | 24=>spec RDk | _=>fun _=>none
theorem u1:ToldF 17 (EAk 1) (G 1):=Zns 1
theorem u2:ToldF 12 (EGv 2) (G 2):=Zsd 2
theorem u3:ToldF 14 (ERn 3) (G 3):=Zno 3
theorem u4:ToldF 22 (EHq 4) (G 4):=Zpi 4
theorem u5:ToldF 21 (ERa 5) (G 5):=Znp 5
theorem u6:ToldF 23 (EMq 6) (G 6):=toldMq 6
theorem u8:ToldF 9 (ETrue 8) (G 8):=dkb.begunLit 8
theorem u24:ToldP 11 (EDk 24) (G 24):=Znr 24
theorem G1 {d:Desk} {s t c n f m:Int} (h:DI d s) (hs:s<=t) (h0:0<=t) (h1:t<=1000000) (hw:dkm.okW (c,n,f,m)):G 1 [pRow encL d.1,pRow encL d.2,pI t,pI c,pI n,pI f,pI m]=some [pRow encL (askD t d (c,n,f,m)).1.1,pRow encL (askD t d (c,n,f,m)).1.2,pB (askD t d (c,n,f,m)).2.1,pRow encN (askD t d (c,n,f,m)).2.2.1,pI (askD t d (c,n,f,m)).2.2.2] :=
 Zaj fAk ⟨d,t,(c,n,f,m),⟨by have:=h.len;omega,by have:=h.l4;omega,h0,h1⟩,(dkm.di_prune h hs).al.may,dkm.ok_lease hw h0 h1,h.u,rfl,rfl⟩
theorem G2 {d:Desk} {t:Int} (h:DI d t) (c f:Int):G 2 [pRow encL d.1,pRow encL d.2,pI c,pI f]=some [pRow encL (giveD d c f).1,pRow encL (giveD d c f).2]:=Zaj fGv ⟨d,c,f,by have:=h.len;omega,by have:=h.l4;omega,rfl,rfl⟩
theorem G3 {d:Desk} {s t:Int} (h:DI d s) (hs:s<=t) (h0:0<=t) (h1:t<=1000000):G 3 [pRow encL d.1,pRow encL d.2,pI t]=some [pRow encL (runD t d).1.1,pRow encL (runD t d).1.2,pRow encL (runD t d).2,pRow dix.encP (dix.callsF (dkm.clashW (runD t d).1 t) (runD t d).1.2 [])]:=Zaj fRn ⟨d,s,t,h,hs,h0,h1,rfl,rfl⟩
theorem G4 {M:List LeM} {t c f:Int} (h:MayL M) (hl:M.length<=1000000):G 4 [pRow encL M,pI t,pI c,pI f]=some [pI (Zbb M t c f)]:=by
 rw [<- Zh4 h];exact Zaj fHq ⟨M,t,c,f,hl,rfl,rfl⟩
theorem G5 {l:List LeM} {c f:Int} (h:l.length<=1000000):G 5 [pRow encL l,pI c,pI f]=some [pB (Zbc l c f)]:=Zaj fRa ⟨l,c,f,h,rfl,rfl⟩
theorem G6 {M:List LeM} (h:MayL M) (hl:M.length<=1000000):G 6 [pRow encL M]=some [pB true]:=Zaj fMq ⟨M,h,hl,rfl,rfl⟩
theorem G8:G 8 []=some [pB true]:=Zaj fTrue ⟨rfl,rfl⟩
theorem G24 {p:List Nat} (h:OkP p 0) {R:PD} (hR:dkRun p 25 0 ⟨([],[]),0,0⟩=R):G 24 [pI 25,pRow encU p,pI 0]=some [pRow encL R.d.1,pRow encL R.d.2,pI R.t,pRow encU p,pI (R.n:Int)]:=by
 subst hR;exact Zaj fDk ⟨25,p,by omega,h,rfl,rfl⟩
theorem k1:(EAk 1).k=1:=rfl
theorem k2:(EGv 2).k=2:=rfl
theorem k3:(ERn 3).k=3:=rfl
theorem k4:(EHq 4).k=4:=rfl
theorem k5:(ERa 5).k=5:=rfl
theorem k6:(EMq 6).k=6:=rfl
theorem Zan:OrcOk Try.prog orcA:=Zev (Zae tabA) (Zhy tabAP)
abbrev stA (l:List (Nat->Nat)) (d:Desk) (t:Int) (i:Nat):List PV:=[pRow E4 l,pI t,pI (i:Int),pRow encL d.1,pRow encL d.2]
abbrev stM (l:List (Nat->Nat)) (d:Desk) (t:Int) (i:Nat) (c f:Int) (x:Nat):List PV:=[pRow E4 l,pI t,pI (i:Int),pI c,pI f,pU (x:Int),pRow encL d.1,pRow encL d.2,pRow encL d.1,pRow encL d.2]
abbrev stB (l:List (Nat->Nat)) (d:Desk) (t:Int) (i k:Nat):List PV:=[pRow E4 l,pI t,pI (i:Int),pI (k:Int),pRow encL d.1,pRow encL d.2]
abbrev stC (l:List (Nat->Nat)) (d:Desk) (t:Int) (i k:Nat) (wr al:Int) (s:Nat):List PV:=[pRow E4 l,pI t,pI (i:Int),pI (k:Int),pI wr,pI al,pI ((s:Int)+1),pRow encL d.1,pRow encL d.2]
set_option maxHeartbeats 4000000 in
theorem told (k0:Nat):ToldF 5 (ELaw k0) (spec RL):=by
 refine Zca G _ (Zaw Try.prog 5) Try.func5 (by kernel_rfl) sh0 (by kernel_rfl) ?_ ?_
 ·intro ps qs h
  obtain ⟨p,l,_,_,_,_,rfl,rfl⟩:=Zak h
  exact Zbp rfl
 ·intro C ps qs hF h a w hsh
  obtain ⟨p,l,hp,hpl,hz,hl,rfl,rfl⟩:=Zak h
  show wpL Try.prog flA _ a w
  have fin:∀ qs a1 w1,qs=[pB true]->Zaf C shR qs a1 w1->(AX.ret=.normal->wpL Try.prog [] (fun e a' w'=>(e=.normal \/ e=.ret)/\∃ sh' ps' es,Zaf C sh' ps' a' w'/\resTo Try.prog Try.f5 sh' (ELaw k0)=some es/\evs (fun i=>ps'[i]?) G es=some [pB true]) a1 w1)/\(AX.ret ≠ .normal->(AX.ret.to=.normal \/ AX.ret.to=.ret)/\∃ sh' ps' es,Zaf C sh' ps' a1 w1/\resTo Try.prog Try.f5 sh' (ELaw k0)=some es/\evs (fun i=>ps'[i]?) G es=some [pB true]):=by
   rintro qs a1 w1 rfl h1
   exact ⟨nofun,fun _=>⟨.inr rfl,shR,_,[SX.var 0],h1,by kernel_rfl,rfl⟩⟩
  by_cases hl1:100 < p.length
  ·rw [<- List.append_nil flA]
   refine Zad names_ok mixed_ok Zan q1 hsh ?_ (fun qs a1 w1 hq h1=>fin qs a1 w1 (by simp [evs,SX.ev] at hq;exact hq.symm) h1)
   simp [-Zag,Zab,Zaa,Base.ev,SX.ev,evs,Value.oneCell',hF,Zac,binPV,G8,u8]
   all_goals omega
  by_cases hl2:20 < l.length
  ·rw [<- List.append_nil flA]
   refine Zad names_ok mixed_ok Zan q2 hsh ?_ (fun qs a1 w1 hq h1=>fin qs a1 w1 (by simp [evs,SX.ev] at hq;exact hq.symm) h1)
   simp [-Zag,Zab,Zaa,Base.ev,SX.ev,evs,Value.oneCell',hF,Zac,binPV,G8,u8]
   all_goals omega
  have hok:OkP p 0:=⟨by omega,by omega,hp⟩
  have hPI:=Znw hok
  obtain ⟨R,hR⟩:∃ R,dkRun p 25 0 ⟨([],[]),0,0⟩=R:=⟨_,rfl⟩
  have g24:=G24 hok hR
  rw [hR] at hPI
  have hp0:=hPI.t0
  have hp1:=hPI.t1
  rw [cutA]
  refine Zad names_ok mixed_ok Zan pre hsh ?_ ?_
  ·simp [-Zag,Zab,Zaa,Base.ev,SX.ev,evs,Value.oneCell',hF,Zac,binPV,G8,u8,g24,u24]
   all_goals omega
  intro qs a1 w1 hq h1
  refine ⟨fun _=>?_,fun h=>absurd rfl h⟩
  simp [evs,SX.ev,hF,g24] at hq
  subst hq
  refine Zap (fun q' a w=>∃ (i:Nat) (d:Desk) (t:Int),i<=l.length/\q'=l.length - i/\DI d t/\0<=t/\t<=975+39 * (i:Int)/\Zaf C shA (stA l d t i) a w) ?_ (n:=l.length) ⟨0,R.d,R.t,by omega,by omega,hPI.di,hp0,by omega,h1⟩
  clear hR g24 hPI hp0 hp1 h1
  rintro q' a w ⟨i,d,t,hi,rfl,hM,ht0,ht1,hin⟩
  show wpL Try.prog lpA _ a w
  by_cases hlt:i < l.length
  ·have hzi:=hz _ (List.getElem_mem hlt)
   have c0:Zbr (pRow E4 l) (pI (i:Int)) 4 0=some (pU (l[i] 0:Int)):=cellK 4 _ l i hlt 0 (by omega)
   have c1:Zbr (pRow E4 l) (pI (i:Int)) 4 1=some (pU (l[i] 1:Int)):=cellK 4 _ l i hlt 1 (by omega)
   have c2:Zbr (pRow E4 l) (pI (i:Int)) 4 2=some (pU (l[i] 2:Int)):=cellK 4 _ l i hlt 2 (by omega)
   have c3:Zbr (pRow E4 l) (pI (i:Int)) 4 3=some (pU (l[i] 3:Int)):=cellK 4 _ l i hlt 3 (by omega)
   have i1:=Zal E4 l i 4 1 .i64 rfl hlt (by decide)
   have i2:=Zal E4 l i 4 2 .i64 rfl hlt (by decide)
   have i3:=Zal E4 l i 4 3 .i64 rfl hlt (by decide)
   have i4:=Zal E4 l i 4 4 .i64 rfl hlt (by decide)
   have v3:IntKind.i64.wrap ((i:Int)+1)=(i:Int)+1:=wrapI _ (by omega) (by omega)
   generalize l[i]=f at *
   obtain ⟨x0,h0⟩:∃ x0:Nat,f 0 % 4=x0:=⟨_,rfl⟩
   obtain ⟨x1,h1'⟩:∃ x1:Nat,f 1 % 3=x1:=⟨_,rfl⟩
   obtain ⟨x2,h2'⟩:∃ x2:Nat,f 2 % 3=x2:=⟨_,rfl⟩
   obtain ⟨x3,h3'⟩:∃ x3:Nat,f 3 % 2=x3:=⟨_,rfl⟩
   obtain ⟨y3,h4'⟩:∃ y3:Nat,f 3 % 40=y3:=⟨_,rfl⟩
   have t0:(f 0:Int).tmod 4=(x0:Int):=by rw [<- h0];rfl
   have t1:(f 1:Int).tmod 3=(x1:Int):=by rw [<- h1'];rfl
   have t2:(f 2:Int).tmod 3=(x2:Int):=by rw [<- h2'];rfl
   have t3:(f 3:Int).tmod 2=(x3:Int):=by rw [<- h3'];rfl
   have t4:(f 3:Int).tmod 40=(y3:Int):=by rw [<- h4'];rfl
   have wx1:IntKind.i64.wrap (x1:Int)=(x1:Int):=wrapI _ (by omega) (by omega)
   have wx2:IntKind.i64.wrap (x2:Int)=(x2:Int):=wrapI _ (by omega) (by omega)
   have wx3:IntKind.i64.wrap (x3:Int)=(x3:Int):=wrapI _ (by omega) (by omega)
   have wy3:IntKind.i64.wrap (y3:Int)=(y3:Int):=wrapI _ (by omega) (by omega)
   have wc:IntKind.i64.wrap (1+(x1:Int))=1+(x1:Int):=wrapI _ (by omega) (by omega)
   have wf:IntKind.i64.wrap (1+(x2:Int))=1+(x2:Int):=wrapI _ (by omega) (by omega)
   have wm:IntKind.i64.wrap (1+(x3:Int))=1+(x3:Int):=wrapI _ (by omega) (by omega)
   have wt:IntKind.i64.wrap (t+(y3:Int))=t+(y3:Int):=wrapI _ (by omega) (by omega)
   have hx0:x0 < 4:=by omega
   have hx1:x1 < 3:=by omega
   have hx2:x2 < 3:=by omega
   have hx3:x3 < 2:=by omega
   have hy3:y3 < 40:=by omega
   clear h0 h1' h2' h3' h4' hzi
   let Q:Exit->Act->World->Prop:=fun e a' w'=>(e=.normal/\∃ n',n' < l.length - i/\∃ (j:Nat) (d:Desk) (t:Int),j<=l.length/\n'=l.length - j/\DI d t/\0<=t/\t<=975+39 * (j:Int)/\Zaf C shA (stA l d t j) a' w') \/ (e=.exit (Zah (nth flA 7))/\wpL Try.prog (flA.drop 8) (fun e a' w'=>(e=.normal \/ e=.ret)/\∃ sh' ps' es,Zaf C sh' ps' a' w'/\resTo Try.prog Try.f5 sh' (ELaw k0)=some es/\evs (fun i=>ps'[i]?) G es=some [pB true]) a' w') \/ (e=.ret/\(((Exit.ret=.normal) \/ Exit.ret=.ret)/\∃ sh' ps' es,Zaf C sh' ps' a' w'/\resTo Try.prog Try.f5 sh' (ELaw k0)=some es/\evs (fun i=>ps'[i]?) G es=some [pB true]))
   let QB:Exit->Act->World->Prop:=fun e a' w'=>(e=.normal/\wpL Try.prog (lpA.drop 3) Q a' w') \/ (e=.exit (Zah (nth lpA 2))/\wpL Try.prog (lpA.drop 3) Q a' w') \/ (e=.ret/\Q .ret a' w') \/ (∃ j,j ≠ (Zah (nth lpA 2))/\e=.exit j/\Q (.exit j) a' w') \/ (∃ ch,e=.panic ch/\Q (.panic ch) a' w')
   have stp':∀ (D:Desk) (t2:Int),DI D t2->0<=t2->t2<=975+39 * ((i:Int)+1)->∀ a w,Zaf C shA (stA l D t2 i) a w->wpL Try.prog (lpA.drop 3) Q a w:=by
    intro D t2 hM2 h20 h21 a w hin
    rw [<- List.append_nil (lpA.drop 3)]
    refine Zad names_ok mixed_ok Zan stp hin ?_ ?_
    ·simp [-Zag,Zab,Zaa,Base.ev,SX.ev,evs,Value.oneCell',binPV,v3]
    ·intro qs a1' w1 hq h1
     refine ⟨fun _=>.inl ⟨rfl,l.length - (i+1),by omega,i+1,D,t2,by omega,rfl,hM2,h20,by omega,?_⟩,fun h=>absurd rfl h⟩
     simp [evs,SX.ev,binPV,v3] at hq
     subst hq
     exact h1
   have rest:∀ (D:Desk) (t2:Int),DI D t2->0<=t2->t2<=975+39 * ((i:Int)+1)->∀ a w,Zaf C shB (stB l D t2 i 1) a w->wpL Try.prog (.block (Zah (nth bdA 5)) (.loop (Zai (nth bdA 5))) :: bdA.drop 6) QB a w:=by
    intro D t2 hM2 h20 h21 a w hin
    have hm2:=hM2.len
    refine Zap (fun q' a w=>∃ k:Nat,1<=k/\k<=4/\q'=4 - k/\Zaf C shB (stB l D t2 i k) a w) ?_ (n:=3) ⟨1,by omega,by omega,by omega,hin⟩
    rintro q' a w ⟨k,hk1,hk4,rfl,hin⟩
    show wpL Try.prog lpB _ a w
    by_cases hk3:k<=3
    ·rw [cutM]
     have vk:IntKind.i64.wrap ((k:Int)+1)=(k:Int)+1:=wrapI _ (by omega) (by omega)
     refine Zad names_ok mixed_ok Zan bhd hin ?_ ?_
     ·simp [-Zag,Zab,Zaa,Base.ev,SX.ev,evs,Value.oneCell',binPV]
      all_goals omega
     intro qs a2' w2 hq h2
     refine ⟨fun _=>?_,fun h=>absurd rfl h⟩
     simp [evs,SX.ev] at hq
     subst hq
     refine Zcz ?_
     show wpL Try.prog bdB _ a2' w2
     rw [cutC]
     refine Zad names_ok mixed_ok Zan b0 h2 (by simp [Base.ev,SX.ev,Value.oneCell']) ?_
     intro qs a3' w3 hq h3
     refine ⟨fun _=>?_,fun h=>absurd rfl h⟩
     simp [evs,SX.ev] at hq
     subst hq
     refine Zap (fun q' a w=>∃ s:Nat,s<=3/\q'=3 - s/\Zaf C shC (stC l D t2 i k (cntW D.1 t2 k s) (cntA D.1 t2 k s) s) a w) ?_ (n:=3) ⟨0,by omega,by omega,h3⟩
     rintro q' a w ⟨s,hs20,rfl,hin⟩
     show wpL Try.prog lpC _ a w
     rw [<- List.append_nil lpC]
     by_cases hslt:s < 3
     ·have vs:IntKind.i64.wrap ((s:Int)+1+1)=(s:Int)+1+1:=wrapI _ (by omega) (by omega)
      have e4:=G4 (t:=t2) (c:=(s:Int)+1) (f:=(k:Int)) hM2.al.may (by omega)
      have hr:=holds_range hM2.al ((s:Int)+1) (k:Int)
      obtain ⟨b1,b2,b3,b4⟩:=cnt_b D.1 t2 k s
      have hA:cntA D.1 t2 k (s+1)=cntA D.1 t2 k s+(if Zbb D.1 t2 ((s:Int)+1) k=0 then 0 else 1):=rfl
      have hW:cntW D.1 t2 k (s+1)=cntW D.1 t2 k s+(if Zbb D.1 t2 ((s:Int)+1) k=2 then 1 else 0):=rfl
      have again:∀ (A' W':Int) qs a' w',A'=cntA D.1 t2 k (s+1)->W'=cntW D.1 t2 k (s+1)->qs=[pRow E4 l,pI t2,pI (i:Int),pI (k:Int),pI W',pI A',pI ((s:Int)+1+1),pRow encL D.1,pRow encL D.2]->Zaf C shC qs a' w'->∃ n',n' < 3 - s/\∃ s':Nat,s'<=3/\n'=3 - s'/\Zaf C shC (stC l D t2 i k (cntW D.1 t2 k s') (cntA D.1 t2 k s') s') a' w':=by
       rintro A' W' qs a' w' rfl rfl rfl h
       exact ⟨3 - (s+1),by omega,s+1,by omega,rfl,h⟩
      clear stp' vk
      rw [hA,hW] at again
      clear hA hW
      generalize cntA D.1 t2 k s=cA at hin b1 b2 again
      generalize cntW D.1 t2 k s=cW at hin b3 b4 again
      generalize Zbb D.1 t2 ((s:Int)+1) k=h at e4 hr again
      have va:IntKind.i64.wrap (cA+1)=cA+1:=wrapI _ (by omega) (by omega)
      have vw:IntKind.i64.wrap (cW+1)=cW+1:=wrapI _ (by omega) (by omega)
      rcases hr with rfl | rfl | rfl
      ·refine Zad names_ok mixed_ok Zan deskAlone.c0 hin ?_ (fun qs a3 w3 hq h3=>⟨fun _=>.inl ⟨rfl,again cA cW qs a3 w3 (by simp) (by simp) (by simp [evs,SX.ev,binPV,vs] at hq;exact hq.symm) h3⟩,fun h=>absurd rfl h⟩)
       simp [-Zag,Zab,Zaa,Base.ev,SX.ev,evs,Value.oneCell',hF,binPV,vs,e4,u4,deskAlone.k4]
       all_goals omega
      ·refine Zad names_ok mixed_ok Zan deskAlone.c1 hin ?_ (fun qs a3 w3 hq h3=>⟨fun _=>.inl ⟨rfl,again (cA+1) cW qs a3 w3 (by simp) (by simp) (by simp [evs,SX.ev,binPV,vs,va] at hq;exact hq.symm) h3⟩,fun h=>absurd rfl h⟩)
       simp [-Zag,Zab,Zaa,Base.ev,SX.ev,evs,Value.oneCell',hF,binPV,vs,va,e4,u4,deskAlone.k4]
       all_goals omega
      ·refine Zad names_ok mixed_ok Zan deskAlone.c2 hin ?_ (fun qs a3 w3 hq h3=>⟨fun _=>.inl ⟨rfl,again (cA+1) (cW+1) qs a3 w3 (by simp) (by simp) (by simp [evs,SX.ev,binPV,vs,va,vw] at hq;exact hq.symm) h3⟩,fun h=>absurd rfl h⟩)
       simp [-Zag,Zab,Zaa,Base.ev,SX.ev,evs,Value.oneCell',hF,binPV,vs,va,vw,e4,u4,deskAlone.k4]
       all_goals omega
     ·obtain rfl:s=3:=by omega
      obtain ⟨b1,b2,b3,b4⟩:=cnt_b D.1 t2 k 3
      have he:=cnt_end hM2.al (k:Int)
      generalize cntA D.1 t2 k 3=cA at hin b1 b2 he
      generalize cntW D.1 t2 k 3=cW at hin b3 b4 he
      refine Zad names_ok mixed_ok Zan cex hin ?_ ?_
      ·simp [-Zag,Zab,Zaa,Base.ev,SX.ev,evs,Value.oneCell',binPV]
      ·intro qs a4 w4 hq h4
       refine ⟨nofun,fun _=>.inr (.inl ⟨by rw [show Zah (nth bdB 2)=5 by kernel_rfl];rfl,?_⟩)⟩
       simp [evs,SX.ev] at hq
       subst hq
       rw [<- List.append_nil (bdB.drop 3)]
       have fin2:∀ a6 w6,Zaf C shB (stB l D t2 i k) a6 w6->wpL Try.prog (lpB.drop 3) (fun e a' w'=>(e=.normal/\∃ n',n' < 4 - k/\∃ k:Nat,1<=k/\k<=4/\n'=4 - k/\Zaf C shB (stB l D t2 i k) a' w') \/ (e=.exit (Zah (nth bdA 5))/\wpL Try.prog (bdA.drop 6) QB a' w') \/ (e=.ret/\QB .ret a' w')) a6 w6:=by
        intro a6 w6 h6
        rw [<- List.append_nil (lpB.drop 3)]
        refine Zad names_ok mixed_ok Zan bst h6 ?_ ?_
        ·simp [-Zag,Zab,Zaa,Base.ev,SX.ev,evs,Value.oneCell',binPV,vk]
        ·intro qs a5 w5 hq h5
         refine ⟨fun _=>.inl ⟨rfl,4 - (k+1),by omega,k+1,by omega,by omega,rfl,?_⟩,fun h=>absurd rfl h⟩
         simp [evs,SX.ev,binPV,vk] at hq
         subst hq
         exact h5
       by_cases hw:0 < cW
       ·refine Zad names_ok mixed_ok Zan d10 h4 ?_ ?_
        ·have hw1:=he hw
         simp [-Zag,Zab,Zaa,Base.ev,SX.ev,evs,Value.oneCell',binPV,hw]
         all_goals omega
        ·intro qs a6 w6 hq h6
         simp [evs,SX.ev] at hq
         subst hq
         exact ⟨fun _=>.inl ⟨rfl,fin2 a6 w6 h6⟩,fun h=>absurd rfl h⟩
       ·refine Zad names_ok mixed_ok Zan d00 h4 ?_ ?_
        ·simp [-Zag,Zab,Zaa,Base.ev,SX.ev,evs,Value.oneCell',binPV,hw]
         all_goals omega
        ·intro qs a6 w6 hq h6
         simp [evs,SX.ev] at hq
         subst hq
         exact ⟨fun _=>.inl ⟨rfl,fin2 a6 w6 h6⟩,fun h=>absurd rfl h⟩
    ·rw [<- List.append_nil lpB]
     refine Zad names_ok mixed_ok Zan bex hin ?_ ?_
     ·simp [-Zag,Zab,Zaa,Base.ev,SX.ev,evs,Value.oneCell',binPV]
      all_goals omega
     ·intro qs a3' w3 hq h3
      refine ⟨nofun,fun _=>.inr (.inl ⟨by rw [show Zah (nth bdA 5)=3 by kernel_rfl];rfl,?_⟩)⟩
      simp [evs,SX.ev] at hq
      subst hq
      have e6:=G6 hM2.al.may (by omega)
      have hd4:=hM2.l4
      rw [<- List.append_nil (bdA.drop 6)]
      refine Zad names_ok mixed_ok Zan my h3 ?_ (fun qs a4 w4 hq h4=>⟨fun _=>.inl ⟨rfl,stp' D t2 hM2 h20 h21 a4 w4 (by simp [evs,SX.ev] at hq;subst hq;exact h4)⟩,fun h=>absurd rfl h⟩)
      simp [-Zag,Zab,Zaa,Base.ev,SX.ev,evs,Value.oneCell',hF,binPV,Zac,e6,u6,deskAlone.k6]
      all_goals omega
   show wpL Try.prog lpA Q a w
   rw [cutL]
   refine Zad names_ok mixed_ok Zan hd hin ?_ ?_
   ·simp [-Zag,Zab,Zaa,Base.ev,SX.ev,evs,Value.oneCell',Zac,binPV]
    exact hlt
   intro qs a1' w1 hq h1
   refine ⟨fun _=>?_,fun h=>absurd rfl h⟩
   simp [evs,SX.ev] at hq
   subst hq
   refine Zcz ?_
   show wpL Try.prog bdA QB a1' w1
   rw [cutB]
   clear stp'
   have hm1:=hM.len
   have hm4:=hM.l4
   refine Zad names_ok mixed_ok Zan md h1 ?_ ?_
   ·simp [-Zag,Zab,Zaa,Base.ev,SX.ev,evs,Value.oneCell',Zac,binPV,Zbq,c0,c1,c2,i1,i2,i3,i4,t0,t1,t2,wx1,wx2,wc,wf]
   intro qs a2' w2 hq h2
   refine ⟨fun _=>?_,fun h=>absurd rfl h⟩
   simp [evs,SX.ev,binPV,Zbq,c0,c1,c2,t0,t1,t2,wx1,wx2,wc,wf] at hq
   subst hq
   by_cases hk0:x0=0
   ·subst hk0
    have e2:=G2 hM (1+(x1:Int)) (1+(x2:Int))
    have hM2:=dkm.di_give hM (1+(x1:Int)) (1+(x2:Int))
    generalize giveD d (1+(x1:Int)) (1+(x2:Int))=D at *
    refine Zad names_ok mixed_ok Zan deskAlone.sG h2 ?_ (fun qs a3 w3 hq h3=>⟨fun _=>rest D _ hM2 (by omega) (by omega) a3 w3 (by simp [evs,SX.ev,hF,e2] at hq;subst hq;exact h3),fun h=>absurd rfl h⟩)
    simp [-Zag,Zab,Zaa,Base.ev,SX.ev,evs,Value.oneCell',hF,binPV,e2,u2,deskAlone.k2]
   ·by_cases hk1:x0=1
    ·subst hk1
     have e3:=G3 hM (show t<=t+(y3:Int) by omega) (by omega) (by omega)
     have hM2:=dkm.di_run hM (show t<=t+(y3:Int) by omega) (by omega) (by omega)
     generalize dix.callsF (dkm.clashW (runD (t+(y3:Int)) d).1 (t+(y3:Int))) (runD (t+(y3:Int)) d).1.2 []=CF at *
     generalize runD (t+(y3:Int)) d=D at *
     refine Zad names_ok mixed_ok Zan deskAlone.sR h2 ?_ (fun qs a3 w3 hq h3=>⟨fun _=>rest D.1 _ hM2 (by omega) (by omega) a3 w3 (by simp [evs,SX.ev,hF,binPV,Zbq,c3,t4,wy3,wt,e3] at hq;subst hq;exact h3),fun h=>absurd rfl h⟩)
     simp [-Zag,Zab,Zaa,Base.ev,SX.ev,evs,Value.oneCell',hF,binPV,Zbq,c3,i3,i4,t4,wy3,wt,e3,u3,deskAlone.k3]
    ·have n0:¬ (x0:Int)=0:=by omega
     have n1:¬ (x0:Int)=1:=by omega
     have hw:dkm.okW (1+(x1:Int),(i:Int),1+(x2:Int),1+(x3:Int)):=by simp only [dkm.okW];omega
     have e1:=G1 hM (Int.le_refl t) ht0 (by omega) hw
     have hM2:=dkm.di_ask hM (Int.le_refl t) hw ht0 (by omega)
     have hah:=dkm.ask_ahead (d:=d) (t:=t) (w:=(1+(x1:Int),(i:Int),1+(x2:Int),1+(x3:Int)))
     generalize askD t d (1+(x1:Int),(i:Int),1+(x2:Int),1+(x3:Int))=A at *
     obtain ⟨D,b,P,er⟩:=A
     simp only at e1 hM2 hah
     cases b with
     | false =>
      refine Zad names_ok mixed_ok Zan deskAlone.sA0 h2 ?_ (fun qs a3 w3 hq h3=>⟨fun _=>rest D _ hM2 (by omega) (by omega) a3 w3 (by simp [evs,SX.ev,hF,binPV,Zbq,c3,t3,wx3,wm,e1] at hq;subst hq;exact h3),fun h=>absurd rfl h⟩)
      simp [-Zag,Zab,Zaa,Base.ev,SX.ev,evs,Value.oneCell',hF,binPV,Zbq,c3,i3,i4,t3,wx3,wm,e1,u1,deskAlone.k1,n0,n1,hk0,hk1]
     | true =>
      have e5:=G5 (l:=d.2) (c:=1+(x1:Int)) (f:=1+(x2:Int)) (by omega)
      rw [hah rfl] at e5
      refine Zad names_ok mixed_ok Zan deskAlone.sA1 h2 ?_ (fun qs a3 w3 hq h3=>⟨fun _=>rest D _ hM2 (by omega) (by omega) a3 w3 (by simp [evs,SX.ev,hF,binPV,Zbq,c3,t3,wx3,wm,e1] at hq;subst hq;exact h3),fun h=>absurd rfl h⟩)
      simp [-Zag,Zab,Zaa,Base.ev,SX.ev,evs,Value.oneCell',hF,binPV,Zbq,c3,i3,i4,t3,wx3,wm,e1,e5,u1,u5,deskAlone.k1,deskAlone.k5,n0,n1,hk0,hk1]
  ·have hie:i=l.length:=by omega
   subst hie
   rw [<- List.append_nil lpA]
   refine Zad names_ok mixed_ok Zan ex hin ?_ ?_
   ·simp [-Zag,Zab,Zaa,Base.ev,SX.ev,evs,Value.oneCell',Zac,binPV]
   ·intro qs a1' w1 hq h1
    refine ⟨nofun,fun _=>.inr (.inl ⟨by rw [show Zah (nth flA 7)=0 by kernel_rfl];rfl,?_⟩)⟩
    simp [evs,SX.ev] at hq
    subst hq
    rw [<- List.append_nil (flA.drop 8)]
    refine Zad names_ok mixed_ok Zan post h1 ?_ (fun qs a1 w1 hq h1=>fin qs a1 w1 (by simp [evs,SX.ev] at hq;exact hq.symm) h1)
    simp [-Zag,Zab,Zaa,Base.ev,SX.ev,evs,Value.oneCell',Zac,binPV]
theorem walk (w:World) (v:Value) (len:Nat) (Z:Nat->Int) (hg:IsRow .u8 w v len Z) (v1:Value) (len1:Nat) (Z1:Nat->Nat->Int) (h:IsGrid 4 w v1 len1 Z1) :
  Calls Try.prog 5 #[v,v1] w fun e w'=>e=.returned (.bool true)/\Ex w w':=by
 obtain ⟨p,hbp,hlen,hr0⟩:=rowU hg
 obtain ⟨l,hb,hr⟩:=gridK pos4 h
 refine Zle (told 0) rfl (us:=[v,v1]) (ps:=[pRow encU p,pRow E4 l]) (Zaj fL ⟨p,l,hbp,hlen,hb,Zlm hr,rfl,rfl⟩) rfl rfl (fun i p u hp hu=>?_)
 match i,hp,hu with
 | 0,hp,hu=>simp at hp hu;subst hp;subst hu;exact hr0
 | 1,hp,hu=>simp at hp hu;subst hp;subst hu;exact hr
 | i+2,hp,hu=>simp at hp
end Go.Proofs.Ytcaclmdkhffegaa.deskAlone
