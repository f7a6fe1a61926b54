/- The state of sectors, the document's: told. -/
import Derived.Test.YtefkakjegdjojaaGreatImp
import Derived.Test.YtefkakjegdjojaaGreatItc
import Derived.Test.YtefkakjegdjojaaGreatIst
namespace Go.Proofs.YtefkakjegdjojaaGreat.itk
open Go Go.RowKit eng SX Fact fil ima symD sta
open bip (ETkB RTkB fTkB kTkB Zit cellY idxP_by r_subY)
open ipd (EPuI RPuI fPuI kPuI)
open irs (fbo mbo updM updF Zwp Zwo ex_six ex_three ex_six' ex_three')
open ieq (ESq RSq fSq sameL Zls Znr kSq)
open iws (Zdk)
open iti (ansT)
open idf (encS_inj)
open dirs (encF cellF FileM)
open fileFronts (Zae)
set_option linter.unusedVariables false
set_option linter.unusedSimpArgs false
set_option maxRecDepth 1000000

def EHm (k:Nat):FnE:={ k:=k,ins:=[],leaks:=[],outs:=[none],kinds:=[.num] }
def ETkN (k:Nat):FnE:={ k:=k,ins:=[none,none],leaks:=[false,false],outs:=[none,none],kinds:=[.num,.num] }
def tabH (f:FuncId):Option FnE:=cond (Nat.beq f 18) (some (EPuI 1)) (cond (Nat.beq f 45) (some (sta.ENew 2)) none)
def tabT (f:FuncId):Option FnE:=cond (Nat.beq f 67) (some (EHm 1)) (cond (Nat.beq f 18) (some (EPuI 2)) (cond (Nat.beq f 17) (some (ESq 3)) (cond (Nat.beq f 68) (some (ETkN 4)) none)))
def hT (_:FuncId) (o:Oper):Option Hint:=match o.op with
 | .convert t _ _=>cond (Nat.beq t 9) (some .still) none
 | .makeSlice ..=>some .own
 | .indexAddr t _ _=>cond (Nat.beq t 28 || Nat.beq t 27) (some .own) none
 | .slice _ _ _ none _=>some .cut
 | _=>none
noncomputable def flT:=flat (Zar Tryz.prog 24)
noncomputable def lpA:=flat (Zak (nth flT 3))
noncomputable def lpM:=flat (Zak (nth flT 11))
noncomputable def lpF:=flat (Zak (nth flT 13))
def zbx:BoxT:=⟨30,0,false,[.nil,.nil,.leaf],none,false⟩
def stbx (j:Nat):BoxT:=⟨30,0,false,[.own 2 j 3,.own 3 (j+1) 4,.leaf],none,false⟩
def sbl:BoxT:=⟨30,0,false,[.own 1 2 3,.own 2 3 4,.leaf],none,false⟩
def shT0:Shape:=⟨[(0,.leaf)],[],[some false],138,24⟩
def shTA:Shape:=⟨[(0,.leaf),(2,.ptr 0 0 0 0),(4,.leaf),(5,.leaf)],[zbx],[some false,none,none,none],138,24⟩
def shTn:Shape:=⟨[(2,.ptr 0 0 0 0),(3,.leaf)],[zbx],[none,none],138,24⟩
def shTM:Shape:=⟨[(0,.leaf),(2,.ptr 0 0 0 0),(6,.leaf),(7,.ptr 1 0 0 0),(8,.leaf)],[zbx,stbx 5,fbo 5,mbo 6],[some false,some false,none,none,none],138,24⟩
def shTF:Shape:=⟨[(0,.leaf),(2,.ptr 0 0 0 0),(6,.leaf),(7,.ptr 1 0 0 0),(10,.leaf)],[zbx,stbx 5,fbo 5,mbo 6],[some false,some false,none,none,none],138,24⟩
def shTy:Shape:=⟨[(2,.ptr 0 0 0 0),(3,.leaf)],[sbl,fbo 2,mbo 3],[none,none],138,24⟩
@[simp] def Zsk:SX:=rop ROp.toStr [SX.sub (.var 1) (rop ROp.min2 [.con (.int .i64 1),.con (.int .i64 1)]) (.bin .add (.con (.int .i64 1)) (rop ROp.min2 [.conv .i64 (.cell (.var 1) (.con (.int .i64 0)) 1 0),.con (.int .i64 8)])) 1]
@[simp] def Zsj:SX:=rop (ROp.upd 4 2) [rop (ROp.upd 4 1) [rop (ROp.upd 4 0) [.var 6,.var 2,.fn 4 [.var 1,.con (.int .i64 4)] 0],.var 2,.conv .i64 (.cell (.var 1) (.con (.int .i64 4)) 1 0)],.var 2,.conv .i64 (.cell (.var 1) (.con (.int .i64 5)) 1 0)]
@[simp] def Zsi:SX:=.bin .add (.con (.int .i64 14)) (rop ROp.min2 [.conv .i64 (.cell (.var 1) (.con (.int .i64 13)) 1 0),.con (.int .i64 24)])
@[simp] def Zsh:SX:=rop (ROp.upd 3 1) [rop (ROp.upd 3 0) [.var 5,.var 2,Zsk],.var 2,.fn 4 [SX.sub (.var 1) (rop ROp.min2 [.con (.int .i64 9),.con (.int .i64 9)]) (.len (.var 1)) 1,.con (.int .i64 4)] 0]
@[simp] def Zld:SX:=rop ROp.min2 [.con (.int .i64 6),.con (.int .i64 6)]
@[simp] def Za1:SX:=.con (.int .i64 4)
@[simp] def Zpd:SX:=.bin .neq (.len (rop ROp.ofStr [.var 1])) (.bin .mul (.fn 1 [] 0) (.con (.int .i64 32)))
@[simp] def Zfh:SX:=.bin .add (.var 2) (.con (.int .i64 1))
@[simp] def Zsg:SX:=rop (ROp.rep [.string { data:={ toList:=[] } },.int .i64 0,.string { data:={ toList:=[] } }]) [.con (.int .i64 6)]
@[simp] def Zq4:SX:=rop ROp.toStr [SX.sub (.var 1) (rop ROp.min2 [.con (.int .i64 14),.con (.int .i64 14)]) Zsi 1]
@[simp] def Zj8:SX:=rop ROp.min2 [.con (.int .i64 9),.con (.int .i64 9)]
@[simp] def Zq3:SX:=rop (ROp.rep [.int .i64 0,.int .i64 0,.int .i64 0,.int .i64 0]) [.con (.int .i64 3)]
@[simp] def Zq2:SX:=rop ROp.min2 [.conv .i64 (.cell (.var 1) (.con (.int .i64 0)) 1 0),.con (.int .i64 8)]
@[simp] def Zhv:SX:=.bin .neq (.len (.var 0)) (.fn 1 [] 0)
@[simp] def Zhu:List SX:=[rop ROp.ofStr [.var 1],Za1]
@[simp] def Za7:SX:=.con (.int .i64 0)
@[simp] def Zq1:SX:=.fn 4 [SX.sub (.var 1) Zld (.len (.var 1)) 1,Za1] 0
@[simp] def Zj7:Fact:=same (.len (.var 5)) (.len (.var 5))
@[simp] def Zj6:Fact:=same (.len (.var 6)) (.len (.var 6))
@[simp] def Zmt:List SX:=[.fn 2 [.var 5,.var 6,.var 4] 0,.var 0]
@[simp] def Zms:SX:=.bin .lss (.var 2) (.con (.int .i64 3))
@[simp] def Zmr:SX:=.bin .lss (.var 2) (.con (.int .i64 6))
@[simp] def Zq0:SX:=.bin .add (.var 1) (.cell (.var 0) (.var 2) 1 0)
@[simp] def Zj5:SX:=.len (rop ROp.ofStr [.var 1])
@[simp] def Zmq:SX:=.bin .lss (.var 2) (.len (.var 0))
@[simp] def Zqz:SX:=.cell (.var 1) (.con (.int .i64 13)) 1 0
theorem hm:runTo Tryz.prog (orcFn tabH) 10000 67 (EHm 3) [] []=some ([.fn 45 (sta.ENew 2) [],.ok (.fn 2 [] 2),.fn 18 (EPuI 1) [.fn 2 [] 0,.fn 2 [] 1,.fn 2 [] 2],.ok (.len (.fn 1 [.fn 2 [] 0,.fn 2 [] 1,.fn 2 [] 2] 0))],[.len (.fn 1 [.fn 2 [] 0,.fn 2 [] 1,.fn 2 [] 2] 0)]):=by kernel_rfl
theorem tpre:segTo Tryz.prog (orcFn tabT) 10000 (flT.take 3) shT0 [] shTA [(1,0)] hT=some (.normal,[.ok (.con (.string { data:={ toList:=[] } })),.ok Za7,.ok Za7],[.var 0,.con (.string { data:={ toList:=[] } }),Za7,Za7]):=by kernel_rfl
theorem tx:segTo Tryz.prog (orcFn tabT) 10000 lpA shTA [0] shTA [(0,0)] hT=some (.exit 0,[.ok (.len (.var 0)),.ok Zmq,.is Zmq (.bool false),.ok (.var 1),.ok (.var 2),.ok (.var 3)],[.var 0,.var 1,.var 2,.var 3]):=by kernel_rfl
theorem tgo:segTo Tryz.prog (orcFn tabT) 10000 lpA shTA [1] shTA [(0,0)] hT=some (.normal,[.ok (.len (.var 0)),.ok Zmq,.is Zmq (.bool true),.idx (.var 0) (.var 2) 1 1,.idx (.var 0) (.var 2) 1 1,.ok (.cell (.var 0) (.var 2) 1 0),.ok Zq0,.ok Zfh,.ok Zq0,.ok Zfh,.ok (.var 3)],[.var 0,Zq0,Zfh,.var 3]):=by kernel_rfl
theorem tn1:segTo Tryz.prog (orcFn tabT) 10000 ((flT.drop 4).take 7) shTA [1] shTn [(0,0)] hT=some (.ret,[upto (.slen (.var 1)) 4294967296,.ok (.len (.var 0)),.fn 67 (EHm 1) [],.ok (.fn 1 [] 0),.ok Zhv,.is Zhv (.bool true),.ok (.con (.bool false)),.ok Za7],[.con (.bool false),Za7]):=by kernel_rfl
theorem tn2:segTo Tryz.prog (orcFn tabT) 10000 ((flT.drop 4).take 7) shTA [0,1] shTn [(0,0)] hT=some (.ret,[upto (.slen (.var 1)) 4294967296,.ok (.len (.var 0)),.fn 67 (EHm 1) [],.ok (.fn 1 [] 0),.ok Zhv,.is Zhv (.bool false),.ok Zj5,.fn 67 (EHm 1) [],.ok (.fn 1 [] 0),.ok (.bin .mul (.fn 1 [] 0) (.con (.int .i64 32))),.ok Zpd,.is Zpd (.bool true),.ok (.con (.bool false)),.ok Za7],[.con (.bool false),Za7]):=by kernel_rfl
theorem tmd:segTo Tryz.prog (orcFn tabT) 10000 ((flT.drop 4).take 7) shTA [0,0,1,0] shTM [(0,0),(6,0),(4,0),(5,0)] hT=some (.normal,[upto (.slen (.var 1)) 4294967296,.ok (.len (.var 0)),.fn 67 (EHm 1) [],.ok (.fn 1 [] 0),.ok Zhv,.is Zhv (.bool false),.ok Zj5,.fn 67 (EHm 1) [],.ok (.fn 1 [] 0),.ok (.bin .mul (.fn 1 [] 0) (.con (.int .i64 32))),.ok Zpd,.is Zpd (.bool false),same (.con (.int .i64 6)) (.con (.int .i64 6)),upto (.con (.int .i64 6)) 4294967296,same (.con (.int .i64 3)) (.con (.int .i64 3)),upto (.con (.int .i64 3)) 4294967296,.fn 68 (ETkN 4) Zhu,.ok (.fn 4 Zhu 0),.ok (.fn 4 Zhu 1),.is (.fn 4 Zhu 1) (.bool true),le3 (rop ROp.min2 [Za1,Za1]) Zj5 Zj5,.ok Za7,.ok (.var 3),.ok (.fn 4 Zhu 0),same (.len Zsg) (.len Zsg),same (.len Zq3) (.len Zq3)],[.var 0,SX.sub (rop ROp.ofStr [.var 1]) (rop ROp.min2 [Za1,Za1]) Zj5 1,Za7,.var 3,.fn 4 Zhu 0,Zsg,Zq3]):=by kernel_rfl
theorem mx:segTo Tryz.prog (orcFn tabT) 10000 lpM shTM [0] shTM [(0,0),(1,0),(2,0),(3,0)] hT=some (.exit 2,[.ok Zms,.is Zms (.bool false),.ok (.var 2),.ok (.var 3),.ok (.var 4),Zj7,Zj6],[.var 0,.var 1,.var 2,.var 3,.var 4,.var 5,.var 6]):=by kernel_rfl
theorem mo:segTo Tryz.prog (orcFn tabT) 10000 lpM shTM [1,1,0,1,0] shTM [(0,0),(1,0),(2,0),(3,0)] hT=some (.normal,[.ok Zms,.is Zms (.bool true),rng (.var 2) (.len (.var 6)),.fn 68 (ETkN 4) [.var 1,Za1],.ok (.fn 4 [.var 1,Za1] 0),.ok (.fn 4 [.var 1,Za1] 1),.is (.fn 4 [.var 1,Za1] 1) (.bool true),.idx (.var 6) (.var 2) 4 1,.idx (.var 1) Za1 1 1,.idx (.var 1) Za1 1 1,.ok (.cell (.var 1) Za1 1 0),.ok (.conv .i64 (.cell (.var 1) Za1 1 0)),.idx (rop (ROp.upd 4 0) [.var 6,.var 2,.fn 4 [.var 1,Za1] 0]) (.var 2) 4 2,.idx (.var 1) (.con (.int .i64 5)) 1 1,.idx (.var 1) (.con (.int .i64 5)) 1 1,.ok (.cell (.var 1) (.con (.int .i64 5)) 1 0),.ok (.conv .i64 (.cell (.var 1) (.con (.int .i64 5)) 1 0)),.idx (rop (ROp.upd 4 1) [rop (ROp.upd 4 0) [.var 6,.var 2,.fn 4 [.var 1,Za1] 0],.var 2,.conv .i64 (.cell (.var 1) Za1 1 0)]) (.var 2) 4 3,le3 Zld (.len (.var 1)) (.len (.var 1)),.fn 68 (ETkN 4) [SX.sub (.var 1) Zld (.len (.var 1)) 1,Za1],.ok Zq1,.ok (.fn 4 [SX.sub (.var 1) Zld (.len (.var 1)) 1,Za1] 1),.is (.fn 4 [SX.sub (.var 1) Zld (.len (.var 1)) 1,Za1] 1) (.bool true),.idx Zsj (.var 2) 4 4,le3 (rop ROp.min2 [.con (.int .i64 10),.con (.int .i64 10)]) (.len (.var 1)) (.len (.var 1)),.ok Zfh,.ok Zfh,.ok (.var 3),.ok (.var 4),Zj7,same (.len (.var 6)) (.len (rop (ROp.upd 4 3) [Zsj,.var 2,Zq1]))],[.var 0,SX.sub (.var 1) (rop ROp.min2 [.con (.int .i64 10),.con (.int .i64 10)]) (.len (.var 1)) 1,Zfh,.var 3,.var 4,.var 5,rop (ROp.upd 4 3) [Zsj,.var 2,Zq1]]):=by kernel_rfl
theorem md:segTo Tryz.prog (orcFn tabT) 10000 ((flT.drop 12).take 1) shTM [] shTF [(0,0),(1,0),(2,0),(3,0)] hT=some (.normal,[.ok Za7,.ok (.var 3),.ok (.var 4),Zj7,Zj6],[.var 0,.var 1,Za7,.var 3,.var 4,.var 5,.var 6]):=by kernel_rfl
theorem fx:segTo Tryz.prog (orcFn tabT) 10000 lpF shTF [0] shTF [(0,0),(1,0),(2,0),(3,0)] hT=some (.exit 4,[.ok Zmr,.is Zmr (.bool false),.ok (.var 2),.ok (.var 3),.ok (.var 4),Zj7,Zj6],[.var 0,.var 1,.var 2,.var 3,.var 4,.var 5,.var 6]):=by kernel_rfl
theorem fo:segTo Tryz.prog (orcFn tabT) 10000 lpF shTF [1,0,1,0] shTF [(0,0),(1,0),(2,0),(3,0)] hT=some (.normal,[.ok Zmr,.is Zmr (.bool true),rng (.var 2) (.len (.var 5)),.idx (.var 1) Za7 1 1,.idx (.var 1) Za7 1 1,.ok (.cell (.var 1) Za7 1 0),.ok (.conv .i64 (.cell (.var 1) Za7 1 0)),.ok Zq2,.ok (.bin .add (.con (.int .i64 1)) Zq2),le3 (rop ROp.min2 [.con (.int .i64 1),.con (.int .i64 1)]) (.bin .add (.con (.int .i64 1)) Zq2) (.len (.var 1)),.ok Zsk,.idx (.var 5) (.var 2) 3 1,le3 Zj8 (.len (.var 1)) (.len (.var 1)),.fn 68 (ETkN 4) [SX.sub (.var 1) Zj8 (.len (.var 1)) 1,Za1],.ok (.fn 4 [SX.sub (.var 1) Zj8 (.len (.var 1)) 1,Za1] 0),.ok (.fn 4 [SX.sub (.var 1) Zj8 (.len (.var 1)) 1,Za1] 1),.is (.fn 4 [SX.sub (.var 1) Zj8 (.len (.var 1)) 1,Za1] 1) (.bool true),.idx (rop (ROp.upd 3 0) [.var 5,.var 2,Zsk]) (.var 2) 3 2,.idx (.var 1) (.con (.int .i64 13)) 1 1,.idx (.var 1) (.con (.int .i64 13)) 1 1,.ok Zqz,.ok (.conv .i64 Zqz),.ok (rop ROp.min2 [.conv .i64 Zqz,.con (.int .i64 24)]),.ok Zsi,le3 (rop ROp.min2 [.con (.int .i64 14),.con (.int .i64 14)]) Zsi (.len (.var 1)),.ok Zq4,.idx Zsh (.var 2) 3 3,le3 (rop ROp.min2 [.con (.int .i64 38),.con (.int .i64 38)]) (.len (.var 1)) (.len (.var 1)),.ok Zfh,.ok Zfh,.ok (.var 3),.ok (.var 4),same (.len (.var 5)) (.len (rop (ROp.upd 3 2) [Zsh,.var 2,Zq4])),Zj6],[.var 0,SX.sub (.var 1) (rop ROp.min2 [.con (.int .i64 38),.con (.int .i64 38)]) (.len (.var 1)) 1,Zfh,.var 3,.var 4,rop (ROp.upd 3 2) [Zsh,.var 2,Zq4],.var 6]):=by kernel_rfl
theorem en:segTo Tryz.prog (orcFn tabT) 10000 (flT.drop 14) shTF [0] shTn [(0,0)] hT=some (.ret,[.fn 18 (EPuI 2) [.var 5,.var 6,.var 4],.fn 17 (ESq 3) Zmt,.is (.fn 3 Zmt 0) (.bool false),.ok (.con (.bool false)),.ok Za7],[.con (.bool false),Za7]):=by kernel_rfl
theorem ey:segTo Tryz.prog (orcFn tabT) 10000 (flT.drop 14) shTF [1] shTy [(0,0),(2,0),(3,0)] hT=some (.ret,[.fn 18 (EPuI 2) [.var 5,.var 6,.var 4],.fn 17 (ESq 3) Zmt,.is (.fn 3 Zmt 0) (.bool true),.ok (.con (.bool true)),.ok (.var 4),Zj7,Zj6],[.con (.bool true),.var 4,.var 5,.var 6]):=by kernel_rfl

@[simp] theorem kHm (k:Nat):(EHm k).k=k:=rfl
@[simp] theorem kTkN (k:Nat):(ETkN k).k=k:=rfl
@[simp] theorem kENw (k:Nat):(sta.ENew k).k=k:=rfl
def RHm (ps qs:List PV):Prop:=ps=[]/\qs=[pI 9]
theorem fHm:∀ ps q1 q2,RHm ps q1->RHm ps q2->q1=q2:=by
 rintro ps q1 q2 ⟨_,rfl⟩ ⟨_,rfl⟩;rfl
noncomputable def FH:Fns:=fun k=>match k with | 1=>spec RPuI | 2=>spec sta.RNew | _=>fun _=>none
theorem Zub:MayS newS:=Zgw.1 (by kernel_rfl)
theorem toldHm (k:Nat):ToldF 67 (EHm k) (spec RHm):=by
 have t1:ToldF 18 (EPuI 1) (FH 1):=imp.toldPuID 1
 have t2:ToldF 45 (sta.ENew 2) (FH 2):=sta.toldNew 2
 refine Ze5 Zac Zad FH [] ?_
 intro ps qs h _
 obtain ⟨rfl,rfl⟩:=Zaj h
 have g2:FH 2 []=some (pSt newS):=Zal sta.fNew ⟨rfl,rfl⟩
 have g1:FH 1 [pRow encF newS.files,pRow encM newS.marks,pI newS.epoch]=some [pRow encS (putI newS)]:=Zal fPuI ⟨newS,ise.may_pre Zub,rfl,rfl⟩
 have rl:lenPV (pRow encS (putI newS))=some (pI 9):=by rw [Zaf,Ze7 Zub];rfl
 simp only [pSt] at g2
 generalize pRow encS (putI newS)=z at *
 generalize pRow encF newS.files=x at *
 generalize pRow encM newS.marks=y at *
 refine ⟨_,_,_,_,_,_,Zai tabH,hm,fun w FP=>?_,?_⟩
 ·simp [-Zae,Zab,Zaa,Base.ev,SX.ev,evs,Value.oneCell',g1,g2,t1,t2,rl]
 ·simp [evs,SX.ev,g1,g2,rl]
noncomputable def FT:Fns:=fun k=>match k with | 1=>spec RHm | 2=>spec RPuI | 3=>spec RSq | 4=>spec RTkB | _=>fun _=>none
theorem pt1:ToldF 67 (EHm 1) (FT 1):=toldHm 1
theorem pt2:ToldF 18 (EPuI 2) (FT 2):=imp.toldPuID 2
theorem pt3:ToldF 17 (ESq 3) (FT 3):=ist.toldSt5 3
theorem pt4:ToldF 68 (ETkN 4) (FT 4):=Zgo (rbt.toldTkR 4) rfl rfl rfl rfl rfl
theorem FT4 {l:List UInt8} {n:Nat} (hl:l.length<=1000000) (h1:1<=n) (h7:n<=7) (hn:n<=l.length):FT 4 [pBy l,pI (n:Int)]=some [pI (num (l.take n)),pB true]:=Zal fTkB ⟨l,n,hl,h1,h7,rfl,by rw [if_pos hn]⟩
theorem num_one {l:List UInt8} {k:Nat} (h:k < l.length):num ((l.drop k).take 1)=(l[k].toNat:Int):=by
 rw [List.drop_eq_getElem_cons h]
 show num [l[k]]=_
 simp [num]
theorem Zv3 {l:List UInt8} {n:Nat} (a:Nat) (h:a<=n) (hn:l.length=n):subPV (pBy l) (pI (a:Int)) (pI (n:Int)) 1=some (pBy (l.drop a)):=by
 rw [r_subY l a n h (by omega),List.take_of_length_le (by simp;omega)]
theorem r_mid {l:List UInt8} {a c:Nat} (h:a+c<=l.length):subPV (pBy l) (pI (a:Int)) (pI ((a+c:Nat):Int)) 1=some (pBy ((l.drop a).take c)):=by
 rw [r_subY l a (a+c) (by omega) h,show a+c - a=c by omega]
def stM (b:List UInt8) (i:Nat):List MarkM:=(List.range 3).map fun k=>if k < i then mkT (b.drop (4+10 * k)) else m0
def stF (b:List UInt8) (i:Nat):List FileM:=(List.range 6).map fun k=>if k < i then ima.flT (b.drop (34+38 * k)) else f00
theorem set_step {α:Type} (f:Nat->α) (z:α) (n i:Nat) (h:i < n):((List.range n).map fun k=>if k < i then f k else z).set i (f i)=(List.range n).map fun k=>if k < i+1 then f k else z:=by
 apply List.ext_getElem
 ·simp
 ·intro j h1 h2
  simp only [List.getElem_set,List.getElem_map,List.getElem_range]
  by_cases hj:i=j
  ·subst hj;simp
  ·rw [if_neg hj]
   by_cases hji:j < i
   ·rw [if_pos hji,if_pos (by omega)]
   ·rw [if_neg hji,if_neg (by omega)]
theorem stM_next {b:List UInt8} {i:Nat} (h:i < 3):(stM b i).set i (mkT (b.drop (4+10 * i)))=stM b (i+1):=set_step (fun k=>mkT (b.drop (4+10 * k))) m0 3 i h
theorem stF_next {b:List UInt8} {i:Nat} (h:i < 6):(stF b i).set i (ima.flT (b.drop (34+38 * i)))=stF b (i+1):=set_step (fun k=>ima.flT (b.drop (34+38 * k))) f00 6 i h
theorem Zp0 (b:List UInt8) (i:Nat):(stM b i).length=3:=by simp [stM]
theorem Zp1 (b:List UInt8) (i:Nat):(stF b i).length=6:=by simp [stF]
theorem st_parse (b:List UInt8):(⟨stF b 6,stM b 3,num (b.take 4)⟩:StM)=Zen b:=by
 simp only [Zen,StM.mk.injEq,and_true]
 constructor
 ·apply List.map_congr_left;intro k hk;simp only [List.mem_range] at hk;rw [if_pos hk]
 ·apply List.map_congr_left;intro k hk;simp only [List.mem_range] at hk;rw [if_pos hk]
theorem txT_size (m:Nat) (l:List UInt8):(txT m l).size<=m:=by
 simp only [txT,Zp6,List.length_take,List.length_drop];omega
theorem parse_pre (b:List UInt8):MayPre (Zen b):=by
 refine ⟨by simp [Zen],by simp [Zen],fun f hf=>?_⟩
 simp only [Zen,List.mem_map] at hf
 obtain ⟨k,_,rfl⟩:=hf
 have h1:=txT_size 8 (b.drop (34+38 * k))
 have h2:=txT_size 24 ((b.drop (34+38 * k)).drop 13)
 exact ⟨by show (txT 8 _).size<=_;omega,by show (txT 24 _).size<=_;omega⟩
theorem take_not {l:List ByteArray} (h:l.length ≠ 9 \/ (catB l).length ≠ 288):takeI l=none:=by
 cases ht:takeI l with
 | none=>rfl
 | some s =>
  obtain ⟨hm,rfl⟩:=Zh6.1 ht
  rcases h with h | h
  ·exact absurd (Ze7 hm) h
  ·rw [Zts hm,Zib hm] at h
   exact absurd rfl h
theorem take_len {l:List ByteArray} (h:l.length=9):takeI l=if putI (Zen (catB l))=l then some (Zen (catB l)) else none:=by
 unfold takeI
 have:l ≠ []:=by intro e;rw [e] at h;simp at h
 by_cases hp:putI (Zen (catB l))=l
 ·rw [if_pos ⟨this,hp⟩,if_pos hp]
 ·rw [if_neg fun x=>hp x.2,if_neg hp]
theorem ex_k (k:Nat) (i:Int) (h:i=(k:Int)) (p:Nat->Prop):(∃ z:Nat,i=(z:Int)/\p z) ↔ p k:=⟨fun ⟨z,e,hp⟩=>by rw [show k=z by omega];exact hp,fun hp=>⟨k,h,hp⟩⟩
theorem cutA:flT=flT.take 3++.block (Zao (nth flT 3)) (.loop (Zak (nth flT 3))) :: flT.drop 4:=by kernel_rfl
theorem cutB:flT.drop 4=(flT.drop 4).take 7++.block (Zao (nth flT 11)) (.loop (Zak (nth flT 11))) :: ((flT.drop 12).take 1++.block (Zao (nth flT 13)) (.loop (Zak (nth flT 13))) :: flT.drop 14):=by kernel_rfl
def RTi7 (ps qs:List PV):Prop:=∃ l:List ByteArray,l.length<=1000/\(∀ a ∈ l,a.size<=1000)/\ps=[pRow encS l]/\qs=ansT (takeI l)
theorem fTi7:∀ ps q1 q2,RTi7 ps q1->RTi7 ps q2->q1=q2:=by
 rintro ps q1 q2 ⟨l,_,_,rfl,rfl⟩ ⟨l',_,_,h,rfl⟩
 simp only [List.cons.injEq,and_true] at h
 rw [fil.pRow_inj encS_inj h]
theorem cat_take {l:List ByteArray} {i:Nat} (h:i < l.length):catB (l.take (i+1))=catB (l.take i)++lst l[i]:=by
 simp only [catB,List.take_succ_eq_append_getElem h,List.map_append,List.flatten_append,List.map_cons,List.map_nil,List.flatten_cons,List.flatten_nil,List.append_nil]
theorem Zxz:∀ (l:List ByteArray),(∀ a ∈ l,a.size<=1000)->(catB l).length<=1000 * l.length
 | [],_=>by simp [catB]
 | a :: l,h=>by
  have:=Zxz l fun b hb=>h b (by simp [hb])
  have:=h a (by simp)
  simp only [catB,List.map_cons,List.flatten_cons,List.length_append,Zp8,List.length_cons] at *
  omega
theorem ofL_add (x:List UInt8) (a:ByteArray):ofL x++a=ofL (x++lst a):=by
 apply Zvh
 rw [Zs3]
 simp [lst,ofL]

set_option maxHeartbeats 2000000 in
theorem toldTi7 (k:Nat):ToldF 24 (iti.ETi k) (spec RTi7):=by
 refine Zek FT _ (Zar Tryz.prog 24) Tryz.func24 (by kernel_rfl) shT0 (by kernel_rfl) ?_ ?_
 ·intro ps qs h
  obtain ⟨l,_,_,rfl,rfl⟩:=Zaj h
  exact Zbd rfl
 ·intro C ps qs hF h a w hsh
  obtain ⟨l,hl,hsz,rfl,rfl⟩:=Zaj h
  show wpL Tryz.prog flT _ a w
  rw [cutA]
  refine Zag Zad Zac (Zai tabT) tpre hsh ?_ (fun qs a1 w1 hq hx=>⟨fun _=>?_,fun h=>absurd rfl h⟩)
  ·simp [Base.ev,SX.ev,evs,Value.oneCell']
  simp [evs,SX.ev] at hq
  subst hq
  refine Zau (fun k a w=>∃ i:Nat,k=l.length - i/\i<=l.length/\Zah C shTA [pRow encS l,pS (ofL (catB (l.take i))),pI (i:Int),pI 0] a w) ?_ (n:=l.length) ⟨0,by omega,by omega,hx⟩
  rintro k a w ⟨i,rfl,hi,hx⟩
  rw [<- List.append_nil (flat _)]
  by_cases hlt:i < l.length
  ·have v4:IntKind.i64.wrap ((i:Int)+1)=(i:Int)+1:=wrapI _ (by omega) (by omega)
   obtain ⟨c0,ix⟩:Zb8 (pRow encS l) (pI (i:Int)) 1 0=some (pS l[i])/\IdxP (some (pRow encS l)) (some (pI (i:Int))) 1 1 :=
    ⟨by rw [Zbb encS l i .i64 1 0 rfl hlt,Zce encS l i 0 _ (List.getElem?_eq_getElem hlt) (by decide)];rfl,Zaq encS l i 1 1 .i64 rfl hlt (by decide)⟩
   have hc:ofL (catB (l.take i))++l[i]=ofL (catB (l.take (i+1))):=by rw [ofL_add,cat_take hlt]
   have hov:¬ ((9223372036854775807:Int) < ((ofL (catB (l.take i))).size:Int)+(l[i].size:Int)):=by
    have h1:=Zxz (l.take i) fun a ha=>hsz a (List.mem_of_mem_take ha)
    have h2:=hsz l[i] (List.getElem_mem hlt)
    rw [List.length_take] at h1
    rw [Zp6]
    omega
   generalize hz2:ofL (catB (l.take (i+1)))=z2 at *
   generalize ofL (catB (l.take i))=z1 at *
   generalize l[i]=y at *
   refine Zag Zad Zac (Zai tabT) tgo hx ?_ (fun qs a1 wd hq hx=>⟨fun _=>.inl ⟨rfl,l.length - (i+1),by omega,i+1,rfl,by omega,?_⟩,fun h=>absurd rfl h⟩)
   ·simp [-Zae,Zab,Zaa,Base.ev,SX.ev,evs,Value.oneCell',binPV,v4,c0,ix,hlt,Zaf,hc,hov]
   ·simp [evs,SX.ev,binPV,v4,c0,hc,hov] at hq
    subst hq
    rw [hz2]
    exact hx
  ·obtain rfl:i=l.length:=by omega
   refine Zag Zad Zac (Zai tabT) tx hx ?_ (fun qs a1 wd hq hx=>⟨nofun,fun _=>.inr (.inl ⟨rfl,?_⟩)⟩)
   ·simp [-Zae,Zab,Zaa,Base.ev,SX.ev,evs,Value.oneCell',binPV,Zaf]
   simp [evs,SX.ev] at hq
   subst hq
   have hcl:=Zxz l hsz
   obtain ⟨b,hb⟩:∃ b,b=catB l:=⟨_,rfl⟩
   rw [<- hb] at hx hcl
   have g1:FT 1 []=some [pI 9]:=Zal fHm ⟨rfl,rfl⟩
   have ro:ropPV .ofStr [pS (ofL b)]=some (pBy b):=Znt _
   have hos:(ofL b).size=b.length:=Zp6 b
   have rlb:=r_len b
   have w9:IntKind.i64.wrap 288=288:=by decide
   by_cases h9:¬ l.length=9
   ·have hn:¬ (l.length:Int)=9:=by omega
    rw [take_not (.inl h9)]
    rw [cutB]
    refine Zag Zad Zac (Zai tabT) tn1 hx ?_ (fun qs a1 wd hq hx=>⟨nofun,fun _=>⟨.inr rfl,shTn,_,[SX.lit 0 [],SX.lit 0 [],SX.var 1,SX.var 0],hx,by kernel_rfl,?_⟩⟩)
    ·simp [-Zae,Zab,Zaa,Base.ev,SX.ev,evs,Value.oneCell',hF,g1,pt1,binPV,Za6,Zaf,hn,hos]
     all_goals omega
    ·simp [evs,SX.ev] at hq
     subst hq
     rfl
   have h9:=Classical.not_not.1 h9
   by_cases h288:¬ b.length=288
   ·have hn:¬ (b.length:Int)=288:=by omega
    rw [take_not (.inr (by rw [<- hb];exact h288))]
    rw [cutB]
    refine Zag Zad Zac (Zai tabT) tn2 hx ?_ (fun qs a1 wd hq hx=>⟨nofun,fun _=>⟨.inr rfl,shTn,_,[SX.lit 0 [],SX.lit 0 [],SX.var 1,SX.var 0],hx,by kernel_rfl,?_⟩⟩)
    ·simp [-Zae,Zab,Zaa,Base.ev,SX.ev,evs,Value.oneCell',hF,g1,pt1,binPV,Za6,Zaf,h9,hn,hos,ro,rlb,w9]
     all_goals omega
    ·simp [evs,SX.ev] at hq
     subst hq
     rfl
   have h288:=Classical.not_not.1 h288
   rw [take_len h9,<- hb]
   have g4:FT 4 [pBy b,pI 4]=some [pI (num (b.take 4)),pB true]:=FT4 (n:=4) (by omega) (by omega) (by omega) (by omega)
   have s4:subPV (pBy b) (pI 4) (pI 288) 1=some (pBy (b.drop 4)):=Zv3 (n:=288) 4 (by omega) h288
   have rm4:ropPV .min2 [pI 4,pI 4]=some (pI 4):=rfl
   have pF:=Zwp
   have pM:=Zwo
   have eM:List.replicate 3 m0=stM b 0:=rfl
   have eF:List.replicate 6 f00=stF b 0:=rfl
   rw [eM] at pM
   rw [eF] at pF
   have rM:=Zaf encM (stM b 0)
   have rF:=Zaf encF (stF b 0)
   rw [Zp0] at rM
   rw [Zp1] at rF
   rw [h288] at rlb
   rw [cutB]
   obtain ⟨x0,hx0⟩:∃ x,x=b.drop 4:=⟨_,rfl⟩
   rw [<- hx0] at s4
   generalize hM0:stM b 0=M0 at *
   generalize hF0:stF b 0=F0 at *
   refine Zag Zad Zac (Zai tabT) tmd hx ?_ (fun qs a1 wd hq hx=>⟨fun _=>?_,fun h=>absurd rfl h⟩)
   ·simp [-Zae,Zab,Zaa,Base.ev,SX.ev,evs,Value.oneCell',hF,g1,g4,pt1,pt4,binPV,Za6,Zaf,h9,h288,hos,ro,rlb,w9,s4,rm4,pF,pM,rM,rF,ex_k 288 288 rfl,ex_k 4 4 rfl]
    all_goals omega
   simp [evs,SX.ev,hF,ro,rlb,rm4,s4,g4,pF,pM] at hq
   subst hq
   refine Zau (fun k a w=>∃ i:Nat,k=3 - i/\i<=3/\Zah C shTM [pRow encS l,pBy (b.drop (4+10 * i)),pI (i:Int),pI 0,pI (num (b.take 4)),pRow encF (stF b 0),pRow encM (stM b i)] a w) ?_ (n:=3) ⟨0,by omega,by omega,by rw [hM0,hF0,show 4+10 * 0=4 from rfl,<- hx0];exact hx⟩
   clear hx ro hos rlb s4 g4 pF pM rM rF hlt
   rintro k a w ⟨i,rfl,hi,hx⟩
   rw [<- List.append_nil (flat _)]
   have rM:=Zaf encM (stM b i)
   rw [Zp0] at rM
   obtain ⟨X,hX⟩:∃ X,X=b.drop (4+10 * i):=⟨_,rfl⟩
   obtain ⟨T,hT⟩:∃ T:Nat,T=284 - 10 * i:=⟨_,rfl⟩
   have hXl:X.length=T:=by rw [hX,List.length_drop];omega
   rw [<- hX] at hx
   by_cases hlt:i < 3
   ·have hi3:(i:Int) < 3:=by omega
    have v4:IntKind.i64.wrap ((i:Int)+1)=(i:Int)+1:=wrapI _ (by omega) (by omega)
    have rl:=r_len X
    rw [hXl] at rl
    have e1:FT 4 [pBy X,pI 4]=some [pI (num (X.take 4)),pB true]:=FT4 (n:=4) (by omega) (by omega) (by omega) (by omega)
    have s6:subPV (pBy X) (pI 6) (pI (T:Int)) 1=some (pBy (X.drop 6)):=Zv3 6 (by omega) hXl
    have e2:FT 4 [pBy (X.drop 6),pI 4]=some [pI (num ((X.drop 6).take 4)),pB true]:=FT4 (n:=4) (by simp;omega) (by omega) (by omega) (by simp;omega)
    have s10:subPV (pBy X) (pI 10) (pI (T:Int)) 1=some (pBy (X.drop 10)):=Zv3 10 (by omega) hXl
    have hX10:X.drop 10=b.drop (4+10 * (i+1)):=by rw [hX,List.drop_drop];congr 1
    have rm6:ropPV .min2 [pI 6,pI 6]=some (pI 6):=rfl
    have rm10:ropPV .min2 [pI 10,pI 10]=some (pI 10):=rfl
    have cy4:Zb8 (pBy X) (pI 4) 1 0=some (pU (X[4].toNat:Int)):=cellY X 4 (by omega)
    have cy5:Zb8 (pBy X) (pI 5) 1 0=some (pU (X[5].toNat:Int)):=cellY X 5 (by omega)
    have ix4:IdxP (some (pBy X)) (some (pI 4)) 1 1:=idxP_by X 4 1 .i64 (by omega) (by omega)
    have ix5:IdxP (some (pBy X)) (some (pI 5)) 1 1:=idxP_by X 5 1 .i64 (by omega) (by omega)
    have wu4:IntKind.i64.wrap (X[4].toNat:Int)=num ((X.drop 4).take 1):=by rw [num_one (by omega)];exact wrapI _ (by omega) (by have:=X[4].toNat_lt;omega)
    have wu5:IntKind.i64.wrap (X[5].toNat:Int)=num ((X.drop 5).take 1):=by rw [num_one (by omega)];exact wrapI _ (by omega) (by have:=X[5].toNat_lt;omega)
    have him:i < (stM b i).length:=by rw [Zp0];omega
    obtain ⟨p0,p1,p2,p3⟩:=updM (stM b i) i him (num (X.take 4)) (num ((X.drop 4).take 1)) (num ((X.drop 5).take 1)) (num ((X.drop 6).take 4))
    have hnx:=stM_next (b:=b) hlt
    rw [<- hX] at hnx
    have hmk:mkT X=(num (X.take 4),num ((X.drop 4).take 1),num ((X.drop 5).take 1),num ((X.drop 6).take 4)):=rfl
    rw [hmk] at hnx
    rw [hnx] at p3
    have i0:=Zaq encM (stM b i) i 4 1 .i64 rfl him (by decide)
    have i1:=Zaq encM ((stM b i).set i (num (X.take 4),(stM b i)[i].2)) i 4 2 .i64 rfl (by simpa using him) (by decide)
    have i2:=Zaq encM ((stM b i).set i (num (X.take 4),num ((X.drop 4).take 1),(stM b i)[i].2.2)) i 4 3 .i64 rfl (by simpa using him) (by decide)
    have i3:=Zaq encM ((stM b i).set i (num (X.take 4),num ((X.drop 4).take 1),num ((X.drop 5).take 1),(stM b i)[i].2.2.2)) i 4 4 .i64 rfl (by simpa using him) (by decide)
    have rM4:=Zaf encM (stM b (i+1))
    rw [Zp0] at rM4
    clear hnx hmk
    generalize (stM b i).set i (num (X.take 4),num ((X.drop 4).take 1),num ((X.drop 5).take 1),(stM b i)[i].2.2.2)=M3 at *
    generalize (stM b i).set i (num (X.take 4),num ((X.drop 4).take 1),(stM b i)[i].2.2)=M2 at *
    generalize (stM b i).set i (num (X.take 4),(stM b i)[i].2)=M1 at *
    generalize hM4:stM b (i+1)=M4 at *
    generalize stM b i=M0 at *
    generalize num (X.take 4)=n1 at *
    generalize num ((X.drop 4).take 1)=n2 at *
    generalize num ((X.drop 5).take 1)=n3 at *
    generalize num ((X.drop 6).take 4)=n4 at *
    generalize X[4].toNat=u4 at *
    generalize X[5].toNat=u5 at *
    refine Zag Zad Zac (Zai tabT) mo hx ?_ (fun qs a1 wd hq hx=>⟨fun _=>.inl ⟨rfl,3 - (i+1),by omega,i+1,rfl,by omega,?_⟩,fun h=>absurd rfl h⟩)
    ·simp [-Zae,Zab,Zaa,Base.ev,SX.ev,evs,Value.oneCell',hF,pt4,binPV,Zdn,v4,hi3,rM,rl,e1,e2,s6,s10,rm6,rm10,cy4,cy5,ix4,ix5,wu4,wu5,p0,p1,p2,p3,i0,i1,i2,i3,rM4,Zaf,ex_k 6 6 rfl,ex_k 10 10 rfl]
     all_goals omega
    ·simp [evs,SX.ev,hF,binPV,Zdn,v4,rl,e1,e2,s6,s10,rm6,rm10,cy4,cy5,wu4,wu5,p0,p1,p2,p3] at hq
     subst hq
     rw [hM4,<- hX10]
     exact hx
   ·obtain rfl:i=3:=by omega
    have hi3:¬ ((3:Nat):Int) < 3:=by omega
    refine Zag Zad Zac (Zai tabT) mx hx ?_ (fun qs a1 wd hq hx=>⟨nofun,fun _=>.inr (.inl ⟨rfl,?_⟩)⟩)
    ·simp [-Zae,Zab,Zaa,Base.ev,SX.ev,evs,Value.oneCell',binPV,rM,Zaf]
    simp [evs,SX.ev] at hq
    subst hq
    refine Zag Zad Zac (Zai tabT) md hx ?_ (fun qs a1 wd hq hx=>⟨fun _=>?_,fun h=>absurd rfl h⟩)
    ·simp [-Zae,Zab,Zaa,Base.ev,SX.ev,evs,Value.oneCell',rM,Zaf]
    simp [evs,SX.ev] at hq
    subst hq
    refine Zau (fun k a w=>∃ i:Nat,k=6 - i/\i<=6/\Zah C shTF [pRow encS l,pBy (b.drop (34+38 * i)),pI (i:Int),pI 0,pI (num (b.take 4)),pRow encF (stF b i),pRow encM (stM b 3)] a w) ?_ (n:=6) ⟨0,by omega,by omega,by rw [hX] at hx;exact hx⟩
    clear hx hlt hi3 hi
    rintro k a w ⟨i,rfl,hi,hx⟩
    rw [<- List.append_nil (flat _)]
    have rF:=Zaf encF (stF b i)
    rw [Zp1] at rF
    obtain ⟨X,hX⟩:∃ X,X=b.drop (34+38 * i):=⟨_,rfl⟩
    obtain ⟨T,hT⟩:∃ T:Nat,T=254 - 38 * i:=⟨_,rfl⟩
    have hXl:X.length=T:=by rw [hX,List.length_drop];omega
    rw [<- hX] at hx
    by_cases hlt:i < 6
    ·have hi6:(i:Int) < 6:=by omega
     have v4:IntKind.i64.wrap ((i:Int)+1)=(i:Int)+1:=wrapI _ (by omega) (by omega)
     have rl:=r_len X
     rw [hXl] at rl
     have g0:X.getD 0 0=X[0]:=by rw [List.getD_eq_getElem?_getD,List.getElem?_eq_getElem (show 0 < X.length by omega)];rfl
     have g13:(X.drop 13).getD 0 0=X[13]:=by rw [List.getD_eq_getElem?_getD,List.getElem?_drop,List.getElem?_eq_getElem (show 13+0 < X.length by omega)];rfl
     obtain ⟨d1,hd1⟩:∃ d,d=min X[0].toNat 8:=⟨_,rfl⟩
     obtain ⟨d2,hd2⟩:∃ d,d=min X[13].toNat 24:=⟨_,rfl⟩
     have t1:txT 8 X=ofL ((X.drop 1).take d1):=by rw [txT,g0,hd1]
     have t2:txT 24 (X.drop 13)=ofL ((X.drop 14).take d2):=by rw [txT,g13,hd2,List.drop_drop]
     have e2:FT 4 [pBy (X.drop 9),pI 4]=some [pI (num ((X.drop 9).take 4)),pB true]:=FT4 (n:=4) (by simp;omega) (by omega) (by omega) (by simp;omega)
     have s9:subPV (pBy X) (pI 9) (pI (T:Int)) 1=some (pBy (X.drop 9)):=Zv3 9 (by omega) hXl
     have s38:subPV (pBy X) (pI 38) (pI (T:Int)) 1=some (pBy (X.drop 38)):=Zv3 38 (by omega) hXl
     have hX38:X.drop 38=b.drop (34+38 * (i+1)):=by rw [hX,List.drop_drop];congr 1
     have rm1:ropPV .min2 [pI 1,pI 1]=some (pI 1):=rfl
     have rm9:ropPV .min2 [pI 9,pI 9]=some (pI 9):=rfl
     have rm14:ropPV .min2 [pI 14,pI 14]=some (pI 14):=rfl
     have rm38:ropPV .min2 [pI 38,pI 38]=some (pI 38):=rfl
     have cy0:Zb8 (pBy X) (pI 0) 1 0=some (pU (X[0].toNat:Int)):=cellY X 0 (by omega)
     have cy13:Zb8 (pBy X) (pI 13) 1 0=some (pU (X[13].toNat:Int)):=cellY X 13 (by omega)
     have ix0:IdxP (some (pBy X)) (some (pI 0)) 1 1:=idxP_by X 0 1 .i64 (by omega) (by omega)
     have ix13:IdxP (some (pBy X)) (some (pI 13)) 1 1:=idxP_by X 13 1 .i64 (by omega) (by omega)
     have wu0:IntKind.i64.wrap (X[0].toNat:Int)=(X[0].toNat:Int):=wrapI _ (by omega) (by have:=X[0].toNat_lt;omega)
     have wu13:IntKind.i64.wrap (X[13].toNat:Int)=(X[13].toNat:Int):=wrapI _ (by omega) (by have:=X[13].toNat_lt;omega)
     have q1:ropPV .min2 [pI (X[0].toNat:Int),pI 8]=some (pI (d1:Int)):=by simp only [ropPV,Option.some.injEq,PV.v.injEq,Value.int.injEq,true_and];omega
     have q2:ropPV .min2 [pI (X[13].toNat:Int),pI 24]=some (pI (d2:Int)):=by simp only [ropPV,Option.some.injEq,PV.v.injEq,Value.int.injEq,true_and];omega
     obtain ⟨f1,hf1⟩:∃ f:Nat,f=1+d1:=⟨_,rfl⟩
     obtain ⟨f2,hf2⟩:∃ f:Nat,f=14+d2:=⟨_,rfl⟩
     have ad1:IntKind.i64.wrap (1+(d1:Int))=(f1:Int):=by rw [wrapI _ (by omega) (by omega)];omega
     have ad2:IntKind.i64.wrap (14+(d2:Int))=(f2:Int):=by rw [wrapI _ (by omega) (by omega)];omega
     have m1:subPV (pBy X) (pI 1) (pI (f1:Int)) 1=some (pBy ((X.drop 1).take d1)):=by rw [hf1];exact r_mid (a:=1) (c:=d1) (by omega)
     have m2:subPV (pBy X) (pI 14) (pI (f2:Int)) 1=some (pBy ((X.drop 14).take d2)):=by rw [hf2];exact r_mid (a:=14) (c:=d2) (by omega)
     have ts1:ropPV .toStr [pBy ((X.drop 1).take d1)]=some (pS (txT 8 X)):=by rw [t1];exact Zrg _
     have ts2:ropPV .toStr [pBy ((X.drop 14).take d2)]=some (pS (txT 24 (X.drop 13))):=by rw [t2];exact Zrg _
     have him:i < (stF b i).length:=by rw [Zp1];omega
     obtain ⟨p0,p1,p2⟩:=updF (stF b i) i him (txT 8 X) (txT 24 (X.drop 13)) (num ((X.drop 9).take 4))
     have hnx:=stF_next (b:=b) hlt
     rw [<- hX] at hnx
     have hmk:ima.flT X=(txT 8 X,num ((X.drop 9).take 4),txT 24 (X.drop 13)):=rfl
     rw [hmk] at hnx
     rw [hnx] at p2
     have i0:=Zaq encF (stF b i) i 3 1 .i64 rfl him (by decide)
     have i1:=Zaq encF ((stF b i).set i (txT 8 X,(stF b i)[i].2)) i 3 2 .i64 rfl (by simpa using him) (by decide)
     have i2:=Zaq encF ((stF b i).set i (txT 8 X,num ((X.drop 9).take 4),(stF b i)[i].2.2)) i 3 3 .i64 rfl (by simpa using him) (by decide)
     have rF4:=Zaf encF (stF b (i+1))
     rw [Zp1] at rF4
     clear hnx hmk t1 t2 g0 g13 hd1 hd2
     have hd18:d1<=8:=by
      simp only [ropPV,Option.some.injEq,PV.v.injEq,Value.int.injEq,true_and] at q1;omega
     have hd28:d2<=24:=by
      simp only [ropPV,Option.some.injEq,PV.v.injEq,Value.int.injEq,true_and] at q2;omega
     generalize (stF b i).set i (txT 8 X,num ((X.drop 9).take 4),(stF b i)[i].2.2)=M2 at *
     generalize (stF b i).set i (txT 8 X,(stF b i)[i].2)=M1 at *
     generalize hM4:stF b (i+1)=M4 at *
     generalize stF b i=M0 at *
     generalize num ((X.drop 9).take 4)=n1 at *
     generalize txT 8 X=x1 at *
     generalize txT 24 (X.drop 13)=x2 at *
     generalize X[0].toNat=u0 at *
     generalize X[13].toNat=u13 at *
     generalize (X.drop 1).take d1=y1 at *
     generalize (X.drop 14).take d2=y2 at *
     refine Zag Zad Zac (Zai tabT) fo hx ?_ (fun qs a1 wd hq hx=>⟨fun _=>.inl ⟨rfl,6 - (i+1),by omega,i+1,rfl,by omega,?_⟩,fun h=>absurd rfl h⟩)
     ·simp [-Zae,Zab,Zaa,Base.ev,SX.ev,evs,Value.oneCell',hF,pt4,binPV,Zdn,v4,hi6,rF,rl,e2,s9,s38,rm1,rm9,rm14,rm38,cy0,cy13,ix0,ix13,wu0,wu13,q1,q2,ad1,ad2,m1,m2,ts1,ts2,p0,p1,p2,i0,i1,i2,rF4,Zaf,ex_k 9 9 rfl,ex_k 14 14 rfl,ex_k 38 38 rfl]
      all_goals omega
     ·simp [evs,SX.ev,hF,binPV,Zdn,v4,rl,e2,s9,s38,rm1,rm9,rm14,rm38,cy0,cy13,wu0,wu13,q1,q2,ad1,ad2,m1,m2,ts1,ts2,p0,p1,p2] at hq
      subst hq
      rw [hM4,<- hX38]
      exact hx
    ·obtain rfl:i=6:=by omega
     refine Zag Zad Zac (Zai tabT) fx hx ?_ (fun qs a1 wd hq hx=>⟨nofun,fun _=>.inr (.inl ⟨rfl,?_⟩)⟩)
     ·simp [-Zae,Zab,Zaa,Base.ev,SX.ev,evs,Value.oneCell',binPV,rF,Zaf]
     simp [evs,SX.ev] at hq
     subst hq
     have hp:=st_parse b
     have g2:FT 2 [pRow encF (stF b 6),pRow encM (stM b 3),pI (num (b.take 4))]=some [pRow encS (putI (Zen b))]:=Zal fPuI ⟨Zen b,parse_pre b,by rw [<- hp],rfl⟩
     have hpl:(putI (Zen b)).length<=1000000:=by
      unfold putI
      cases mayS (Zen b) <;> simp
     have g3:FT 3 [pRow encS (putI (Zen b)),pRow encS l]=some [pB (sameL (putI (Zen b)) l)]:=Zal fSq ⟨putI (Zen b),l,by omega,by omega,rfl,rfl⟩
     rw [<- List.append_nil (flT.drop 14)]
     by_cases he:putI (Zen b)=l
     ·rw [if_pos he]
      rw [Zls he] at g3
      generalize putI (Zen b)=z at *
      refine Zag Zad Zac (Zai tabT) ey hx ?_ (fun qs a1 wd hq hx=>⟨nofun,fun _=>⟨.inr rfl,shTy,_,[SX.var 2,SX.var 3,SX.var 1,SX.var 0],hx,by kernel_rfl,?_⟩⟩)
      ·simp [-Zae,Zab,Zaa,Base.ev,SX.ev,evs,Value.oneCell',hF,g2,g3,pt2,pt3,Zaf]
      ·simp [evs,SX.ev,hF] at hq
       subst hq
       rw [<- hp]
       rfl
     ·rw [if_neg he]
      rw [Znr he] at g3
      generalize putI (Zen b)=z at *
      refine Zag Zad Zac (Zai tabT) en hx ?_ (fun qs a1 wd hq hx=>⟨nofun,fun _=>⟨.inr rfl,shTn,_,[SX.lit 0 [],SX.lit 0 [],SX.var 1,SX.var 0],hx,by kernel_rfl,?_⟩⟩)
      ·simp [-Zae,Zab,Zaa,Base.ev,SX.ev,evs,Value.oneCell',hF,g2,g3,pt2,pt3,Zaf]
      ·simp [evs,SX.ev,hF] at hq
       subst hq
       rfl

end Go.Proofs.YtefkakjegdjojaaGreat.itk
