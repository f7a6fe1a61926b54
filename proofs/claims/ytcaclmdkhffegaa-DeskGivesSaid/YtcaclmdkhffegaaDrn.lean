/- Package desk, told: first, Run. -/
import Derived.Test.YtcaclmdkhffegaaDcl
namespace Go.Proofs.Ytcaclmdkhffegaa.drn
open Go Go.RowKit eng SX Fact fil lem lea dix
open lec (encN lenN)
open dkm (Desk clashW freeD Zck lendsD Zb5 loopD runD DI okW)
open ddk (EMw Zqw RMw fMw EPd toldPd RPd fPd EGd toldGd RGd fGd inDk Zel pDk okIn)
open dcl (ECd toldCd RCd fCd dbox wbox)
set_option linter.unusedVariables false
set_option linter.unusedSimpArgs false
set_option maxRecDepth 1000000
def hA (_:FuncId) (o:Oper):Option Hint:=match o.op with | .call { callee:=.builtin .append,.. }=>some .own | _=>none
def EFs (k:Nat):FnE:={ k:=k,ins:=[some 2,none],leaks:=[false,false,false],outs:=[some 4],kinds:=[.num,.num,.num,.num] }
def ERn (k:Nat):FnE:={ k:=k,ins:=[some 2,none],leaks:=[false,false,false],outs:=[some 2,none,none],kinds:=[.row,.row,.row,.row] }
def tabMs (f:FuncId):Option FnE:=cond (Nat.beq f 52) (some (EMw 1)) none
noncomputable def flS:=flat (Za1 Try.prog 32)
noncomputable def lpS:=flat (Zah (nth flS 2))
def shS:Shape:=⟨[(0,.agg 2),(1,.leaf)],[],[some false,some false,none],21,32⟩
def shSl:Shape:=⟨[(1,.leaf),(2,.ptr 0 0 0 0),(4,.ptr 1 0 0 0),(8,.leaf),(9,.leaf),(10,.leaf)],[dbox,wbox],[none,some false,none,none,some false,some false,none,none,none,none],21,32⟩
def shSR:Shape:=⟨[(4,.ptr 0 0 0 0)],[wbox],[none,none,none,none],21,32⟩
def shSP:Shape:=⟨[],[],[],21,32⟩
def pvS:Value:=(.iface 9 (.string { data:={ toList:=[UInt8.ofNat 100,UInt8.ofNat 101,UInt8.ofNat 115,UInt8.ofNat 107,UInt8.ofNat 58,UInt8.ofNat 32,UInt8.ofNat 110,UInt8.ofNat 111,UInt8.ofNat 98,UInt8.ofNat 111,UInt8.ofNat 100,UInt8.ofNat 121,UInt8.ofNat 32,UInt8.ofNat 119,UInt8.ofNat 104,UInt8.ofNat 111,UInt8.ofNat 32,UInt8.ofNat 119,UInt8.ofNat 97,UInt8.ofNat 105,UInt8.ofNat 116,UInt8.ofNat 115,UInt8.ofNat 32,UInt8.ofNat 109,UInt8.ofNat 97,UInt8.ofNat 121,UInt8.ofNat 32,UInt8.ofNat 98,UInt8.ofNat 101,UInt8.ofNat 32,UInt8.ofNat 108,UInt8.ofNat 101,UInt8.ofNat 116,UInt8.ofNat 32,UInt8.ofNat 104,UInt8.ofNat 97,UInt8.ofNat 118,UInt8.ofNat 101,UInt8.ofNat 32,UInt8.ofNat 105,UInt8.ofNat 116] } }))
def tabXs (f:FuncId):Option (FnE × List Value):=cond (Nat.beq f 32) (some (EFs 2,[pvS])) none
def tabR (f:FuncId):Option FnE:=cond (Nat.beq f 29) (some (EPd 3)) (cond (Nat.beq f 34) (some (EGd 4)) (cond (Nat.beq f 33) (some (ECd 5)) none))
def orcR:Orc:=orcOr (orcX tabXs) (orcFn tabR)
noncomputable def flR:=flat (Za1 Try.prog 14)
noncomputable def lpR:=flat (Zah (nth flR 2))
def nbox:BoxT:=⟨3,0,false,[.leaf],none,false⟩
def bwait (k:Nat):BoxT:=⟨25,4,true,[],some k,false⟩
def shR:Shape:=⟨[(0,.agg 2),(1,.leaf)],[],[some false,some false,none],32,14⟩
def shA:Shape:=⟨[(3,.ptr 0 0 0 0),(4,.ptr 1 0 0 0),(5,.nil)],[nbox,dbox],[none,some true,some true],32,14⟩
def shB:Shape:=⟨[(3,.ptr 0 0 0 0),(4,.ptr 1 0 0 0),(5,.own 2 3 4)],[nbox,dbox,bwait 3],[none,some true,some true],32,14⟩
def shEA:Shape:=⟨[(4,.ptr 0 0 0 0),(5,.nil),(6,.leaf)],[dbox],[some true,some true,some true],32,14⟩
def shEB:Shape:=⟨[(4,.ptr 0 0 0 0),(5,.own 1 3 4),(6,.leaf)],[dbox,bwait 3],[some true,some true,some true],32,14⟩
@[simp] def zDrn1:List SX:=[.var 1,.var 2,.var 0]
@[simp] def zDrn2:SX:=.lit 1 [.fn 2 zDrn1 1,.fn 2 zDrn1 2,.fn 2 zDrn1 3,.fn 2 zDrn1 4]
@[simp] def zDrn3:List SX:=[.var 4,.var 5,.var 0,.cell (.var 1) (.var 3) 4 0,.cell (.var 1) (.var 3) 4 1,.cell (.var 1) (.var 3) 4 2,.cell (.var 1) (.var 3) 4 3]
@[simp] def zDrn4:List SX:=[.var 1,.var 2,.var 0,.fn 2 zDrn1 1,.fn 2 zDrn1 2,.fn 2 zDrn1 3,.fn 2 zDrn1 4]
@[simp] def zDrn5:SX:=.con (.int .i64 0)
@[simp] def zDrn6:SX:=.bin .lss (.var 3) (.var 2)
@[simp] def zDrn7:Fact:=Fact.fx 32 (EFs 2) ([pvS]) zDrn1
@[simp] def zDrn8:SX:=.bin .add (.var 3) (.con (.int .i64 1))
@[simp] def zDrn9:SX:=.cell (.var 1) (.var 3) 4 0
@[simp] def Zpc:SX:=.cell (.var 1) (.var 3) 4 1
@[simp] def Zpb:SX:=.cell (.var 1) (.var 3) 4 2
@[simp] def Zpa:SX:=.cell (.var 1) (.var 3) 4 3
@[simp] def Zo9:SX:=rop ROp.cat [.var 3,zDrn2]
@[simp] def Zo8:Fact:=.idx (.var 1) (.var 3) 4 4
theorem preS:segTo Try.prog (orcFn tabMs) 10000 (flS.take 2) shS [] shSl [(2,0),(3,0)]=some (.normal,[.ok (.len (.var 1)),.ok (.var 2),.ok (.len (.var 1)),.ok zDrn5,.ok zDrn5,.ok zDrn5,.ok zDrn5,.ok zDrn5],[.var 2,.var 1,.len (.var 1),zDrn5,.var 0,.var 1,zDrn5,zDrn5,zDrn5,zDrn5]):=by kernel_rfl
theorem exS:segTo Try.prog (orcFn tabMs) 10000 lpS shSl [0] shSP []=some (.exit 0,[.ok zDrn6,.is zDrn6 (.bool false)],[]):=by kernel_rfl
theorem on0S:segTo Try.prog (orcFn tabMs) 10000 lpS shSl [1,0] shSl [(0,0),(1,0)]=some (.normal,[.ok zDrn6,.is zDrn6 (.bool true),Zo8,Zo8,.ok zDrn9,.ok Zpc,.ok Zpb,.ok Zpa,.fn 52 (EMw 1) zDrn3,.is (.fn 1 zDrn3 0) (.bool false),.ok zDrn8,.ok (.var 0),.ok (.var 2),.ok zDrn8,.ok (.var 6),.ok (.var 7),.ok (.var 8),.ok (.var 9)],[.var 0,.var 1,.var 2,zDrn8,.var 4,.var 5,.var 6,.var 7,.var 8,.var 9]):=by kernel_rfl
theorem hitS:segTo Try.prog (orcFn tabMs) 10000 lpS shSl [1,1] shSR [(1,0)]=some (.ret,[.ok zDrn6,.is zDrn6 (.bool true),Zo8,Zo8,.ok zDrn9,.ok Zpc,.ok Zpb,.ok Zpa,.fn 52 (EMw 1) zDrn3,.is (.fn 1 zDrn3 0) (.bool true),.ok zDrn9,.ok Zpc,.ok Zpb,.ok Zpa],[zDrn9,Zpc,Zpb,Zpa]):=by kernel_rfl
theorem postS:segTo Try.prog (orcFn tabMs) 10000 (flS.drop 3) shSP [] shSP []=some (.panic (.iface 9 (.string { data:={ toList:=[UInt8.ofNat 100,UInt8.ofNat 101,UInt8.ofNat 115,UInt8.ofNat 107,UInt8.ofNat 58,UInt8.ofNat 32,UInt8.ofNat 110,UInt8.ofNat 111,UInt8.ofNat 98,UInt8.ofNat 111,UInt8.ofNat 100,UInt8.ofNat 121,UInt8.ofNat 32,UInt8.ofNat 119,UInt8.ofNat 104,UInt8.ofNat 111,UInt8.ofNat 32,UInt8.ofNat 119,UInt8.ofNat 97,UInt8.ofNat 105,UInt8.ofNat 116,UInt8.ofNat 115,UInt8.ofNat 32,UInt8.ofNat 109,UInt8.ofNat 97,UInt8.ofNat 121,UInt8.ofNat 32,UInt8.ofNat 98,UInt8.ofNat 101,UInt8.ofNat 32,UInt8.ofNat 108,UInt8.ofNat 101,UInt8.ofNat 116,UInt8.ofNat 32,UInt8.ofNat 104,UInt8.ofNat 97,UInt8.ofNat 118,UInt8.ofNat 101,UInt8.ofNat 32,UInt8.ofNat 105,UInt8.ofNat 116] } })),[],[]):=by kernel_rfl
theorem preR:segTo Try.prog orcR 10000 (flR.take 2) shR [] shA [(3,0),(4,0)] hA=some (.normal,[.fn 29 (EPd 3) [.var 0,.var 1,.var 2],.ok (.var 2)],[.var 2,.fn 3 [.var 0,.var 1,.var 2] 0,.fn 3 [.var 0,.var 1,.var 2] 1]):=by kernel_rfl
theorem exA:segTo Try.prog orcR 10000 lpR shA [1] shEA [(1,0)] hA=some (.ret,[zDrn7,.is (.fn 2 zDrn1 0) (.int .i64 1),.fn 33 (ECd 5) zDrn1],[.fn 5 zDrn1 0,.var 1,.var 2]):=by kernel_rfl
theorem exB:segTo Try.prog orcR 10000 lpR shB [1] shEB [(1,0),(2,0)] hA=some (.ret,[zDrn7,.is (.fn 2 zDrn1 0) (.int .i64 1),.fn 33 (ECd 5) zDrn1,same (.len (.var 3)) (.len (.var 3))],[.fn 5 zDrn1 0,.var 1,.var 2,.var 3]):=by kernel_rfl
theorem goA:segTo Try.prog orcR 10000 lpR shA [0] shB [(0,0),(1,0),(10,0)] hA=some (.normal,[zDrn7,.is (.fn 2 zDrn1 0) (.int .i64 0),.ok (.fn 2 zDrn1 1),.ok (.fn 2 zDrn1 2),.ok (.fn 2 zDrn1 3),.ok (.fn 2 zDrn1 4),.fn 34 (EGd 4) zDrn4,rng zDrn5 (.len zDrn2),upto (.len zDrn2) 4294967296,.ok (.var 0),same (.len zDrn2) (.len zDrn2)],[.var 0,.fn 4 zDrn4 0,.fn 4 zDrn4 1,zDrn2]):=by kernel_rfl
theorem goB:segTo Try.prog orcR 10000 lpR shB [0] shB [(0,0),(1,0),(2,1)] hA=some (.normal,[zDrn7,.is (.fn 2 zDrn1 0) (.int .i64 0),.ok (.fn 2 zDrn1 1),.ok (.fn 2 zDrn1 2),.ok (.fn 2 zDrn1 3),.ok (.fn 2 zDrn1 4),.fn 34 (EGd 4) zDrn4,same (.len (.var 3)) (.len (.var 3)),upto (.len Zo9) 4294967296,.ok (.var 0),same (.len Zo9) (.len Zo9)],[.var 0,.fn 4 zDrn4 0,.fn 4 zDrn4 1,Zo9]):=by kernel_rfl
@[simp] theorem kFs (k:Nat):(EFs k).k=k:=rfl
@[simp] theorem kRn (k:Nat):(ERn k).k=k:=rfl
theorem Zkg:OrcOk Try.prog orcR:=Zgh (Zkf _) (Zae _)
def Zgy (d:Desk) (t:Int):List PV:=match d.2.find? (freeD t d) with | some x=>pI 0 :: p4 x | none=>[pI (0+1:Nat)]
def RFs (ps qs:List PV):Prop:=∃ (d:Desk) (t:Int),okIn d t/\ps=[pRow encL d.1,pRow encL d.2,pI t]/\qs=Zgy d t
theorem in3_inj {d d':Desk} {t t':Int} (h:[pRow encL d.1,pRow encL d.2,pI t]=[pRow encL d'.1,pRow encL d'.2,pI t']):d=d'/\t=t':=by
 obtain ⟨a,b⟩:=d
 obtain ⟨a',b'⟩:=d'
 simp only [List.cons.injEq,PV.v.injEq,Value.int.injEq,true_and,and_true] at h
 obtain ⟨h1,h2,rfl⟩:=h
 obtain rfl:=fil.pRow_inj Zar h1
 obtain rfl:=fil.pRow_inj Zar h2
 exact ⟨rfl,rfl⟩
theorem fFs:∀ ps q1 q2,RFs ps q1->RFs ps q2->q1=q2:=by
 rintro ps q1 q2 ⟨d,t,_,rfl,rfl⟩ ⟨d',t',_,h,rfl⟩
 obtain ⟨rfl,rfl⟩:=in3_inj h
 rfl
noncomputable def FM:Fns:=fun k=>match k with | 1=>spec RMw | _=>fun _=>none
theorem m1:ToldF 52 (EMw 1) (FM 1):=Zqw 1
theorem FM1 {d:Desk} {t:Int} (w:LeM) (h:okIn d t):FM 1 (inDk d t w)=some [pB (freeD t d w)]:=Zam fMw ⟨d,t,w,h,rfl,rfl⟩
theorem find_hitS {p:LeM->Bool} {l:List LeM} {i:Nat} (h:i < l.length) (hp:p l[i]=true) (hb:∀ j (hj:j < l.length),j < i->p l[j]=false):l.find? p=some l[i]:=by
 rw [List.find?_eq_some_iff_getElem]
 exact ⟨hp,i,h,rfl,fun j hj=>by simp [hb j (by omega) hj]⟩
theorem find_missS {p:LeM->Bool} {l:List LeM} (hb:∀ j (hj:j < l.length),p l[j]=false):l.find? p=none:=by
 rw [List.find?_eq_none]
 intro x hx
 obtain ⟨j,hj,rfl⟩:=List.getElem_of_mem hx
 simp [hb j hj]
theorem cutS:flS=flS.take 2++.block (Zaf (nth flS 2)) (.loop (Zah (nth flS 2))) :: flS.drop 3:=by kernel_rfl
set_option maxHeartbeats 1000000 in
theorem toldFs (k:Nat):ToldX 32 (EFs k) [pvS] (spec RFs):=by
 refine Zmb FM _ (Za1 Try.prog 32) Try.func32 (by kernel_rfl) shS (by kernel_rfl) ?_ ?_
 ·intro ps qs h
  obtain ⟨d,t,_,rfl,rfl⟩:=Zal h
  exact Zb3 rfl
 ·intro C ps qs hF h a w hsh
  obtain ⟨d,t,hok,rfl,rfl⟩:=Zal h
  have hl2:=hok.2.1
  show wpL Try.prog flS _ a w
  rw [cutS]
  refine Zad names_ok mixed_ok (Zae _) preS hsh ?_ ?_
  ·simp [Base.ev,SX.ev,evs,Value.oneCell',Zac]
  ·intro qs a1 w1 hq h1
   refine ⟨fun _=>?_,fun h=>absurd rfl h⟩
   simp [evs,SX.ev,Zac] at hq
   subst hq
   refine block_loopX (fun n a w=>∃ i,i<=d.2.length/\n=d.2.length - i/\(∀ j (hj:j < d.2.length),j < i->freeD t d d.2[j]=false)/\Zag C shSl [pI t,pRow encL d.2,pI (d.2.length:Int),pI (i:Int),pRow encL d.1,pRow encL d.2,pI 0,pI 0,pI 0,pI 0] a w) ?_ (n:=d.2.length) ⟨0,by omega,by omega,fun j _ hj=>absurd hj (by omega),h1⟩
   rintro n a w ⟨i,hi,rfl,hb,hin⟩
   show wpL Try.prog lpS _ a w
   rw [<- List.append_nil lpS]
   by_cases hlt:i < d.2.length
   ·obtain ⟨c0',c1',c2',c3'⟩:=cellL d.2 i hlt
    have ix:=Zan encL d.2 i 4 4 .i64 rfl hlt (by decide)
    have v3:IntKind.i64.wrap ((i:Int)+1)=(i:Int)+1:=wrapI _ (by omega) (by omega)
    have g1:=FM1 d.2[i] hok
    have next:freeD t d d.2[i]=false->∀ j (hj:j < d.2.length),j < i+1->freeD t d d.2[j]=false:=fun hp j hj hji=>by
     by_cases hje:j=i
     ·subst hje;exact hp
     ·exact hb j hj (by omega)
    simp only [inDk] at g1
    cases hp:freeD t d d.2[i] with
    | true =>
     have hq0:Zgy d t=pI 0 :: p4 d.2[i]:=by simp only [Zgy,find_hitS hlt hp hb]
     rw [hp] at g1
     refine Zad names_ok mixed_ok (Zae _) hitS hin ?_ ?_
     ·simp [Zab,Zaa,Base.ev,SX.ev,evs,Value.oneCell',hF,g1,drn.m1,Zac,binPV,c0',c1',c2',c3',ix,v3,hlt]
     ·intro qs a1 w1 hq h1
      refine ⟨nofun,fun _=>.inr (.inr (.inl ⟨rfl,.inl ⟨_,hq0,.inr rfl,shSR,qs,[SX.var 0,SX.var 1,SX.var 2,SX.var 3],h1,by kernel_rfl,?_⟩⟩))⟩
      simp [evs,SX.ev,c0',c1',c2',c3'] at hq ⊢
      subst hq
      simp [p4]
    | false =>
     rw [hp] at g1
     refine Zad names_ok mixed_ok (Zae _) on0S hin ?_ ?_
     ·simp [Zab,Zaa,Base.ev,SX.ev,evs,Value.oneCell',hF,g1,drn.m1,Zac,binPV,c0',c1',c2',c3',ix,v3,hlt]
     ·intro qs a1 w1 hq h1
      refine ⟨fun _=>.inl ⟨rfl,d.2.length - (i+1),by omega,i+1,by omega,rfl,next hp,?_⟩,fun h=>absurd rfl h⟩
      simp [evs,SX.ev,binPV,v3] at hq
      subst hq
      exact h1
   ·have hie:i=d.2.length:=by omega
    subst hie
    have hq0:Zgy d t=[pI (0+1:Nat)]:=by simp only [Zgy,find_missS (fun j hj=>hb j hj hj)]
    refine Zad names_ok mixed_ok (Zae _) exS hin ?_ ?_
    ·simp [Base.ev,SX.ev,evs,Value.oneCell',binPV]
    ·intro qs a1 w1 hq h1
     refine ⟨nofun,fun _=>.inr (.inl ⟨by rw [show Zaf (nth flS 2)=0 by kernel_rfl];rfl,?_⟩)⟩
     rw [<- List.append_nil (flS.drop 3)]
     refine Zad names_ok mixed_ok (Zae _) postS h1 (by simp) ?_
     intro qs a2 w2 hq h2
     exact ⟨nofun,fun _=>.inr ⟨0,_,_,_,hq0,rfl,rfl,h2⟩⟩
def pRn (D:Desk) (let':List LeM) (t:Int):List PV:=pDk D++[pRow encL let',pRow encP (callsF (clashW D t) D.2 [])]
def RRn (ps qs:List PV):Prop:=∃ (d:Desk) (s t:Int),DI d s/\s<=t/\0<=t/\t<=1000000/\ps=[pRow encL d.1,pRow encL d.2,pI t]/\qs=pRn (runD t d).1 (runD t d).2 t
theorem fRn:∀ ps q1 q2,RRn ps q1->RRn ps q2->q1=q2:=by
 rintro ps q1 q2 ⟨d,s,t,_,_,_,_,rfl,rfl⟩ ⟨d',s',t',_,_,_,_,h,rfl⟩
 obtain ⟨rfl,rfl⟩:=in3_inj h
 rfl
noncomputable def FR:Fns:=fun k=>match k with | 2=>spec RFs | 3=>spec RPd | 4=>spec RGd | 5=>spec RCd | _=>fun _=>none
theorem r2:ToldX 32 (EFs 2) [pvS] (FR 2):=toldFs 2
theorem r3:ToldF 29 (EPd 3) (FR 3):=toldPd 3
theorem r4:ToldF 34 (EGd 4) (FR 4):=toldGd 4
theorem r5:ToldF 33 (ECd 5) (FR 5):=toldCd 5
theorem cutR:flR=flR.take 2++.block (Zaf (nth flR 2)) (.loop (Zah (nth flR 2))) :: flR.drop 3:=by kernel_rfl
theorem loopD_none {t:Int} {d:Desk} (h:d.2.find? (freeD t d)=none) (n:Nat):loopD t n d=(d,[]):=by
 cases n with
 | zero=>rfl
 | succ n=>simp only [loopD,h]
theorem loopD_some {t:Int} {d:Desk} {w:LeM} (h:d.2.find? (freeD t d)=some w) (n:Nat):loopD t (n+1) d=((loopD t n (lendsD t d w)).1,w :: (loopD t n (lendsD t d w)).2):=by
 simp only [loopD,h]
theorem drop_ltD {l:List LeM} {w:LeM} (h:w ∈ l):(wlm.dropW l w.1).length < l.length :=
 List.length_filter_lt_length_iff_exists.2 ⟨w,h,by simp⟩
theorem r_catD (acc:List LeM) (x:LeM):ropPV .cat [pRow encL acc,.row 1 [pI x.1,pI x.2.1,pI x.2.2.1,pI x.2.2.2]]=some (pRow encL (acc++[x])):=by simp [ropPV,pRow,Enc.all,encL]
theorem one_rowD (x:LeM):PV.row 1 [pI x.1,pI x.2.1,pI x.2.2.1,pI x.2.2.2]=pRow encL [x]:=by simp [pRow,Enc.all,encL]
def InRn (C:Base) (t:Int) (d:Desk) (acc:List LeM) (a:Act) (w:World):Prop :=
 (acc=[]/\Zag C shA [pI t,pRow encL d.1,pRow encL d.2] a w) \/ Zag C shB [pI t,pRow encL d.1,pRow encL d.2,pRow encL acc] a w
set_option maxHeartbeats 2000000 in
theorem toldRn (k:Nat):ToldF 14 (ERn k) (spec RRn):=by
 refine Zcy FR _ (Za1 Try.prog 14) Try.func14 (by kernel_rfl) shR (by kernel_rfl) ?_ ?_
 ·intro ps qs h
  obtain ⟨d,s,t,_,_,_,_,rfl,rfl⟩:=Zal h
  exact Zb3 rfl
 ·intro C ps qs hF h a w hsh
  obtain ⟨d,s,t,hdi,hst,h0,h1,rfl,rfl⟩:=Zal h
  have hdp:=dkm.di_prune hdi hst
  have g3:FR 3 [pRow encL d.1,pRow encL d.2,pI t]=some (pDk (Zb5 t d)):=Zam fPd ⟨d,t,⟨by have:=hdi.len;omega,by have:=hdi.l4;omega,h0,h1⟩,rfl,rfl⟩
  have hr:runD t d=loopD t d.2.length (Zb5 t d):=rfl
  have hp2:(Zb5 t d).2.length<=d.2.length:=Nat.le_refl _
  have hl4:=hdi.l4
  generalize hZ:runD t d=Z at *
  generalize Zb5 t d=P at *
  simp only [pDk] at g3
  show wpL Try.prog flR _ a w
  rw [cutR]
  refine Zad names_ok mixed_ok Zkg preR hsh ?_ ?_
  ·simp [Base.ev,SX.ev,evs,Value.oneCell',hF,g3,drn.r3,Zac]
  intro qs a1 w1 hq h1'
  refine ⟨fun _=>?_,fun h=>absurd rfl h⟩
  simp [evs,SX.ev,hF,g3] at hq
  subst hq
  refine Zas (fun n a w=>∃ (D:Desk) (acc:List LeM) (f:Nat),n=D.2.length/\D.2.length<=f/\DI D t/\acc.length+f<=4/\Z=((loopD t f D).1,acc++(loopD t f D).2)/\InRn C t D acc a w) ?_
   (n:=P.2.length) ⟨P,[],d.2.length,rfl,hp2,hdp,by simp;omega,by rw [hr];rfl,.inl ⟨rfl,h1'⟩⟩
  rintro n a w ⟨D,acc,f,rfl,hDf,hD,haf,hz,hin⟩
  show wpL Try.prog lpR _ a w
  rw [<- List.append_nil lpR]
  have hok:okIn D t:=⟨by have:=hD.len;omega,by have:=hD.l4;omega,h0,h1⟩
  have g2:FR 2 [pRow encL D.1,pRow encL D.2,pI t]=some (Zgy D t):=Zam fFs ⟨D,t,hok,rfl,rfl⟩
  cases hf:D.2.find? (freeD t D) with
  | some x =>
   have hx:=List.mem_of_find?_eq_some hf
   have hfr:=List.find?_some hf
   obtain ⟨f',rfl⟩:∃ f',f=f'+1:=⟨f - 1,by have:=List.length_pos_of_mem hx;omega⟩
   rw [loopD_some hf] at hz
   have hz':Z=((loopD t f' (lendsD t D x)).1,(acc++[x])++(loopD t f' (lendsD t D x)).2):=by rw [hz];simp
   have g4:FR 4 (inDk D t x)=some (pDk (lendsD t D x)):=Zam fGd ⟨D,t,x,hok,hD.al.may,dkm.ok_lease (hD.w x hx) h0 h1,hfr,rfl,rfl⟩
   have hD2:=dkm.di_lends hD (hD.w x hx) h0 h1 hfr
   have hlt:(lendsD t D x).2.length < D.2.length:=drop_ltD hx
   rw [show Zgy D t=pI 0 :: p4 x by simp only [Zgy,hf]] at g2
   simp only [p4,inDk,pDk] at g2 g4
   have rc:=r_catD acc x
   have r1:=one_rowD x
   have hla:(acc++[x]).length=acc.length+1:=by simp
   generalize lendsD t D x=E at *
   rcases hin with ⟨h00,hin⟩ | hin
   ·subst h00
    simp only [List.nil_append] at hz' hla
    refine Zad names_ok mixed_ok Zkg goA hin ?_ ?_
    ·simp [Zab,Zaa,Base.ev,SX.ev,evs,Value.oneCell',hF,g2,g4,drn.r2,drn.r4,Zac,binPV,r1]
    ·intro qs a1 w1 hq h1
     simp [evs,SX.ev,hF,g2,g4,r1] at hq
     subst hq
     exact ⟨fun _=>.inl ⟨rfl,_,hlt,E,[x],f',rfl,by omega,hD2,by simp at haf ⊢;omega,hz',.inr h1⟩,fun h=>absurd rfl h⟩
   ·refine Zad names_ok mixed_ok Zkg goB hin ?_ ?_
    ·simp [Zab,Zaa,Base.ev,SX.ev,evs,Value.oneCell',hF,g2,g4,drn.r2,drn.r4,Zac,binPV,rc]
     all_goals first | omega | exact ⟨⟨acc.length+1,by omega,by omega⟩,acc.length+1,by omega⟩
    ·intro qs a1 w1 hq h1
     simp [evs,SX.ev,hF,g2,g4,rc] at hq
     subst hq
     exact ⟨fun _=>.inl ⟨rfl,_,hlt,E,acc++[x],f',rfl,by omega,hD2,by omega,hz',.inr h1⟩,fun h=>absurd rfl h⟩
  | none =>
   rw [loopD_none hf] at hz
   simp only [List.append_nil] at hz
   subst hz
   have g5:FR 5 [pRow encL D.1,pRow encL D.2,pI t]=some [pRow encP (callsF (clashW D t) D.2 [])]:=Zam fCd ⟨D,t,by have:=hD.len;omega,by have:=hD.l4;omega,h0,h1,rfl,rfl⟩
   rw [show Zgy D t=[pI (0+1:Nat)] by simp only [Zgy,hf]] at g2
   rcases hin with ⟨h00,hin⟩ | hin
   ·subst h00
    refine Zad names_ok mixed_ok Zkg exA hin ?_ ?_
    ·simp [Base.ev,SX.ev,evs,Value.oneCell',hF,g2,g5,drn.r2,drn.r5,Zac,binPV]
    ·intro qs a1 w1 hq h1
     simp [evs,SX.ev,hF,g5] at hq
     subst hq
     exact ⟨nofun,fun _=>.inr (.inr ⟨rfl,.inr rfl,shEA,_,[.var 1,.var 2,.lit 0 [],.var 0],h1,by kernel_rfl,by simp [evs,SX.ev,pRn,pDk,pRow,Enc.all]⟩)⟩
   ·refine Zad names_ok mixed_ok Zkg exB hin ?_ ?_
    ·simp [Base.ev,SX.ev,evs,Value.oneCell',hF,g2,g5,drn.r2,drn.r5,Zac,binPV]
    ·intro qs a1 w1 hq h1
     simp [evs,SX.ev,hF,g5] at hq
     subst hq
     exact ⟨nofun,fun _=>.inr (.inr ⟨rfl,.inr rfl,shEB,_,[.var 1,.var 2,.var 3,.var 0],h1,by kernel_rfl,by simp [evs,SX.ev,pRn,pDk]⟩)⟩
end Go.Proofs.Ytcaclmdkhffegaa.drn
