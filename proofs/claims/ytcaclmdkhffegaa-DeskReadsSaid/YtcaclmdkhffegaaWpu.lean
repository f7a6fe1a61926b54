/- Package line, told: Put, first, Ahead. -/
import Derived.Test.YtcaclmdkhffegaaWto
namespace Go.Proofs.Ytcaclmdkhffegaa.wpu
open Go Go.RowKit eng SX Fact fil lem lea leb wdr wwi wto wlm
set_option linter.unusedVariables false
set_option linter.unusedSimpArgs false
set_option maxRecDepth 1000000
def EPu (k:Nat):FnE:={ k:=k,ins:=[none,some 4],leaks:=[false,false,false,false,false],outs:=[none,none],kinds:=[.row,.num] }
def EFi (k:Nat):FnE:={ k:=k,ins:=[none,none],leaks:=[false,false],outs:=[some 4],kinds:=[.num,.num,.num,.num] }
def EAh (k:Nat):FnE:={ k:=k,ins:=[none,none,none],leaks:=[false,false,false],outs:=[none],kinds:=[.num] }
def tabX (f:FuncId):Option (FnE × List Value):=cond (Nat.beq f 79) (some (EWi 5,[pvW])) none
def orcP:Orc:=orcOr (orcX tabX) (orcG tabG)
def wbox:BoxT:=⟨25,0,false,[.leaf,.leaf,.leaf,.leaf],none,false⟩
noncomputable def flF:=flat (Zd9 Try.prog 86)
noncomputable def lpF:=flat (Zcc (nth flF 2))
def shF:Shape:=⟨[(0,.leaf),(1,.leaf)],[],[some false,none],20,86⟩
def shFl:Shape:=⟨[(1,.leaf),(4,.ptr 0 0 0 0),(7,.leaf),(8,.leaf),(9,.leaf)],[wbox],[none,some false,none,none,none,none,none,none],20,86⟩
def shFR:Shape:=⟨[(4,.ptr 0 0 0 0)],[wbox],[none,none,none,none],20,86⟩
def shFP:Shape:=⟨[],[],[],20,86⟩
def pvFi:Value:=(.iface 9 (.string { data:={ toList:=[UInt8.ofNat 108,UInt8.ofNat 105,UInt8.ofNat 110,UInt8.ofNat 101,UInt8.ofNat 58,UInt8.ofNat 32,UInt8.ofNat 110,UInt8.ofNat 111,UInt8.ofNat 98,UInt8.ofNat 111,UInt8.ofNat 100,UInt8.ofNat 121,UInt8.ofNat 32,UInt8.ofNat 119,UInt8.ofNat 97,UInt8.ofNat 105,UInt8.ofNat 116,UInt8.ofNat 115,UInt8.ofNat 32,UInt8.ofNat 102,UInt8.ofNat 111,UInt8.ofNat 114,UInt8.ofNat 32,UInt8.ofNat 105,UInt8.ofNat 116] } }))
@[simp] def zWpu1:SX:=.cell (.var 1) (.var 3) 4 2
@[simp] def zWpu2:List SX:=[.var 0,.var 1,.var 2,.var 3,.var 4]
@[simp] def zWpu3:SX:=.con (.int .i64 0)
@[simp] def zWpu4:SX:=.bin .lss (.var 3) (.var 2)
@[simp] def zWpu5:SX:=.bin .add (.var 3) (.con (.int .i64 1))
@[simp] def zWpu6:SX:=.cell (.var 1) (.var 3) 4 0
@[simp] def zWpu7:SX:=.cell (.var 1) (.var 3) 4 1
@[simp] def zWpu8:SX:=.cell (.var 1) (.var 3) 4 3
@[simp] def zWpu9:Fact:=.idx (.var 1) (.var 3) 4 4
@[simp] def Zki:SX:=.bin .eql zWpu1 (.var 0)
theorem p1:runTo Try.prog orcP 10000 61 (EPu 1) [.row,.num,.num,.num,.num] [0]=some ([.ok (.var 1),.ok (.var 2),.ok (.var 3),.ok (.var 4),Fact.fx 79 (EWi 5) ([pvW]) zWpu2,.is (.fn 5 zWpu2 0) (.int .i64 0)],[.fn 5 zWpu2 1,.con (.bool true)]):=by kernel_rfl
theorem p0:runTo Try.prog orcP 10000 61 (EPu 1) [.row,.num,.num,.num,.num] [1]=some ([.ok (.var 1),.ok (.var 2),.ok (.var 3),.ok (.var 4),Fact.fx 79 (EWi 5) ([pvW]) zWpu2,.is (.fn 5 zWpu2 0) (.int .i64 1),Fact.fg 27 gC1 (ECa 3) [.var 0]],[.fn 3 [.var 0] 0,.con (.bool false)]):=by kernel_rfl
theorem preF:segTo Try.prog fil.noOrc 10000 (flF.take 2) shF [] shFl [(1,0)]=some (.normal,[.ok (.len (.var 0)),.ok (.var 1),.ok (.len (.var 0)),.ok zWpu3,.ok zWpu3,.ok zWpu3,.ok zWpu3,.ok zWpu3],[.var 1,.var 0,.len (.var 0),zWpu3,zWpu3,zWpu3,zWpu3,zWpu3]):=by kernel_rfl
theorem exF:segTo Try.prog fil.noOrc 10000 lpF shFl [0] shFP []=some (.exit 0,[.ok zWpu4,.is zWpu4 (.bool false)],[]):=by kernel_rfl
theorem on0:segTo Try.prog fil.noOrc 10000 lpF shFl [1,0] shFl [(0,0)]=some (.normal,[.ok zWpu4,.is zWpu4 (.bool true),zWpu9,zWpu9,.ok zWpu6,.ok zWpu7,.ok zWpu1,.ok zWpu8,.ok Zki,.is Zki (.bool false),.ok zWpu5,.ok (.var 0),.ok (.var 2),.ok zWpu5,.ok (.var 4),.ok (.var 5),.ok (.var 6),.ok (.var 7)],[.var 0,.var 1,.var 2,zWpu5,.var 4,.var 5,.var 6,.var 7]):=by kernel_rfl
theorem runF:segTo Try.prog fil.noOrc 10000 lpF shFl [1,1] shFR [(0,0)]=some (.ret,[.ok zWpu4,.is zWpu4 (.bool true),zWpu9,zWpu9,.ok zWpu6,.ok zWpu7,.ok zWpu1,.ok zWpu8,.ok Zki,.is Zki (.bool true),.ok zWpu6,.ok zWpu7,.ok zWpu1,.ok zWpu8],[zWpu6,zWpu7,zWpu1,zWpu8]):=by kernel_rfl
theorem postF:segTo Try.prog fil.noOrc 10000 (flF.drop 3) shFP [] shFP []=some (.panic pvFi,[],[]):=by kernel_rfl
theorem Zj6:OrcOk Try.prog orcP:=Zi3 (Zi2 _) (Zj7 _)
@[simp] theorem kPu (k:Nat):(EPu k).k=k:=rfl
@[simp] theorem kFi (k:Nat):(EFi k).k=k:=rfl
@[simp] theorem kAh (k:Nat):(EAh k).k=k:=rfl
noncomputable def FP:Fns:=fun k=>match k with | 3=>spec RC1 | 5=>spec RWi | _=>fun _=>none
theorem FP3 {l:List LeM} (h:l.length<=1000000):FP 3 [pRow encL l]=some [pRow encL l]:=Zal fC1 ⟨l,h,rfl,rfl⟩
theorem FP5 {l:List LeM} {x:LeM} (h:l.length<=999999):FP 5 [pRow encL l,pI x.1,pI x.2.1,pI x.2.2.1,pI x.2.2.2]=some (putQ l x):=Zal fWi ⟨l,x,h,rfl,rfl⟩
theorem x3:ToldG 27 gC1 (ECa 3) (FP 3):=Zld 3
theorem x5:ToldX 79 (EWi 5) [pvW] (FP 5):=toldWi 5
def RPu (ps qs:List PV):Prop:=∃ (l:List LeM) (x:LeM),l.length<=999999/\ps=pRow encL l :: p4 x/\qs=[pRow encL (putB l x).1,pB (putB l x).2]
theorem fPu:∀ ps q1 q2,RPu ps q1->RPu ps q2->q1=q2:=by
 rintro ps q1 q2 ⟨l,x,_,rfl,rfl⟩ ⟨l',x',_,h,rfl⟩
 simp only [List.cons.injEq] at h
 obtain ⟨h,h3⟩:=h
 obtain rfl:=fil.pRow_inj Zay h
 obtain rfl:=Zig h3
 rfl
theorem Zk8 (k:Nat):ToldF 61 (EPu k) (spec RPu):=by
 refine Zco mixed_ok names_ok FP [.row,.num,.num,.num,.num] ?_
 intro ps qs h _
 obtain ⟨l,x,hl,rfl,rfl⟩:=Zap h
 have g5:=FP5 (x:=x) hl
 have g3:=FP3 (l:=l) (by omega)
 cases hp:putL l x with
 | some r =>
  have e1:putB l x=(r,true):=by simp only [putB,hp]
  rw [show putQ l x=[pI 0,pRow encL r] by simp only [putQ,hp]] at g5
  rw [e1]
  obtain ⟨x0,x1,x2,x3⟩:=x
  simp only [p4] at *
  refine ⟨_,_,_,_,_,_,Zj6,p1,fun w FP=>?_,?_⟩
  ·simp only [fmC,fmN]
   simp [Base.ev,SX.ev,evs,Value.oneCell',g5,x5]
  ·simp [evs,SX.ev,g5]
 | none =>
  have e1:putB l x=(l,false):=by simp only [putB,hp]
  rw [show putQ l x=[pI (0+1:Nat)] by simp only [putQ,hp]] at g5
  rw [e1]
  obtain ⟨x0,x1,x2,x3⟩:=x
  simp only [p4] at *
  refine ⟨_,_,_,_,_,_,Zj6,p0,fun w FP=>?_,?_⟩
  ·simp only [fmC,fmN]
   simp [Base.ev,SX.ev,evs,Value.oneCell',g5,x5,g3,wpu.x3]
  ·simp [evs,SX.ev,g3]
def Zfb (l:List LeM) (f:Int):List PV:=match l.find? (isFl f) with | some x=>pI 0 :: p4 x | none=>[pI (0+1:Nat)]
def RFi (ps qs:List PV):Prop:=∃ (l:List LeM) (f:Int),l.length<=1000000/\ps=[pRow encL l,pI f]/\qs=Zfb l f
theorem fFi:∀ ps q1 q2,RFi ps q1->RFi ps q2->q1=q2:=by
 rintro ps q1 q2 ⟨l,f,_,rfl,rfl⟩ ⟨l',f',_,h,rfl⟩
 simp only [List.cons.injEq,PV.v.injEq,Value.int.injEq,true_and,and_true] at h
 obtain ⟨h,rfl⟩:=h
 rw [fil.pRow_inj Zay h]
theorem cutF:flF=flF.take 2++.block (Zda (nth flF 2)) (.loop (Zcc (nth flF 2))) :: flF.drop 3:=by kernel_rfl
set_option maxHeartbeats 1000000 in
theorem toldFi (k:Nat):ToldX 86 (EFi k) [pvFi] (spec RFi):=by
 refine told_byX (fun _ _=>none) _ (Zd9 Try.prog 86) Try.func86 (by kernel_rfl) shF (by kernel_rfl) ?_ ?_
 ·intro ps qs h i hi
  obtain ⟨l,f,_,rfl,rfl⟩:=Zap h
  simp [shF] at hi
  match i,hi with
  | 0,hi=>simp at hi
  | 1,hi=>exact ⟨_,rfl,rfl⟩
  | i+2,hi=>simp at hi
 ·intro C ps qs hF h a w hsh
  obtain ⟨l,f,hl,rfl,rfl⟩:=Zap h
  show wpL Try.prog flF _ a w
  rw [cutF]
  refine Zaq names_ok mixed_ok fil.noOrc_ok preF hsh ?_ ?_
  ·simp only [fmC,fmN]
   simp [Base.ev,SX.ev,evs,Value.oneCell',Zae]
  ·intro qs a1 w1 hq h1
   refine ⟨fun _=>?_,fun h=>absurd rfl h⟩
   simp [evs,SX.ev,Zae] at hq
   subst hq
   refine block_loopX (fun n a w=>∃ i,i<=l.length/\n=l.length - i/\(∀ j (hj:j < l.length),j < i->isFl f l[j]=false)/\Za9 C shFl [pI f,pRow encL l,pI (l.length:Int),pI (i:Int),pI 0,pI 0,pI 0,pI 0] a w) ?_ (n:=l.length) ⟨0,by omega,by omega,fun j _ hj=>absurd hj (by omega),h1⟩
   rintro n a w ⟨i,hi,rfl,hb,hin⟩
   show wpL Try.prog lpF _ a w
   rw [<- List.append_nil lpF]
   by_cases hlt:i < l.length
   ·obtain ⟨c0',c1',c2',c3'⟩:=cellL l i hlt
    have ix:=Zb3 encL l i 4 4 .i64 rfl hlt (by decide)
    have v3:IntKind.i64.wrap ((i:Int)+1)=(i:Int)+1:=wrapI _ (by omega) (by omega)
    have next:isFl f l[i]=false->∀ j (hj:j < l.length),j < i+1->isFl f l[j]=false:=fun hp j hj hji=>by
     by_cases hje:j=i
     ·subst hje;exact hp
     ·exact hb j hj (by omega)
    by_cases d1:l[i].2.2.1=f
    ·have hp:isFl f l[i]=true:=by simp [isFl,d1]
     have hq0:Zfb l f=pI 0 :: p4 l[i]:=by simp only [Zfb,find_hit hlt hp hb]
     refine Zaq names_ok mixed_ok fil.noOrc_ok runF hin ?_ ?_
     ·simp only [fmC,fmN]
      simp [Zag,Zad,Base.ev,SX.ev,evs,Value.oneCell',Zae,binPV,c0',c1',c2',c3',ix,v3,hlt,d1]
      all_goals omega
     ·intro qs a1 w1 hq h1
      refine ⟨fun h=>(by cases h),fun _=>.inr (.inr (.inl ⟨rfl,.inl ⟨_,hq0,.inr rfl,shFR,qs,[SX.var 0,SX.var 1,SX.var 2,SX.var 3],h1,by kernel_rfl,?_⟩⟩))⟩
      simp [evs,SX.ev,c0',c1',c2',c3'] at hq ⊢
      subst hq
      simp [p4]
    ·have hp:isFl f l[i]=false:=by simp [isFl,d1]
     refine Zaq names_ok mixed_ok fil.noOrc_ok on0 hin ?_ ?_
     ·simp only [fmC,fmN]
      simp [Zag,Zad,Base.ev,SX.ev,evs,Value.oneCell',Zae,binPV,c0',c1',c2',c3',ix,v3,hlt,d1]
      all_goals omega
     ·intro qs a1 w1 hq h1
      refine ⟨fun _=>.inl ⟨rfl,l.length - (i+1),by omega,i+1,by omega,rfl,next hp,?_⟩,fun h=>absurd rfl h⟩
      simp [evs,SX.ev,binPV,v3] at hq
      subst hq
      exact h1
   ·have hie:i=l.length:=by omega
    subst hie
    have hq0:Zfb l f=[pI (0+1:Nat)]:=by simp only [Zfb,find_miss (fun j hj=>hb j hj hj)]
    refine Zaq names_ok mixed_ok fil.noOrc_ok exF hin ?_ ?_
    ·simp only [fmC,fmN]
     simp [Base.ev,SX.ev,evs,Value.oneCell',binPV]
    ·intro qs a1 w1 hq h1
     refine ⟨fun h=>(by cases h),fun _=>.inr (.inl ⟨by rw [show Zda (nth flF 2)=0 by kernel_rfl];rfl,?_⟩)⟩
     rw [<- List.append_nil (flF.drop 3)]
     refine Zaq names_ok mixed_ok fil.noOrc_ok postF h1 (by simp) ?_
     intro qs a2 w2 hq h2
     exact ⟨fun h=>(by cases h),fun _=>.inr ⟨0,_,_,_,hq0,rfl,rfl,h2⟩⟩
end Go.Proofs.Ytcaclmdkhffegaa.wpu
