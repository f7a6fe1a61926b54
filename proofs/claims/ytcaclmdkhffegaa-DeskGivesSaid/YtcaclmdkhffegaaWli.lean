/- Texts joined. -/
import Derived.Test.YtcaclmdkhffegaaWto
import Derived.Test.YtcaclmdkhffegaaMrg4
import Derived.Test.YtcaclmdkhffegaaEng31
section
/- Package line, told: Put, first, Ahead. -/
namespace Go.Proofs.Ytcaclmdkhffegaa.wpu
open Go Go.RowKit eng SX Fact fil lem lea leb wdr wwi wto wlm
set_option linter.unusedVariables false
set_option linter.unusedSimpArgs false
set_option maxRecDepth 1000000
def EPu (k:Nat):FnE:={ k:=k,ins:=[none,some 4],leaks:=[false,false,false,false,false],outs:=[none,none],kinds:=[.row,.num] }
def EFi (k:Nat):FnE:={ k:=k,ins:=[none,none],leaks:=[false,false],outs:=[some 4],kinds:=[.num,.num,.num,.num] }
def EAh (k:Nat):FnE:={ k:=k,ins:=[none,none,none],leaks:=[false,false,false],outs:=[none],kinds:=[.num] }
def tabX (f:FuncId):Option (FnE × List Value):=cond (Nat.beq f 79) (some (EWi 5,[pvW])) none
def orcP:Orc:=orcOr (orcX tabX) (orcG tabG)
def wbox:BoxT:=⟨25,0,false,[.leaf,.leaf,.leaf,.leaf],none,false⟩
noncomputable def flF:=flat (Za1 Try.prog 86)
noncomputable def lpF:=flat (Zah (nth flF 2))
def shF:Shape:=⟨[(0,.leaf),(1,.leaf)],[],[some false,none],20,86⟩
def shFl:Shape:=⟨[(1,.leaf),(4,.ptr 0 0 0 0),(7,.leaf),(8,.leaf),(9,.leaf)],[wbox],[none,some false,none,none,none,none,none,none],20,86⟩
def shFR:Shape:=⟨[(4,.ptr 0 0 0 0)],[wbox],[none,none,none,none],20,86⟩
def shFP:Shape:=⟨[],[],[],20,86⟩
def pvFi:Value:=(.iface 9 (.string { data:={ toList:=[UInt8.ofNat 108,UInt8.ofNat 105,UInt8.ofNat 110,UInt8.ofNat 101,UInt8.ofNat 58,UInt8.ofNat 32,UInt8.ofNat 110,UInt8.ofNat 111,UInt8.ofNat 98,UInt8.ofNat 111,UInt8.ofNat 100,UInt8.ofNat 121,UInt8.ofNat 32,UInt8.ofNat 119,UInt8.ofNat 97,UInt8.ofNat 105,UInt8.ofNat 116,UInt8.ofNat 115,UInt8.ofNat 32,UInt8.ofNat 102,UInt8.ofNat 111,UInt8.ofNat 114,UInt8.ofNat 32,UInt8.ofNat 105,UInt8.ofNat 116] } }))
@[simp] def zWpu1:SX:=.cell (.var 1) (.var 3) 4 2
@[simp] def zWpu2:List SX:=[.var 0,.var 1,.var 2,.var 3,.var 4]
@[simp] def zWpu3:SX:=.con (.int .i64 0)
@[simp] def zWpu4:SX:=.bin .lss (.var 3) (.var 2)
@[simp] def zWpu5:SX:=.bin .add (.var 3) (.con (.int .i64 1))
@[simp] def zWpu6:SX:=.cell (.var 1) (.var 3) 4 0
@[simp] def zWpu7:SX:=.cell (.var 1) (.var 3) 4 1
@[simp] def zWpu8:SX:=.cell (.var 1) (.var 3) 4 3
@[simp] def zWpu9:Fact:=.idx (.var 1) (.var 3) 4 4
@[simp] def Zoc:SX:=.bin .eql zWpu1 (.var 0)
theorem p1:runTo Try.prog orcP 10000 61 (EPu 1) [.row,.num,.num,.num,.num] [0]=some ([.ok (.var 1),.ok (.var 2),.ok (.var 3),.ok (.var 4),Fact.fx 79 (EWi 5) ([pvW]) zWpu2,.is (.fn 5 zWpu2 0) (.int .i64 0)],[.fn 5 zWpu2 1,.con (.bool true)]):=by kernel_rfl
theorem p0:runTo Try.prog orcP 10000 61 (EPu 1) [.row,.num,.num,.num,.num] [1]=some ([.ok (.var 1),.ok (.var 2),.ok (.var 3),.ok (.var 4),Fact.fx 79 (EWi 5) ([pvW]) zWpu2,.is (.fn 5 zWpu2 0) (.int .i64 1),Fact.fg 27 gC1 (ECa 3) [.var 0]],[.fn 3 [.var 0] 0,.con (.bool false)]):=by kernel_rfl
theorem preF:segTo Try.prog fil.noOrc 10000 (flF.take 2) shF [] shFl [(1,0)]=some (.normal,[.ok (.len (.var 0)),.ok (.var 1),.ok (.len (.var 0)),.ok zWpu3,.ok zWpu3,.ok zWpu3,.ok zWpu3,.ok zWpu3],[.var 1,.var 0,.len (.var 0),zWpu3,zWpu3,zWpu3,zWpu3,zWpu3]):=by kernel_rfl
theorem exF:segTo Try.prog fil.noOrc 10000 lpF shFl [0] shFP []=some (.exit 0,[.ok zWpu4,.is zWpu4 (.bool false)],[]):=by kernel_rfl
theorem on0:segTo Try.prog fil.noOrc 10000 lpF shFl [1,0] shFl [(0,0)]=some (.normal,[.ok zWpu4,.is zWpu4 (.bool true),zWpu9,zWpu9,.ok zWpu6,.ok zWpu7,.ok zWpu1,.ok zWpu8,.ok Zoc,.is Zoc (.bool false),.ok zWpu5,.ok (.var 0),.ok (.var 2),.ok zWpu5,.ok (.var 4),.ok (.var 5),.ok (.var 6),.ok (.var 7)],[.var 0,.var 1,.var 2,zWpu5,.var 4,.var 5,.var 6,.var 7]):=by kernel_rfl
theorem runF:segTo Try.prog fil.noOrc 10000 lpF shFl [1,1] shFR [(0,0)]=some (.ret,[.ok zWpu4,.is zWpu4 (.bool true),zWpu9,zWpu9,.ok zWpu6,.ok zWpu7,.ok zWpu1,.ok zWpu8,.ok Zoc,.is Zoc (.bool true),.ok zWpu6,.ok zWpu7,.ok zWpu1,.ok zWpu8],[zWpu6,zWpu7,zWpu1,zWpu8]):=by kernel_rfl
theorem postF:segTo Try.prog fil.noOrc 10000 (flF.drop 3) shFP [] shFP []=some (.panic pvFi,[],[]):=by kernel_rfl
theorem Zkh:OrcOk Try.prog orcP:=Zgh (Zkf _) (Zn2 _)
@[simp] theorem kPu (k:Nat):(EPu k).k=k:=rfl
@[simp] theorem kFi (k:Nat):(EFi k).k=k:=rfl
@[simp] theorem kAh (k:Nat):(EAh k).k=k:=rfl
noncomputable def FP:Fns:=fun k=>match k with | 3=>spec RC1 | 5=>spec RWi | _=>fun _=>none
theorem FP3 {l:List LeM} (h:l.length<=1000000):FP 3 [pRow encL l]=some [pRow encL l]:=Zam fC1 ⟨l,h,rfl,rfl⟩
theorem FP5 {l:List LeM} {x:LeM} (h:l.length<=999999):FP 5 [pRow encL l,pI x.1,pI x.2.1,pI x.2.2.1,pI x.2.2.2]=some (putQ l x):=Zam fWi ⟨l,x,h,rfl,rfl⟩
theorem x3:ToldG 27 gC1 (ECa 3) (FP 3):=Zq0 3
theorem x5:ToldX 79 (EWi 5) [pvW] (FP 5):=toldWi 5
def RPu (ps qs:List PV):Prop:=∃ (l:List LeM) (x:LeM),l.length<=999999/\ps=pRow encL l :: p4 x/\qs=[pRow encL (putB l x).1,pB (putB l x).2]
theorem fPu:∀ ps q1 q2,RPu ps q1->RPu ps q2->q1=q2:=by
 rintro ps q1 q2 ⟨l,x,_,rfl,rfl⟩ ⟨l',x',_,h,rfl⟩
 simp only [List.cons.injEq] at h
 obtain ⟨h,h3⟩:=h
 obtain rfl:=fil.pRow_inj Zar h
 obtain rfl:=Zjh h3
 rfl
theorem Zqu (k:Nat):ToldF 61 (EPu k) (spec RPu):=by
 refine Zbr mixed_ok names_ok FP [.row,.num,.num,.num,.num] ?_
 intro ps qs h _
 obtain ⟨l,x,hl,rfl,rfl⟩:=Zal h
 have g5:=FP5 (x:=x) hl
 have g3:=FP3 (l:=l) (by omega)
 cases hp:putL l x with
 | some r =>
  have e1:putB l x=(r,true):=by simp only [putB,hp]
  rw [show putQ l x=[pI 0,pRow encL r] by simp only [putQ,hp]] at g5
  rw [e1]
  obtain ⟨x0,x1,x2,x3⟩:=x
  simp only [p4] at *
  refine ⟨_,_,_,_,_,_,Zkh,p1,fun w FP=>?_,?_⟩
  ·simp [Base.ev,SX.ev,evs,Value.oneCell',g5,x5]
  ·simp [evs,SX.ev,g5]
 | none =>
  have e1:putB l x=(l,false):=by simp only [putB,hp]
  rw [show putQ l x=[pI (0+1:Nat)] by simp only [putQ,hp]] at g5
  rw [e1]
  obtain ⟨x0,x1,x2,x3⟩:=x
  simp only [p4] at *
  refine ⟨_,_,_,_,_,_,Zkh,p0,fun w FP=>?_,?_⟩
  ·simp [Base.ev,SX.ev,evs,Value.oneCell',g5,x5,g3,wpu.x3]
  ·simp [evs,SX.ev,g3]
def Zgx (l:List LeM) (f:Int):List PV:=match l.find? (isFl f) with | some x=>pI 0 :: p4 x | none=>[pI (0+1:Nat)]
def RFi (ps qs:List PV):Prop:=∃ (l:List LeM) (f:Int),l.length<=1000000/\ps=[pRow encL l,pI f]/\qs=Zgx l f
theorem fFi:∀ ps q1 q2,RFi ps q1->RFi ps q2->q1=q2:=by
 rintro ps q1 q2 ⟨l,f,_,rfl,rfl⟩ ⟨l',f',_,h,rfl⟩
 simp only [List.cons.injEq,PV.v.injEq,Value.int.injEq,true_and,and_true] at h
 obtain ⟨h,rfl⟩:=h
 rw [fil.pRow_inj Zar h]
theorem cutF:flF=flF.take 2++.block (Zaf (nth flF 2)) (.loop (Zah (nth flF 2))) :: flF.drop 3:=by kernel_rfl
set_option maxHeartbeats 1000000 in
theorem toldFi (k:Nat):ToldX 86 (EFi k) [pvFi] (spec RFi):=by
 refine Zmb (fun _ _=>none) _ (Za1 Try.prog 86) Try.func86 (by kernel_rfl) shF (by kernel_rfl) ?_ ?_
 ·intro ps qs h
  obtain ⟨l,f,_,rfl,rfl⟩:=Zal h
  exact Zb3 rfl
 ·intro C ps qs hF h a w hsh
  obtain ⟨l,f,hl,rfl,rfl⟩:=Zal h
  show wpL Try.prog flF _ a w
  rw [cutF]
  refine Zad names_ok mixed_ok fil.noOrc_ok preF hsh ?_ ?_
  ·simp [Base.ev,SX.ev,evs,Value.oneCell',Zac]
  ·intro qs a1 w1 hq h1
   refine ⟨fun _=>?_,fun h=>absurd rfl h⟩
   simp [evs,SX.ev,Zac] at hq
   subst hq
   refine block_loopX (fun n a w=>∃ i,i<=l.length/\n=l.length - i/\(∀ j (hj:j < l.length),j < i->isFl f l[j]=false)/\Zag C shFl [pI f,pRow encL l,pI (l.length:Int),pI (i:Int),pI 0,pI 0,pI 0,pI 0] a w) ?_ (n:=l.length) ⟨0,by omega,by omega,fun j _ hj=>absurd hj (by omega),h1⟩
   rintro n a w ⟨i,hi,rfl,hb,hin⟩
   show wpL Try.prog lpF _ a w
   rw [<- List.append_nil lpF]
   by_cases hlt:i < l.length
   ·obtain ⟨c0',c1',c2',c3'⟩:=cellL l i hlt
    have ix:=Zan encL l i 4 4 .i64 rfl hlt (by decide)
    have v3:IntKind.i64.wrap ((i:Int)+1)=(i:Int)+1:=wrapI _ (by omega) (by omega)
    have next:isFl f l[i]=false->∀ j (hj:j < l.length),j < i+1->isFl f l[j]=false:=fun hp j hj hji=>by
     by_cases hje:j=i
     ·subst hje;exact hp
     ·exact hb j hj (by omega)
    by_cases d1:l[i].2.2.1=f
    ·have hp:isFl f l[i]=true:=by simp [isFl,d1]
     have hq0:Zgx l f=pI 0 :: p4 l[i]:=by simp only [Zgx,Zjr hlt hp hb]
     refine Zad names_ok mixed_ok fil.noOrc_ok runF hin ?_ ?_
     ·simp [Zab,Zaa,Base.ev,SX.ev,evs,Value.oneCell',Zac,binPV,c0',c1',c2',c3',ix,v3,hlt,d1]
      all_goals omega
     ·intro qs a1 w1 hq h1
      refine ⟨nofun,fun _=>.inr (.inr (.inl ⟨rfl,.inl ⟨_,hq0,.inr rfl,shFR,qs,[SX.var 0,SX.var 1,SX.var 2,SX.var 3],h1,by kernel_rfl,?_⟩⟩))⟩
      simp [evs,SX.ev,c0',c1',c2',c3'] at hq ⊢
      subst hq
      simp [p4]
    ·have hp:isFl f l[i]=false:=by simp [isFl,d1]
     refine Zad names_ok mixed_ok fil.noOrc_ok on0 hin ?_ ?_
     ·simp [Zab,Zaa,Base.ev,SX.ev,evs,Value.oneCell',Zac,binPV,c0',c1',c2',c3',ix,v3,hlt,d1]
      all_goals omega
     ·intro qs a1 w1 hq h1
      refine ⟨fun _=>.inl ⟨rfl,l.length - (i+1),by omega,i+1,by omega,rfl,next hp,?_⟩,fun h=>absurd rfl h⟩
      simp [evs,SX.ev,binPV,v3] at hq
      subst hq
      exact h1
   ·have hie:i=l.length:=by omega
    subst hie
    have hq0:Zgx l f=[pI (0+1:Nat)]:=by simp only [Zgx,Zht (fun j hj=>hb j hj hj)]
    refine Zad names_ok mixed_ok fil.noOrc_ok exF hin ?_ ?_
    ·simp [Base.ev,SX.ev,evs,Value.oneCell',binPV]
    ·intro qs a1 w1 hq h1
     refine ⟨nofun,fun _=>.inr (.inl ⟨by rw [show Zaf (nth flF 2)=0 by kernel_rfl];rfl,?_⟩)⟩
     rw [<- List.append_nil (flF.drop 3)]
     refine Zad names_ok mixed_ok fil.noOrc_ok postF h1 (by simp) ?_
     intro qs a2 w2 hq h2
     exact ⟨nofun,fun _=>.inr ⟨0,_,_,_,hq0,rfl,rfl,h2⟩⟩
end Go.Proofs.Ytcaclmdkhffegaa.wpu
end
section
/- Texts joined. -/
section
/- Package line, told: Ahead. -/
namespace Go.Proofs.Ytcaclmdkhffegaa.wah
open Go Go.RowKit eng SX Fact fil lem lea leb wdr wwi wto wpu wlm
set_option linter.unusedVariables false
set_option linter.unusedSimpArgs false
set_option maxRecDepth 1000000
def tabA (f:FuncId):Option (FnE × List Value):=cond (Nat.beq f 86) (some (EFi 6,[pvFi])) none
@[simp] def zWah1:List SX:=[.var 0,.var 2]
@[simp] def zWah2:SX:=.bin .neq (.fn 6 zWah1 1) (.var 1)
@[simp] def zWah3:Fact:=Fact.fx 86 (EFi 6) ([pvFi]) zWah1
theorem a11:runTo Try.prog (orcX tabA) 10000 67 (EAh 1) [.row,.num,.num] [0,1]=some ([.ok (.var 1),.ok (.var 2),zWah3,.is (.fn 6 zWah1 0) (.int .i64 0),.ok (.fn 6 zWah1 1),.ok (.fn 6 zWah1 2),.ok (.fn 6 zWah1 3),.ok (.fn 6 zWah1 4),.ok zWah2,.is zWah2 (.bool true)],[.con (.bool true)]):=by kernel_rfl
theorem a10:runTo Try.prog (orcX tabA) 10000 67 (EAh 1) [.row,.num,.num] [0,0]=some ([.ok (.var 1),.ok (.var 2),zWah3,.is (.fn 6 zWah1 0) (.int .i64 0),.ok (.fn 6 zWah1 1),.ok (.fn 6 zWah1 2),.ok (.fn 6 zWah1 3),.ok (.fn 6 zWah1 4),.ok zWah2,.is zWah2 (.bool false)],[.con (.bool false)]):=by kernel_rfl
theorem a0:runTo Try.prog (orcX tabA) 10000 67 (EAh 1) [.row,.num,.num] [1]=some ([.ok (.var 1),.ok (.var 2),zWah3,.is (.fn 6 zWah1 0) (.int .i64 1)],[.con (.bool false)]):=by kernel_rfl
noncomputable def FA:Fns:=fun k=>match k with | 6=>spec RFi | _=>fun _=>none
theorem FA6 {l:List LeM} {f:Int} (h:l.length<=1000000):FA 6 [pRow encL l,pI f]=some (Zgx l f):=Zam fFi ⟨l,f,h,rfl,rfl⟩
theorem x6:ToldX 86 (EFi 6) [pvFi] (FA 6):=toldFi 6
def RAh (ps qs:List PV):Prop:=∃ (l:List LeM) (c f:Int),l.length<=1000000/\ps=[pRow encL l,pI c,pI f]/\qs=[pB (Zbn l c f)]
theorem fAh:∀ ps q1 q2,RAh ps q1->RAh ps q2->q1=q2:=by
 rintro ps q1 q2 ⟨l,c,f,_,rfl,rfl⟩ ⟨l',c',f',_,h,rfl⟩
 simp only [List.cons.injEq,PV.v.injEq,Value.int.injEq,true_and,and_true] at h
 obtain ⟨h,rfl,rfl⟩:=h
 rw [fil.pRow_inj Zar h]
theorem Zq1 (k:Nat):ToldF 67 (EAh k) (spec RAh):=by
 refine Zbr mixed_ok names_ok FA [.row,.num,.num] ?_
 intro ps qs h _
 obtain ⟨l,c,f,hl,rfl,rfl⟩:=Zal h
 have g:=FA6 (f:=f) hl
 cases hf:l.find? (isFl f) with
 | some x =>
  rw [show Zgx l f=pI 0 :: p4 x by simp only [Zgx,hf]] at g
  have e1:Zbn l c f=!(x.1 == c):=by simp only [Zbn,hf]
  rw [e1]
  obtain ⟨x0,x1,x2,x3⟩:=x
  simp only [p4] at *
  by_cases d:x0=c
  ·refine ⟨_,_,_,_,_,_,Zkf tabA,a10,fun w FP=>?_,?_⟩
   ·simp [Base.ev,SX.ev,evs,Value.oneCell',g,x6,binPV,d]
   ·simp [evs,SX.ev,d]
  ·refine ⟨_,_,_,_,_,_,Zkf tabA,a11,fun w FP=>?_,?_⟩
   ·simp [Base.ev,SX.ev,evs,Value.oneCell',g,x6,binPV,d]
   ·simp [evs,SX.ev,d]
 | none =>
  rw [show Zgx l f=[pI (0+1:Nat)] by simp only [Zgx,hf]] at g
  have e1:Zbn l c f=false:=by simp only [Zbn,hf]
  rw [e1]
  refine ⟨_,_,_,_,_,_,Zkf tabA,a0,fun w FP=>?_,?_⟩
  ·simp [Base.ev,SX.ev,evs,Value.oneCell',g,x6]
  ·simp [evs,SX.ev]
end Go.Proofs.Ytcaclmdkhffegaa.wah
end
section
/- Package line, told at rows that are written down. -/
namespace Go.Proofs.Ytcaclmdkhffegaa.wli
open Go Go.RowKit eng SX Fact fil lem lea wdr wwi wto wpu wah wlm
set_option linter.unusedVariables false
set_option maxRecDepth 1000000
def decL:List SX->Option (List LeM)
 | []=>some []
 | .con (.int .i64 a) :: .con (.int .i64 b) :: .con (.int .i64 c) :: .con (.int .i64 d) :: r=>(decL r).map ((a,b,c,d) :: ·)
 | _=>none
theorem Zet:∀ (k:Nat) {es:List SX} {l:List LeM},es.length<=k->decL es=some l->evs0 es=some ((encL.all l).map PV.v)
 | 0,es,l,hk,h=>by
  obtain rfl:es=[]:=List.eq_nil_of_length_eq_zero (by omega)
  simp [decL] at h;subst h;rfl
 | k+1,es,l,hk,h=>by
  unfold decL at h
  split at h
  ·cases h;rfl
  ·rename_i a b c d r
   simp only [Option.map_eq_some_iff] at h
   obtain ⟨l',h1,rfl⟩:=h
   simp [evs0,ev0,Zet k (es:=r) (by simp at hk;omega) h1,Enc.all_cons,encL]
  ·cases h
def sxL (l:List LeM):SX:=.lit l.length (l.flatMap fun p=>[.con (.int .i64 p.1),.con (.int .i64 p.2.1),.con (.int .i64 p.2.2.1),.con (.int .i64 p.2.2.2)])
theorem Ze1 (l:List LeM):ev0 (sxL l)=some (pRow encL l):=by
 have:∀ l:List LeM,evs0 (l.flatMap fun p=>[SX.con (.int .i64 p.1),.con (.int .i64 p.2.1),.con (.int .i64 p.2.2.1),.con (.int .i64 p.2.2.2)])=some ((encL.all l).map PV.v):=fun l=>by
  induction l with
  | nil=>rfl
  | cons b l ih=>simp [evs0,ev0,ih,Enc.all_cons,encL]
 simp only [sxL,ev0,this,pRow,Option.map_some]
def litPu:List SX->Option (List SX)
 | [.lit n xs,.con (.int .i64 a),.con (.int .i64 b),.con (.int .i64 c),.con (.int .i64 d)]=>(decL xs).bind fun l=>cond (Nat.beq l.length n && Nat.ble n 1000) (some [sxL (putB l (a,b,c,d)).1,.con (.bool (putB l (a,b,c,d)).2)]) none
 | _=>none
theorem litPu_ok:LitOk 61 (EPu 1) litPu:=by
 refine ⟨spec RPu,Zqu 1,?_⟩
 intro es rs h
 unfold litPu at h
 split at h
 ·rename_i n xs a b c d
  simp only [Option.bind_eq_some_iff,cond_eq_ite] at h
  obtain ⟨l,h1,h⟩:=h
  split at h
  ·rename_i hc
   simp only [Bool.and_eq_true,Nat.beq_eq,Nat.ble_eq] at hc
   obtain ⟨rfl,h2⟩:=hc
   cases h
   refine ⟨pRow encL l :: p4 (a,b,c,d),[pRow encL (putB l (a,b,c,d)).1,pB (putB l (a,b,c,d)).2],?_,Zam fPu ⟨l,_,by omega,rfl,rfl⟩,?_⟩
   ·simp [evs0,ev0,Zet _ (Nat.le_refl _) h1,p4,pRow]
   ·simp [evs0,ev0,Ze1]
  ·cases h
 ·cases h
def litDw:List SX->Option (List SX)
 | [.lit n xs,.con (.int .i64 a)]=>(decL xs).bind fun l=>cond (Nat.beq l.length n && Nat.ble n 1000) (some [sxL (dropW l a)]) none
 | _=>none
theorem litDw_ok:LitOk 56 (EDw 2) litDw:=by
 refine ⟨spec RDw,Zpz 2,?_⟩
 intro es rs h
 unfold litDw at h
 split at h
 ·rename_i n xs a
  simp only [Option.bind_eq_some_iff,cond_eq_ite] at h
  obtain ⟨l,h1,h⟩:=h
  split at h
  ·rename_i hc
   simp only [Bool.and_eq_true,Nat.beq_eq,Nat.ble_eq] at hc
   obtain ⟨rfl,h2⟩:=hc
   cases h
   refine ⟨[pRow encL l,pI a],[pRow encL (dropW l a)],?_,Zam fDw ⟨l,_,by omega,rfl,rfl⟩,?_⟩
   ·simp [evs0,ev0,Zet _ (Nat.le_refl _) h1,pRow]
   ·simp [evs0,Ze1]
  ·cases h
 ·cases h
def litAh:List SX->Option (List SX)
 | [.lit n xs,.con (.int .i64 a),.con (.int .i64 b)]=>(decL xs).bind fun l=>cond (Nat.beq l.length n && Nat.ble n 1000) (some [.con (.bool (Zbn l a b))]) none
 | _=>none
theorem litAh_ok:LitOk 67 (EAh 3) litAh:=by
 refine ⟨spec RAh,Zq1 3,?_⟩
 intro es rs h
 unfold litAh at h
 split at h
 ·rename_i n xs a b
  simp only [Option.bind_eq_some_iff,cond_eq_ite] at h
  obtain ⟨l,h1,h⟩:=h
  split at h
  ·rename_i hc
   simp only [Bool.and_eq_true,Nat.beq_eq,Nat.ble_eq] at hc
   obtain ⟨rfl,h2⟩:=hc
   cases h
   refine ⟨[pRow encL l,pI a,pI b],[pB (Zbn l a b)],?_,Zam fAh ⟨l,_,_,by omega,rfl,rfl⟩,?_⟩
   ·simp [evs0,ev0,Zet _ (Nat.le_refl _) h1,pRow]
   ·simp [evs0,ev0]
  ·cases h
 ·cases h
def tabE (f:FuncId):Option (FnE × (List SX->Option (List SX))):=cond (Nat.beq f 61) (some (EPu 1,litPu)) (cond (Nat.beq f 56) (some (EDw 2,litDw)) (cond (Nat.beq f 67) (some (EAh 3,litAh)) none))
theorem Znz:∀ f E lit,tabE f=some (E,lit)->LitOk f E lit:=by
 intro f E lit h
 simp only [tabE,cond_eq_ite,Nat.beq_eq] at h
 split at h
 ·rename_i hf;subst hf;cases h;exact litPu_ok
 split at h
 ·rename_i hf;subst hf;cases h;exact litDw_ok
 split at h
 ·rename_i hf;subst hf;cases h;exact litAh_ok
 ·cases h
def orcE:Orc:=Znh tabE
theorem orcE_ok:OrcOk Try.prog orcE:=orcLit_ok tabE Znz
end Go.Proofs.Ytcaclmdkhffegaa.wli
end
end
