/- The document's Ahead, told. -/
import Derived.Test.YtcaclmdkhffegaaLgr
import Derived.Test.YtcaclmdkhffegaaWlm
namespace Go.Proofs.Ytcaclmdkhffegaa.wra
open Go Go.RowKit eng SX Fact fil lem lea wlm
set_option linter.unusedVariables false
set_option linter.unusedSimpArgs false
set_option maxRecDepth 1000000
def ERa (k:Nat):FnE:={ k:=k,ins:=[none,none,none],leaks:=[false,false,false],outs:=[none],kinds:=[.num] }
noncomputable def flH:=flat (Za1 Try.prog 21)
noncomputable def lpH:=flat (Zah (nth flH 2))
def shH:Shape:=⟨[(0,.leaf),(1,.leaf),(2,.leaf)],[],[some false,none,none],37,21⟩
def shA:Shape:=⟨[(0,.leaf),(1,.leaf),(2,.leaf),(7,.leaf)],[],[some false,none,none,none],37,21⟩
def shR:Shape:=⟨[(6,.leaf)],[],[none],37,21⟩
@[simp] def zWra1:SX:=.bin .eql (.cell (.var 0) (.var 3) 4 2) (.var 2)
@[simp] def zWra2:SX:=.bin .eql (.cell (.var 0) (.var 3) 4 0) (.var 1)
@[simp] def zWra3:SX:=.bin .lss (.var 3) (.len (.var 0))
@[simp] def zWra4:SX:=.bin .add (.var 3) (.con (.int .i64 1))
@[simp] def zWra5:Fact:=.idx (.var 0) (.var 3) 4 4
@[simp] def zWra6:Fact:=.ok (.cell (.var 0) (.var 3) 4 2)
@[simp] def zWra7:Fact:=.ok (.cell (.var 0) (.var 3) 4 0)
@[simp] def zWra8:Fact:=.idx (.var 0) (.var 3) 4 3
@[simp] def zWra9:Fact:=.idx (.var 0) (.var 3) 4 1
@[simp] def Zm3:Fact:=.ok (.len (.var 0))
@[simp] def Zoa:Fact:=.is zWra3 (.bool true)
theorem pre:segTo Try.prog fil.noOrc 10000 (flH.take 2) shH [] shA []=some (.normal,[.ok (.var 1),.ok (.var 2),.ok (.con (.int .i64 0))],[.var 0,.var 1,.var 2,.con (.int .i64 0)]):=by kernel_rfl
theorem ex:segTo Try.prog fil.noOrc 10000 lpH shA [0] shA []=some (.exit 0,[Zm3,.ok zWra3,.is zWra3 (.bool false),.ok (.var 1),.ok (.var 2),.ok (.var 3)],[.var 0,.var 1,.var 2,.var 3]):=by kernel_rfl
theorem l00:segTo Try.prog fil.noOrc 10000 lpH shA [1,0,0] shA []=some (.normal,[Zm3,.ok zWra3,Zoa,zWra5,zWra9,zWra7,.ok zWra2,.is zWra2 (.bool false),zWra5,zWra8,zWra6,.ok zWra1,.is zWra1 (.bool false),.ok zWra4,.ok (.var 1),.ok (.var 2),.ok zWra4],[.var 0,.var 1,.var 2,zWra4]):=by kernel_rfl
theorem l01:segTo Try.prog fil.noOrc 10000 lpH shA [1,0,1] shR []=some (.ret,[Zm3,.ok zWra3,Zoa,zWra5,zWra9,zWra7,.ok zWra2,.is zWra2 (.bool false),zWra5,zWra8,zWra6,.ok zWra1,.is zWra1 (.bool true),.ok (.con (.bool true))],[.con (.bool true)]):=by kernel_rfl
theorem l100:segTo Try.prog fil.noOrc 10000 lpH shA [1,1,0,0] shA []=some (.normal,[Zm3,.ok zWra3,Zoa,zWra5,zWra9,zWra7,.ok zWra2,.is zWra2 (.bool true),zWra5,zWra8,zWra6,.ok zWra1,.is zWra1 (.bool false),zWra5,zWra8,zWra6,.ok zWra1,.is zWra1 (.bool false),.ok zWra4,.ok (.var 1),.ok (.var 2),.ok zWra4],[.var 0,.var 1,.var 2,zWra4]):=by kernel_rfl
theorem l11:segTo Try.prog fil.noOrc 10000 lpH shA [1,1,1] shR []=some (.ret,[Zm3,.ok zWra3,Zoa,zWra5,zWra9,zWra7,.ok zWra2,.is zWra2 (.bool true),zWra5,zWra8,zWra6,.ok zWra1,.is zWra1 (.bool true),.ok (.con (.bool false))],[.con (.bool false)]):=by kernel_rfl
theorem post:segTo Try.prog fil.noOrc 10000 (flH.drop 3) shA [] shR []=some (.ret,[.ok (.con (.bool false))],[.con (.bool false)]):=by kernel_rfl
@[simp] theorem kRa (k:Nat):(ERa k).k=k:=rfl
def RRa (ps qs:List PV):Prop:=∃ (l:List LeM) (c f:Int),l.length<=1000000/\ps=[pRow encL l,pI c,pI f]/\qs=[pB (Zbn l c f)]
theorem fRa:∀ ps q1 q2,RRa ps q1->RRa ps q2->q1=q2:=by
 rintro ps q1 q2 ⟨l,c,f,_,rfl,rfl⟩ ⟨l',c',f',_,h,rfl⟩
 simp only [List.cons.injEq,PV.v.injEq,Value.int.injEq,true_and,and_true] at h
 obtain ⟨h,rfl,rfl⟩:=h
 rw [fil.pRow_inj Zar h]
theorem cutH:flH=flH.take 2++.block (Zaf (nth flH 2)) (.loop (Zah (nth flH 2))) :: flH.drop 3:=by kernel_rfl
set_option maxHeartbeats 4000000 in
theorem toldRa (k:Nat):ToldF 21 (ERa k) (spec RRa):=by
 refine Zcy (fun _ _=>none) _ (Za1 Try.prog 21) Try.func21 (by kernel_rfl) shH (by kernel_rfl) ?_ ?_
 ·intro ps qs h
  obtain ⟨l,c,f,_,rfl,rfl⟩:=Zal h
  exact Zb3 rfl
 ·intro C ps qs hF h a w hsh
  obtain ⟨l,c,f,hl,rfl,rfl⟩:=Zal h
  have hS:∀ x,l.find? (isFl f)=some x->Zbn l c f=!(x.1 == c):=fun x h=>by simp only [Zbn,h]
  have hN:l.find? (isFl f)=none->Zbn l c f=false:=fun h=>by simp only [Zbn,h]
  generalize Zbn l c f=R at *
  show wpL Try.prog flH _ a w
  rw [cutH]
  refine Zad names_ok mixed_ok fil.noOrc_ok pre hsh ?_ ?_
  ·simp [Base.ev,SX.ev,evs,Value.oneCell',Zac]
  ·intro qs a1 w1 hq h1
   refine ⟨fun _=>?_,fun h=>absurd rfl h⟩
   simp [evs,SX.ev,Zac] at hq
   subst hq
   refine Zas (fun n a w=>∃ i,i<=l.length/\n=l.length - i/\(∀ j (hj:j < l.length),j < i->isFl f l[j]=false)/\Zag C shA [pRow encL l,pI c,pI f,pI (i:Int)] a w) ?_ (n:=l.length) ⟨0,by omega,by omega,fun j _ hj=>absurd hj (by omega),h1⟩
   rintro n a w ⟨i,hi,rfl,hb,hin⟩
   show wpL Try.prog lpH _ a w
   rw [<- List.append_nil lpH]
   by_cases hlt:i < l.length
   ·obtain ⟨c0',c1',c2',c3'⟩:=cellL l i hlt
    have ix:=Zan encL l i 4 4 .i64 rfl hlt (by decide)
    have ix1:=Zan encL l i 4 1 .i64 rfl hlt (by decide)
    have ix3:=Zan encL l i 4 3 .i64 rfl hlt (by decide)
    have v3:IntKind.i64.wrap ((i:Int)+1)=(i:Int)+1:=wrapI _ (by omega) (by omega)
    have next:isFl f l[i]=false->∀ j (hj:j < l.length),j < i+1->isFl f l[j]=false:=fun hp j hj hji=>by
     by_cases hje:j=i
     ·subst hje;exact hp
     ·exact hb j hj (by omega)
    by_cases d2:l[i].2.2.1=f
    ·have hp:isFl f l[i]=true:=by simp [isFl,d2]
     have hR:=hS _ (Zjr hlt hp hb)
     by_cases d1:l[i].1=c
     ·rw [show R=false by rw [hR,d1];simp]
      refine Zad names_ok mixed_ok fil.noOrc_ok l11 hin ?_ ?_
      ·simp [Zab,Zaa,Base.ev,SX.ev,evs,Value.oneCell',Zac,binPV,c0',c1',c2',c3',ix,ix1,ix3,v3,hlt,d1,d2]
      ·intro qs a1 w1 hq h1
       exact ⟨nofun,fun _=>.inr (.inr ⟨rfl,.inr rfl,shR,qs,[SX.var 0],h1,by kernel_rfl,by simp [evs,SX.ev] at hq ⊢;subst hq;rfl⟩)⟩
     ·rw [show R=true by rw [hR];simp [d1]]
      refine Zad names_ok mixed_ok fil.noOrc_ok l01 hin ?_ ?_
      ·simp [Zab,Zaa,Base.ev,SX.ev,evs,Value.oneCell',Zac,binPV,c0',c1',c2',c3',ix,ix1,ix3,v3,hlt,d1,d2]
      ·intro qs a1 w1 hq h1
       exact ⟨nofun,fun _=>.inr (.inr ⟨rfl,.inr rfl,shR,qs,[SX.var 0],h1,by kernel_rfl,by simp [evs,SX.ev] at hq ⊢;subst hq;rfl⟩)⟩
    ·have hp:isFl f l[i]=false:=by simp [isFl,d2]
     by_cases d1:l[i].1=c
     ·refine Zad names_ok mixed_ok fil.noOrc_ok l100 hin ?_ ?_
      ·simp [Zab,Zaa,Base.ev,SX.ev,evs,Value.oneCell',Zac,binPV,c0',c1',c2',c3',ix,ix1,ix3,v3,hlt,d1,d2]
      ·intro qs a1 w1 hq h1
       refine ⟨fun _=>.inl ⟨rfl,l.length - (i+1),by omega,i+1,by omega,rfl,next hp,?_⟩,fun h=>absurd rfl h⟩
       simp [evs,SX.ev,binPV,v3] at hq
       subst hq
       exact h1
     ·refine Zad names_ok mixed_ok fil.noOrc_ok l00 hin ?_ ?_
      ·simp [Zab,Zaa,Base.ev,SX.ev,evs,Value.oneCell',Zac,binPV,c0',c1',c2',c3',ix,ix1,ix3,v3,hlt,d1,d2]
      ·intro qs a1 w1 hq h1
       refine ⟨fun _=>.inl ⟨rfl,l.length - (i+1),by omega,i+1,by omega,rfl,next hp,?_⟩,fun h=>absurd rfl h⟩
       simp [evs,SX.ev,binPV,v3] at hq
       subst hq
       exact h1
   ·have hie:i=l.length:=by omega
    subst hie
    rw [hN (Zht (fun j hj=>hb j hj hj))] at *
    refine Zad names_ok mixed_ok fil.noOrc_ok ex hin ?_ ?_
    ·simp [Base.ev,SX.ev,evs,Value.oneCell',binPV,Zac]
    ·intro qs a1 w1 hq h1
     refine ⟨nofun,fun _=>.inr (.inl ⟨by rw [show Zaf (nth flH 2)=0 by kernel_rfl];rfl,?_⟩)⟩
     simp [evs,SX.ev] at hq
     subst hq
     rw [<- List.append_nil (flH.drop 3)]
     refine Zad names_ok mixed_ok fil.noOrc_ok post h1 ?_ (fun qs a1 w1 hq h1=>⟨nofun,fun _=>⟨.inr rfl,shR,_,[SX.var 0],h1,by kernel_rfl,by simp [evs,SX.ev] at hq;subst hq;rfl⟩⟩)
     simp [Zab,Zaa,Base.ev,SX.ev,evs,Value.oneCell',Zac]
end Go.Proofs.Ytcaclmdkhffegaa.wra
