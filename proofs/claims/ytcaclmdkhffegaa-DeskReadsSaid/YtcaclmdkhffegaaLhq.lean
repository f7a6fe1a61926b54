/- The document's Holds, told. -/
import Derived.Test.YtcaclmdkhffegaaLam
namespace Go.Proofs.Ytcaclmdkhffegaa.lhq
open Go Go.RowKit eng SX Fact fil lem lea leb lam
set_option linter.unusedVariables false
set_option linter.unusedSimpArgs false
set_option maxRecDepth 1000000
def EHq (k:Nat):FnE:={ k:=k,ins:=[none,none,none,none],leaks:=[false,false,false,false],outs:=[none],kinds:=[.num] }
noncomputable def flH:=flat (Zd9 Try.prog 22)
noncomputable def lpH:=flat (Zcc (nth flH 2))
def shH:Shape:=⟨[(0,.leaf),(1,.leaf),(2,.leaf),(3,.leaf)],[],[some false,none,none,none],46,22⟩
def shA:Shape:=⟨[(0,.leaf),(1,.leaf),(2,.leaf),(3,.leaf),(9,.leaf)],[],[some false,none,none,none,none],46,22⟩
def shR:Shape:=⟨[(8,.leaf)],[],[none],46,22⟩
@[simp] def zLhq1:SX:=.bin .eql (.cell (.var 0) (.var 4) 4 0) (.var 2)
@[simp] def zLhq2:SX:=.bin .add (.var 4) (.con (.int .i64 1))
@[simp] def zLhq3:SX:=.bin .lss (.var 4) (.len (.var 0))
@[simp] def zLhq4:Fact:=.idx (.var 0) (.var 4) 4 4
@[simp] def zLhq5:SX:=.bin .eql (.cell (.var 0) (.var 4) 4 1) (.var 3)
@[simp] def zLhq6:SX:=.bin .lss (.var 1) (.cell (.var 0) (.var 4) 4 3)
@[simp] def zLhq7:Fact:=.ok (.cell (.var 0) (.var 4) 4 0)
@[simp] def zLhq8:List SX:=[.var 0,.var 1,.var 2,.var 3,zLhq2]
@[simp] def zLhq9:Fact:=.idx (.var 0) (.var 4) 4 1
@[simp] def Zk4:Fact:=.ok (.cell (.var 0) (.var 4) 4 1)
@[simp] def Zjh:Fact:=.ok (.len (.var 0))
@[simp] def Zkj:Fact:=.is zLhq3 (.bool true)
theorem pre:segTo Try.prog fil.noOrc 10000 (flH.take 2) shH [] shA []=some (.normal,[.ok (.var 1),.ok (.var 2),.ok (.var 3),.ok (.con (.int .i64 0))],[.var 0,.var 1,.var 2,.var 3,.con (.int .i64 0)]):=by kernel_rfl
theorem ex:segTo Try.prog fil.noOrc 10000 lpH shA [0] shA []=some (.exit 0,[Zjh,.ok zLhq3,.is zLhq3 (.bool false),.ok (.var 1),.ok (.var 2),.ok (.var 3),.ok (.var 4)],[.var 0,.var 1,.var 2,.var 3,.var 4]):=by kernel_rfl
theorem l0:segTo Try.prog fil.noOrc 10000 lpH shA [1,0] shA []=some (.normal,[Zjh,.ok zLhq3,Zkj,zLhq4,zLhq9,zLhq7,.ok zLhq1,.is zLhq1 (.bool false),.ok zLhq2,.ok (.var 1),.ok (.var 2),.ok (.var 3),.ok zLhq2],zLhq8):=by kernel_rfl
theorem l10:segTo Try.prog fil.noOrc 10000 lpH shA [1,1,0] shA []=some (.normal,[Zjh,.ok zLhq3,Zkj,zLhq4,zLhq9,zLhq7,.ok zLhq1,.is zLhq1 (.bool true),zLhq4,.idx (.var 0) (.var 4) 4 2,Zk4,.ok zLhq5,.is zLhq5 (.bool false),.ok zLhq2,.ok (.var 1),.ok (.var 2),.ok (.var 3),.ok zLhq2],zLhq8):=by kernel_rfl
theorem l110:segTo Try.prog fil.noOrc 10000 lpH shA [1,1,1,0] shA []=some (.normal,[Zjh,.ok zLhq3,Zkj,zLhq4,zLhq9,zLhq7,.ok zLhq1,.is zLhq1 (.bool true),zLhq4,.idx (.var 0) (.var 4) 4 2,Zk4,.ok zLhq5,.is zLhq5 (.bool true),zLhq4,zLhq4,.ok (.cell (.var 0) (.var 4) 4 3),.ok zLhq6,.is zLhq6 (.bool false),.ok zLhq2,.ok (.var 1),.ok (.var 2),.ok (.var 3),.ok zLhq2],zLhq8):=by kernel_rfl
theorem l111:segTo Try.prog fil.noOrc 10000 lpH shA [1,1,1,1] shR []=some (.ret,[Zjh,.ok zLhq3,Zkj,zLhq4,zLhq9,zLhq7,.ok zLhq1,.is zLhq1 (.bool true),zLhq4,.idx (.var 0) (.var 4) 4 2,Zk4,.ok zLhq5,.is zLhq5 (.bool true),zLhq4,zLhq4,.ok (.cell (.var 0) (.var 4) 4 3),.ok zLhq6,.is zLhq6 (.bool true),zLhq4,.idx (.var 0) (.var 4) 4 3,.ok (.cell (.var 0) (.var 4) 4 2),.ok (.cell (.var 0) (.var 4) 4 2)],[.cell (.var 0) (.var 4) 4 2]):=by kernel_rfl
theorem post:segTo Try.prog fil.noOrc 10000 (flH.drop 3) shA [] shR []=some (.ret,[.ok (.con (.int .i64 0))],[.con (.int .i64 0)]):=by kernel_rfl
@[simp] theorem kHq (k:Nat):(EHq k).k=k:=rfl
def isH (now c f:Int) (x:LeM):Bool:=x.1 == c && (x.2.1 == f && decide (now < x.2.2.2))
def holdQ (l:List LeM) (now c f:Int):Int:=match l.find? (isH now c f) with | some x=>x.2.2.1 | none=>0
def RHq (ps qs:List PV):Prop:=∃ (l:List LeM) (now c f:Int),l.length<=1000000/\ps=[pRow encL l,pI now,pI c,pI f]/\qs=[pI (holdQ l now c f)]
theorem fHq:∀ ps q1 q2,RHq ps q1->RHq ps q2->q1=q2:=by
 rintro ps q1 q2 ⟨l,t,c,f,_,rfl,rfl⟩ ⟨l',t',c',f',_,h,rfl⟩
 simp only [List.cons.injEq,PV.v.injEq,Value.int.injEq,true_and,and_true] at h
 obtain ⟨h,rfl,rfl,rfl⟩:=h
 rw [fil.pRow_inj Zay h]
theorem cutH:flH=flH.take 2++.block (Zda (nth flH 2)) (.loop (Zcc (nth flH 2))) :: flH.drop 3:=by kernel_rfl
set_option maxHeartbeats 4000000 in
theorem toldHq (k:Nat):ToldF 22 (EHq k) (spec RHq):=by
 refine Ziq (fun _ _=>none) _ (Zd9 Try.prog 22) Try.func22 (by kernel_rfl) shH (by kernel_rfl) ?_ ?_
 ·intro ps qs h i hi
  obtain ⟨l,t,c,f,_,rfl,rfl⟩:=Zap h
  simp [shH] at hi
  match i,hi with
  | 0,hi=>simp at hi
  | 1,hi=>exact ⟨_,rfl,rfl⟩
  | 2,hi=>exact ⟨_,rfl,rfl⟩
  | 3,hi=>exact ⟨_,rfl,rfl⟩
  | i+4,hi=>simp at hi
 ·intro C ps qs hF h a w hsh
  obtain ⟨l,t,c,f,hl,rfl,rfl⟩:=Zap h
  have hS:∀ x,l.find? (isH t c f)=some x->holdQ l t c f=x.2.2.1:=fun x h=>by simp only [holdQ,h]
  have hN:l.find? (isH t c f)=none->holdQ l t c f=0:=fun h=>by simp only [holdQ,h]
  generalize holdQ l t c f=R at *
  show wpL Try.prog flH _ a w
  rw [cutH]
  refine Zaq names_ok mixed_ok fil.noOrc_ok pre hsh ?_ ?_
  ·simp only [fmC,fmN]
   simp [Base.ev,SX.ev,evs,Value.oneCell',Zae]
  ·intro qs a1 w1 hq h1
   refine ⟨fun _=>?_,fun h=>absurd rfl h⟩
   simp [evs,SX.ev,Zae] at hq
   subst hq
   refine Ze4 (fun n a w=>∃ i,i<=l.length/\n=l.length - i/\(∀ j (hj:j < l.length),j < i->isH t c f l[j]=false)/\Za9 C shA [pRow encL l,pI t,pI c,pI f,pI (i:Int)] a w) ?_ (n:=l.length) ⟨0,by omega,by omega,fun j _ hj=>absurd hj (by omega),h1⟩
   rintro n a w ⟨i,hi,rfl,hb,hin⟩
   show wpL Try.prog lpH _ a w
   rw [<- List.append_nil lpH]
   by_cases hlt:i < l.length
   ·obtain ⟨c0',c1',c2',c3'⟩:=cellL l i hlt
    have ix:=Zb3 encL l i 4 4 .i64 rfl hlt (by decide)
    have ix1:=Zb3 encL l i 4 1 .i64 rfl hlt (by decide)
    have ix2:=Zb3 encL l i 4 2 .i64 rfl hlt (by decide)
    have ix3:=Zb3 encL l i 4 3 .i64 rfl hlt (by decide)
    have v3:IntKind.i64.wrap ((i:Int)+1)=(i:Int)+1:=wrapI _ (by omega) (by omega)
    have next:isH t c f l[i]=false->∀ j (hj:j < l.length),j < i+1->isH t c f l[j]=false:=fun hp j hj hji=>by
     by_cases hje:j=i
     ·subst hje;exact hp
     ·exact hb j hj (by omega)
    by_cases d1:l[i].1=c
    ·by_cases d2:l[i].2.1=f
     ·by_cases d3:t < l[i].2.2.2
      ·have hp:isH t c f l[i]=true:=by simp [isH,d1,d2,d3]
       have hR:=hS _ (find_hit hlt hp hb)
       subst hR
       refine Zaq names_ok mixed_ok fil.noOrc_ok l111 hin ?_ ?_
       ·simp only [fmC,fmN]
        simp [Zag,Zad,Base.ev,SX.ev,evs,Value.oneCell',Zae,binPV,c0',c1',c2',c3',ix,ix1,ix2,ix3,v3,hlt,d1,d2,d3]
       ·intro qs a1 w1 hq h1
        exact ⟨fun h=>(by cases h),fun _=>.inr (.inr ⟨rfl,.inr rfl,shR,qs,[SX.var 0],h1,by kernel_rfl,by simp [evs,SX.ev,c2'] at hq ⊢;subst hq;rfl⟩)⟩
      ·have hp:isH t c f l[i]=false:=by simp [isH,d1,d2];omega
       refine Zaq names_ok mixed_ok fil.noOrc_ok l110 hin ?_ ?_
       ·simp only [fmC,fmN]
        simp [Zag,Zad,Base.ev,SX.ev,evs,Value.oneCell',Zae,binPV,c0',c1',c2',c3',ix,ix1,ix2,ix3,v3,hlt,d1,d2,d3]
       ·intro qs a1 w1 hq h1
        refine ⟨fun _=>.inl ⟨rfl,l.length - (i+1),by omega,i+1,by omega,rfl,next hp,?_⟩,fun h=>absurd rfl h⟩
        simp [evs,SX.ev,binPV,v3] at hq
        subst hq
        exact h1
     ·have hp:isH t c f l[i]=false:=by simp [isH,d2]
      refine Zaq names_ok mixed_ok fil.noOrc_ok l10 hin ?_ ?_
      ·simp only [fmC,fmN]
       simp [Zag,Zad,Base.ev,SX.ev,evs,Value.oneCell',Zae,binPV,c0',c1',c2',c3',ix,ix1,ix2,ix3,v3,hlt,d1,d2]
      ·intro qs a1 w1 hq h1
       refine ⟨fun _=>.inl ⟨rfl,l.length - (i+1),by omega,i+1,by omega,rfl,next hp,?_⟩,fun h=>absurd rfl h⟩
       simp [evs,SX.ev,binPV,v3] at hq
       subst hq
       exact h1
    ·have hp:isH t c f l[i]=false:=by simp [isH,d1]
     refine Zaq names_ok mixed_ok fil.noOrc_ok l0 hin ?_ ?_
     ·simp only [fmC,fmN]
      simp [Zag,Zad,Base.ev,SX.ev,evs,Value.oneCell',Zae,binPV,c0',c1',c2',c3',ix,ix1,ix2,ix3,v3,hlt,d1]
     ·intro qs a1 w1 hq h1
      refine ⟨fun _=>.inl ⟨rfl,l.length - (i+1),by omega,i+1,by omega,rfl,next hp,?_⟩,fun h=>absurd rfl h⟩
      simp [evs,SX.ev,binPV,v3] at hq
      subst hq
      exact h1
   ·have hie:i=l.length:=by omega
    subst hie
    rw [hN (find_miss (fun j hj=>hb j hj hj))] at *
    refine Zaq names_ok mixed_ok fil.noOrc_ok ex hin ?_ ?_
    ·simp only [fmC,fmN]
     simp [Base.ev,SX.ev,evs,Value.oneCell',binPV,Zae]
    ·intro qs a1 w1 hq h1
     refine ⟨fun h=>(by cases h),fun _=>.inr (.inl ⟨by rw [show Zda (nth flH 2)=0 by kernel_rfl];rfl,?_⟩)⟩
     simp [evs,SX.ev] at hq
     subst hq
     rw [<- List.append_nil (flH.drop 3)]
     refine Zaq names_ok mixed_ok fil.noOrc_ok post h1 ?_ (fun qs a1 w1 hq h1=>⟨fun h=>(by cases h),fun _=>⟨.inr rfl,shR,_,[SX.var 0],h1,by kernel_rfl,by simp [evs,SX.ev] at hq;subst hq;rfl⟩⟩)
     simp only [fmC,fmN]
     simp [Zag,Zad,Base.ev,SX.ev,evs,Value.oneCell',Zae]
theorem hold_eq {l:List LeM} (h:MayL l) (t c f:Int):holdQ l t c f=Zfa l t c f:=by
 cases hf:l.find? (isL c f) with
 | none =>
  have h0:l.find? (isH t c f)=none:=by
   rw [List.find?_eq_none] at hf ⊢
   intro x hx h1
   refine hf x hx ?_
   simp [isH] at h1
   simp [isL,h1.1,h1.2.1]
  simp only [holdQ,Zfa,hf,h0]
 | some x =>
  have hx:=List.mem_of_find?_eq_some hf
  have hc:=List.find?_some hf
  simp [isL] at hc
  have hH:Zfa l t c f=if x.2.2.2<=t then 0 else x.2.2.1:=by simp only [Zfa,hf]
  rw [hH]
  cases hg:l.find? (isH t c f) with
  | none =>
   have:=List.find?_eq_none.1 hg x hx
   simp [isH,hc.1,hc.2] at this
   simp only [holdQ,hg]
   rw [if_pos (by omega)]
  | some y =>
   have hy:=List.mem_of_find?_eq_some hg
   have hc':=List.find?_some hg
   simp [isH] at hc'
   have:y=x:=uniqL h hy hx (by rw [hc'.1,hc.1]) (by rw [hc'.2.1,hc.2])
   subst this
   simp only [holdQ,hg]
   rw [if_neg (by omega)]
end Go.Proofs.Ytcaclmdkhffegaa.lhq
