/- Texts joined. -/
import Derived.Test.YtcaclmdkhffegaaDkn
section
/- The document's Holds, told. -/
namespace Go.Proofs.Ytcaclmdkhffegaa.lhq
open Go Go.RowKit eng SX Fact fil lem lea leb lam
set_option linter.unusedVariables false
set_option linter.unusedSimpArgs false
set_option maxRecDepth 1000000
def EHq (k:Nat):FnE:={ k:=k,ins:=[none,none,none,none],leaks:=[false,false,false,false],outs:=[none],kinds:=[.num] }
noncomputable def flH:=flat (Za1 Try.prog 22)
noncomputable def lpH:=flat (Zah (nth flH 2))
def shH:Shape:=⟨[(0,.leaf),(1,.leaf),(2,.leaf),(3,.leaf)],[],[some false,none,none,none],46,22⟩
def shA:Shape:=⟨[(0,.leaf),(1,.leaf),(2,.leaf),(3,.leaf),(9,.leaf)],[],[some false,none,none,none,none],46,22⟩
def shR:Shape:=⟨[(8,.leaf)],[],[none],46,22⟩
@[simp] def zLhq1:SX:=.bin .eql (.cell (.var 0) (.var 4) 4 0) (.var 2)
@[simp] def zLhq2:SX:=.bin .add (.var 4) (.con (.int .i64 1))
@[simp] def zLhq3:SX:=.bin .lss (.var 4) (.len (.var 0))
@[simp] def zLhq4:Fact:=.idx (.var 0) (.var 4) 4 4
@[simp] def zLhq5:SX:=.bin .eql (.cell (.var 0) (.var 4) 4 1) (.var 3)
@[simp] def zLhq6:SX:=.bin .lss (.var 1) (.cell (.var 0) (.var 4) 4 3)
@[simp] def zLhq7:Fact:=.ok (.cell (.var 0) (.var 4) 4 0)
@[simp] def zLhq8:List SX:=[.var 0,.var 1,.var 2,.var 3,zLhq2]
@[simp] def zLhq9:Fact:=.idx (.var 0) (.var 4) 4 1
@[simp] def Zqh:Fact:=.ok (.cell (.var 0) (.var 4) 4 1)
@[simp] def Zm6:Fact:=.ok (.len (.var 0))
@[simp] def Zom:Fact:=.is zLhq3 (.bool true)
theorem pre:segTo Try.prog fil.noOrc 10000 (flH.take 2) shH [] shA []=some (.normal,[.ok (.var 1),.ok (.var 2),.ok (.var 3),.ok (.con (.int .i64 0))],[.var 0,.var 1,.var 2,.var 3,.con (.int .i64 0)]):=by kernel_rfl
theorem ex:segTo Try.prog fil.noOrc 10000 lpH shA [0] shA []=some (.exit 0,[Zm6,.ok zLhq3,.is zLhq3 (.bool false),.ok (.var 1),.ok (.var 2),.ok (.var 3),.ok (.var 4)],[.var 0,.var 1,.var 2,.var 3,.var 4]):=by kernel_rfl
theorem l0:segTo Try.prog fil.noOrc 10000 lpH shA [1,0] shA []=some (.normal,[Zm6,.ok zLhq3,Zom,zLhq4,zLhq9,zLhq7,.ok zLhq1,.is zLhq1 (.bool false),.ok zLhq2,.ok (.var 1),.ok (.var 2),.ok (.var 3),.ok zLhq2],zLhq8):=by kernel_rfl
theorem l10:segTo Try.prog fil.noOrc 10000 lpH shA [1,1,0] shA []=some (.normal,[Zm6,.ok zLhq3,Zom,zLhq4,zLhq9,zLhq7,.ok zLhq1,.is zLhq1 (.bool true),zLhq4,.idx (.var 0) (.var 4) 4 2,Zqh,.ok zLhq5,.is zLhq5 (.bool false),.ok zLhq2,.ok (.var 1),.ok (.var 2),.ok (.var 3),.ok zLhq2],zLhq8):=by kernel_rfl
theorem l110:segTo Try.prog fil.noOrc 10000 lpH shA [1,1,1,0] shA []=some (.normal,[Zm6,.ok zLhq3,Zom,zLhq4,zLhq9,zLhq7,.ok zLhq1,.is zLhq1 (.bool true),zLhq4,.idx (.var 0) (.var 4) 4 2,Zqh,.ok zLhq5,.is zLhq5 (.bool true),zLhq4,zLhq4,.ok (.cell (.var 0) (.var 4) 4 3),.ok zLhq6,.is zLhq6 (.bool false),.ok zLhq2,.ok (.var 1),.ok (.var 2),.ok (.var 3),.ok zLhq2],zLhq8):=by kernel_rfl
theorem l111:segTo Try.prog fil.noOrc 10000 lpH shA [1,1,1,1] shR []=some (.ret,[Zm6,.ok zLhq3,Zom,zLhq4,zLhq9,zLhq7,.ok zLhq1,.is zLhq1 (.bool true),zLhq4,.idx (.var 0) (.var 4) 4 2,Zqh,.ok zLhq5,.is zLhq5 (.bool true),zLhq4,zLhq4,.ok (.cell (.var 0) (.var 4) 4 3),.ok zLhq6,.is zLhq6 (.bool true),zLhq4,.idx (.var 0) (.var 4) 4 3,.ok (.cell (.var 0) (.var 4) 4 2),.ok (.cell (.var 0) (.var 4) 4 2)],[.cell (.var 0) (.var 4) 4 2]):=by kernel_rfl
theorem post:segTo Try.prog fil.noOrc 10000 (flH.drop 3) shA [] shR []=some (.ret,[.ok (.con (.int .i64 0))],[.con (.int .i64 0)]):=by kernel_rfl
@[simp] theorem kHq (k:Nat):(EHq k).k=k:=rfl
def isH (now c f:Int) (x:LeM):Bool:=x.1 == c && (x.2.1 == f && decide (now < x.2.2.2))
def holdQ (l:List LeM) (now c f:Int):Int:=match l.find? (isH now c f) with | some x=>x.2.2.1 | none=>0
def RHq (ps qs:List PV):Prop:=∃ (l:List LeM) (now c f:Int),l.length<=1000000/\ps=[pRow encL l,pI now,pI c,pI f]/\qs=[pI (holdQ l now c f)]
theorem fHq:∀ ps q1 q2,RHq ps q1->RHq ps q2->q1=q2:=by
 rintro ps q1 q2 ⟨l,t,c,f,_,rfl,rfl⟩ ⟨l',t',c',f',_,h,rfl⟩
 simp only [List.cons.injEq,PV.v.injEq,Value.int.injEq,true_and,and_true] at h
 obtain ⟨h,rfl,rfl,rfl⟩:=h
 rw [fil.pRow_inj Zar h]
theorem cutH:flH=flH.take 2++.block (Zaf (nth flH 2)) (.loop (Zah (nth flH 2))) :: flH.drop 3:=by kernel_rfl
set_option maxHeartbeats 4000000 in
theorem toldHq (k:Nat):ToldF 22 (EHq k) (spec RHq):=by
 refine Zcy (fun _ _=>none) _ (Za1 Try.prog 22) Try.func22 (by kernel_rfl) shH (by kernel_rfl) ?_ ?_
 ·intro ps qs h
  obtain ⟨l,t,c,f,_,rfl,rfl⟩:=Zal h
  exact Zb3 rfl
 ·intro C ps qs hF h a w hsh
  obtain ⟨l,t,c,f,hl,rfl,rfl⟩:=Zal h
  have hS:∀ x,l.find? (isH t c f)=some x->holdQ l t c f=x.2.2.1:=fun x h=>by simp only [holdQ,h]
  have hN:l.find? (isH t c f)=none->holdQ l t c f=0:=fun h=>by simp only [holdQ,h]
  generalize holdQ l t c f=R at *
  show wpL Try.prog flH _ a w
  rw [cutH]
  refine Zad names_ok mixed_ok fil.noOrc_ok pre hsh ?_ ?_
  ·simp [Base.ev,SX.ev,evs,Value.oneCell',Zac]
  ·intro qs a1 w1 hq h1
   refine ⟨fun _=>?_,fun h=>absurd rfl h⟩
   simp [evs,SX.ev,Zac] at hq
   subst hq
   refine Zas (fun n a w=>∃ i,i<=l.length/\n=l.length - i/\(∀ j (hj:j < l.length),j < i->isH t c f l[j]=false)/\Zag C shA [pRow encL l,pI t,pI c,pI f,pI (i:Int)] a w) ?_ (n:=l.length) ⟨0,by omega,by omega,fun j _ hj=>absurd hj (by omega),h1⟩
   rintro n a w ⟨i,hi,rfl,hb,hin⟩
   show wpL Try.prog lpH _ a w
   rw [<- List.append_nil lpH]
   by_cases hlt:i < l.length
   ·obtain ⟨c0',c1',c2',c3'⟩:=cellL l i hlt
    have ix:=Zan encL l i 4 4 .i64 rfl hlt (by decide)
    have ix1:=Zan encL l i 4 1 .i64 rfl hlt (by decide)
    have ix2:=Zan encL l i 4 2 .i64 rfl hlt (by decide)
    have ix3:=Zan encL l i 4 3 .i64 rfl hlt (by decide)
    have v3:IntKind.i64.wrap ((i:Int)+1)=(i:Int)+1:=wrapI _ (by omega) (by omega)
    have next:isH t c f l[i]=false->∀ j (hj:j < l.length),j < i+1->isH t c f l[j]=false:=fun hp j hj hji=>by
     by_cases hje:j=i
     ·subst hje;exact hp
     ·exact hb j hj (by omega)
    by_cases d1:l[i].1=c
    ·by_cases d2:l[i].2.1=f
     ·by_cases d3:t < l[i].2.2.2
      ·have hp:isH t c f l[i]=true:=by simp [isH,d1,d2,d3]
       have hR:=hS _ (Zjr hlt hp hb)
       subst hR
       refine Zad names_ok mixed_ok fil.noOrc_ok l111 hin ?_ ?_
       ·simp [Zab,Zaa,Base.ev,SX.ev,evs,Value.oneCell',Zac,binPV,c0',c1',c2',c3',ix,ix1,ix2,ix3,v3,hlt,d1,d2,d3]
       ·intro qs a1 w1 hq h1
        exact ⟨nofun,fun _=>.inr (.inr ⟨rfl,.inr rfl,shR,qs,[SX.var 0],h1,by kernel_rfl,by simp [evs,SX.ev,c2'] at hq ⊢;subst hq;rfl⟩)⟩
      ·have hp:isH t c f l[i]=false:=by simp [isH,d1,d2];omega
       refine Zad names_ok mixed_ok fil.noOrc_ok l110 hin ?_ ?_
       ·simp [Zab,Zaa,Base.ev,SX.ev,evs,Value.oneCell',Zac,binPV,c0',c1',c2',c3',ix,ix1,ix2,ix3,v3,hlt,d1,d2,d3]
       ·intro qs a1 w1 hq h1
        refine ⟨fun _=>.inl ⟨rfl,l.length - (i+1),by omega,i+1,by omega,rfl,next hp,?_⟩,fun h=>absurd rfl h⟩
        simp [evs,SX.ev,binPV,v3] at hq
        subst hq
        exact h1
     ·have hp:isH t c f l[i]=false:=by simp [isH,d2]
      refine Zad names_ok mixed_ok fil.noOrc_ok l10 hin ?_ ?_
      ·simp [Zab,Zaa,Base.ev,SX.ev,evs,Value.oneCell',Zac,binPV,c0',c1',c2',c3',ix,ix1,ix2,ix3,v3,hlt,d1,d2]
      ·intro qs a1 w1 hq h1
       refine ⟨fun _=>.inl ⟨rfl,l.length - (i+1),by omega,i+1,by omega,rfl,next hp,?_⟩,fun h=>absurd rfl h⟩
       simp [evs,SX.ev,binPV,v3] at hq
       subst hq
       exact h1
    ·have hp:isH t c f l[i]=false:=by simp [isH,d1]
     refine Zad names_ok mixed_ok fil.noOrc_ok l0 hin ?_ ?_
     ·simp [Zab,Zaa,Base.ev,SX.ev,evs,Value.oneCell',Zac,binPV,c0',c1',c2',c3',ix,ix1,ix2,ix3,v3,hlt,d1]
     ·intro qs a1 w1 hq h1
      refine ⟨fun _=>.inl ⟨rfl,l.length - (i+1),by omega,i+1,by omega,rfl,next hp,?_⟩,fun h=>absurd rfl h⟩
      simp [evs,SX.ev,binPV,v3] at hq
      subst hq
      exact h1
   ·have hie:i=l.length:=by omega
    subst hie
    rw [hN (Zht (fun j hj=>hb j hj hj))] at *
    refine Zad names_ok mixed_ok fil.noOrc_ok ex hin ?_ ?_
    ·simp [Base.ev,SX.ev,evs,Value.oneCell',binPV,Zac]
    ·intro qs a1 w1 hq h1
     refine ⟨nofun,fun _=>.inr (.inl ⟨by rw [show Zaf (nth flH 2)=0 by kernel_rfl];rfl,?_⟩)⟩
     simp [evs,SX.ev] at hq
     subst hq
     rw [<- List.append_nil (flH.drop 3)]
     refine Zad names_ok mixed_ok fil.noOrc_ok post h1 ?_ (fun qs a1 w1 hq h1=>⟨nofun,fun _=>⟨.inr rfl,shR,_,[SX.var 0],h1,by kernel_rfl,by simp [evs,SX.ev] at hq;subst hq;rfl⟩⟩)
     simp [Zab,Zaa,Base.ev,SX.ev,evs,Value.oneCell',Zac]
theorem Zn6 {l:List LeM} (h:MayL l) (t c f:Int):holdQ l t c f=Zhr l t c f:=by
 cases hf:l.find? (isL c f) with
 | none =>
  have h0:l.find? (isH t c f)=none:=by
   rw [List.find?_eq_none] at hf ⊢
   intro x hx h1
   refine hf x hx ?_
   simp [isH] at h1
   simp [isL,h1.1,h1.2.1]
  simp only [holdQ,Zhr,hf,h0]
 | some x =>
  have hx:=List.mem_of_find?_eq_some hf
  have hc:=List.find?_some hf
  simp [isL] at hc
  have hH:Zhr l t c f=if x.2.2.2<=t then 0 else x.2.2.1:=by simp only [Zhr,hf]
  rw [hH]
  cases hg:l.find? (isH t c f) with
  | none =>
   have:=List.find?_eq_none.1 hg x hx
   simp [isH,hc.1,hc.2] at this
   simp only [holdQ,hg]
   rw [if_pos (by omega)]
  | some y =>
   have hy:=List.mem_of_find?_eq_some hg
   have hc':=List.find?_some hg
   simp [isH] at hc'
   have:y=x:=uniqL h hy hx (by rw [hc'.1,hc.1]) (by rw [hc'.2.1,hc.2])
   subst this
   simp only [holdQ,hg]
   rw [if_neg (by omega)]
end Go.Proofs.Ytcaclmdkhffegaa.lhq
end
section
/- The document's Clash, told. -/
namespace Go.Proofs.Ytcaclmdkhffegaa.lcq
open Go Go.RowKit eng SX Fact fil lem lea leb lam lec lhq
set_option linter.unusedVariables false
set_option linter.unusedSimpArgs false
set_option maxRecDepth 1000000
def hCq (_:FuncId) (o:Oper):Option Hint:=match o.op with | .call { callee:=.builtin .append,.. }=>some .own | _=>none
def ECq (k:Nat):FnE:={ k:=k,ins:=[none,none,none,none,none],leaks:=[false,false,false,false,false],outs:=[none],kinds:=[.row] }
def tabC (f:FuncId):Option FnE:=cond (Nat.beq f 22) (some (EHq 1)) none
noncomputable def flC:=flat (Za1 Try.prog 38)
noncomputable def lpC:=flat (Zah (nth flC 3))
def shC:Shape:=⟨[(0,.leaf),(1,.leaf),(2,.leaf),(3,.leaf),(4,.leaf)],[],[some false,none,none,none,none],43,38⟩
def shA:Shape:=⟨[(0,.leaf),(1,.leaf),(2,.leaf),(3,.leaf),(4,.leaf),(11,.nil),(12,.leaf)],[],[some false,none,none,none,none,none],43,38⟩
def shB:Shape:=⟨[(0,.leaf),(1,.leaf),(2,.leaf),(3,.leaf),(4,.leaf),(11,.own 0 6 1),(12,.leaf)],[bint 6],[some false,none,none,none,none,none],43,38⟩
def shRA:Shape:=⟨[(10,.nil)],[],[],43,38⟩
def shRB:Shape:=⟨[(10,.own 0 0 1)],[bint 0],[],43,38⟩
@[simp] def zLcq1:SX:=.fn 1 [.var 0,.var 1,.var 5,.var 3] 0
@[simp] def zLcq2:SX:=.bin .add (.var 5) (.con (.int .i64 1))
@[simp] def zLcq3:SX:=.bin .leq (.var 5) (.con (.int .i64 3))
@[simp] def zLcq4:SX:=.bin .neq zLcq1 (.con (.int .i64 0))
@[simp] def zLcq5:SX:=.bin .neq (.var 5) (.var 2)
@[simp] def zLcq6:Fact:=.fn 22 (EHq 1) [.var 0,.var 1,.var 5,.var 3]
@[simp] def zLcq7:SX:=.bin .eql zLcq1 (.con (.int .i64 2))
@[simp] def zLcq8:SX:=.bin .eql (.var 4) (.con (.int .i64 2))
@[simp] def zLcq9:SX:=rop ROp.cat [.var 6,.lit 1 [.var 5]]
@[simp] def Zj1:Fact:=same (.len (.var 6)) (.len (.var 6))
@[simp] def Zgq:Fact:=.is zLcq3 (.bool true)
@[simp] def Ziz:Fact:=.is zLcq5 (.bool true)
@[simp] def Ziy:SX:=.len (.lit 1 [.var 5])
@[simp] def Zqm:List SX:=[.var 0,.var 1,.var 2,.var 3,.var 4,zLcq2,.var 6]
@[simp] def Zql:List SX:=[.var 0,.var 1,.var 2,.var 3,.var 4,zLcq2]
@[simp] def Zli:Fact:=.is zLcq4 (.bool true)
@[simp] def Zez:Fact:=.ok (.var 1)
@[simp] def Zey:Fact:=.ok (.var 2)
@[simp] def Zex:Fact:=.ok (.var 3)
@[simp] def Zew:Fact:=.ok (.var 4)
@[simp] def zLcq21:List SX:=[.var 0,.var 1,.var 2,.var 3,.var 4,zLcq2,.lit 1 [.var 5]]
@[simp] def Zcl:Fact:=.ok zLcq2
@[simp] def Zo7:Fact:=.is zLcq7 (.bool false)
@[simp] def zLcq24:List SX:=[.var 0,.var 1,.var 2,.var 3,.var 4,zLcq2,zLcq9]
theorem pre:segTo Try.prog (orcFn tabC) 10000 (flC.take 3) shC [] shA [] hCq=some (.normal,[Zez,Zey,Zex,Zew,.ok (.con (.int .i64 1))],[.var 0,.var 1,.var 2,.var 3,.var 4,.con (.int .i64 1)]):=by kernel_rfl
theorem exA:segTo Try.prog (orcFn tabC) 10000 lpC shA [0] shA [] hCq=some (.exit 0,[.ok zLcq3,.is zLcq3 (.bool false),Zez,Zey,Zex,Zew,.ok (.var 5)],[.var 0,.var 1,.var 2,.var 3,.var 4,.var 5]):=by kernel_rfl
theorem exB:segTo Try.prog (orcFn tabC) 10000 lpC shB [0] shB [(0,0)] hCq=some (.exit 0,[.ok zLcq3,.is zLcq3 (.bool false),Zez,Zey,Zex,Zew,.ok (.var 5),Zj1],[.var 0,.var 1,.var 2,.var 3,.var 4,.var 5,.var 6]):=by kernel_rfl
theorem a0:segTo Try.prog (orcFn tabC) 10000 lpC shA [1,0] shA [] hCq=some (.normal,[.ok zLcq3,Zgq,zLcq6,.ok zLcq1,.ok zLcq5,.is zLcq5 (.bool false),Zcl,Zez,Zey,Zex,Zew,Zcl],Zql):=by kernel_rfl
theorem b0:segTo Try.prog (orcFn tabC) 10000 lpC shB [1,0] shB [(0,0)] hCq=some (.normal,[.ok zLcq3,Zgq,zLcq6,.ok zLcq1,.ok zLcq5,.is zLcq5 (.bool false),Zcl,Zez,Zey,Zex,Zew,Zcl,Zj1],Zqm):=by kernel_rfl
theorem a10:segTo Try.prog (orcFn tabC) 10000 lpC shA [1,1,0] shA [] hCq=some (.normal,[.ok zLcq3,Zgq,zLcq6,.ok zLcq1,.ok zLcq5,Ziz,.ok zLcq4,.is zLcq4 (.bool false),Zcl,Zez,Zey,Zex,Zew,Zcl],Zql):=by kernel_rfl
theorem b10:segTo Try.prog (orcFn tabC) 10000 lpC shB [1,1,0] shB [(0,0)] hCq=some (.normal,[.ok zLcq3,Zgq,zLcq6,.ok zLcq1,.ok zLcq5,Ziz,.ok zLcq4,.is zLcq4 (.bool false),Zcl,Zez,Zey,Zex,Zew,Zcl,Zj1],Zqm):=by kernel_rfl
theorem a1100:segTo Try.prog (orcFn tabC) 10000 lpC shA [1,1,1,0,0] shA [] hCq=some (.normal,[.ok zLcq3,Zgq,zLcq6,.ok zLcq1,.ok zLcq5,Ziz,.ok zLcq4,Zli,.ok zLcq7,Zo7,.ok zLcq8,.is zLcq8 (.bool false),Zcl,Zez,Zey,Zex,Zew,Zcl],Zql):=by kernel_rfl
theorem b1100:segTo Try.prog (orcFn tabC) 10000 lpC shB [1,1,1,0,0] shB [(0,0)] hCq=some (.normal,[.ok zLcq3,Zgq,zLcq6,.ok zLcq1,.ok zLcq5,Ziz,.ok zLcq4,Zli,.ok zLcq7,Zo7,.ok zLcq8,.is zLcq8 (.bool false),Zcl,Zez,Zey,Zex,Zew,Zcl,Zj1],Zqm):=by kernel_rfl
theorem a111:segTo Try.prog (orcFn tabC) 10000 lpC shA [1,1,1,1] shB [(2,0)] hCq=some (.normal,[.ok zLcq3,Zgq,zLcq6,.ok zLcq1,.ok zLcq5,Ziz,.ok zLcq4,Zli,.ok zLcq7,.is zLcq7 (.bool true),rng (.con (.int .i64 0)) Ziy,upto Ziy 4294967296,Zcl,Zez,Zey,Zex,Zew,Zcl,same Ziy Ziy],zLcq21):=by kernel_rfl
theorem b111:segTo Try.prog (orcFn tabC) 10000 lpC shB [1,1,1,1] shB [(0,1)] hCq=some (.normal,[.ok zLcq3,Zgq,zLcq6,.ok zLcq1,.ok zLcq5,Ziz,.ok zLcq4,Zli,.ok zLcq7,.is zLcq7 (.bool true),Zj1,upto (.len zLcq9) 4294967296,Zcl,Zez,Zey,Zex,Zew,Zcl,same (.len zLcq9) (.len zLcq9)],zLcq24):=by kernel_rfl
theorem a1101:segTo Try.prog (orcFn tabC) 10000 lpC shA [1,1,1,0,1] shB [(2,0)] hCq=some (.normal,[.ok zLcq3,Zgq,zLcq6,.ok zLcq1,.ok zLcq5,Ziz,.ok zLcq4,Zli,.ok zLcq7,Zo7,.ok zLcq8,.is zLcq8 (.bool true),rng (.con (.int .i64 0)) Ziy,upto Ziy 4294967296,Zcl,Zez,Zey,Zex,Zew,Zcl,same Ziy Ziy],zLcq21):=by kernel_rfl
theorem b1101:segTo Try.prog (orcFn tabC) 10000 lpC shB [1,1,1,0,1] shB [(0,1)] hCq=some (.normal,[.ok zLcq3,Zgq,zLcq6,.ok zLcq1,.ok zLcq5,Ziz,.ok zLcq4,Zli,.ok zLcq7,Zo7,.ok zLcq8,.is zLcq8 (.bool true),Zj1,upto (.len zLcq9) 4294967296,Zcl,Zez,Zey,Zex,Zew,Zcl,same (.len zLcq9) (.len zLcq9)],zLcq24):=by kernel_rfl
theorem postA:segTo Try.prog (orcFn tabC) 10000 (flC.drop 4) shA [] shRA [] hCq=some (.ret,[],[]):=by kernel_rfl
theorem postB:segTo Try.prog (orcFn tabC) 10000 (flC.drop 4) shB [] shRB [(0,0)] hCq=some (.ret,[Zj1],[.var 6]):=by kernel_rfl
@[simp] theorem kCq (k:Nat):(ECq k).k=k:=rfl
noncomputable def F:Fns:=fun k=>match k with | 1=>spec RHq | _=>fun _=>none
theorem F1 {l:List LeM} {t c f:Int} (h:l.length<=1000000):F 1 [pRow encL l,pI t,pI c,pI f]=some [pI (holdQ l t c f)]:=Zam fHq ⟨l,t,c,f,h,rfl,rfl⟩
theorem x1:ToldF 22 (EHq 1) (F 1):=toldHq 1
def isQ (l:List LeM) (t c f m k:Int):Bool:=!(k == c) && (!(holdQ l t k f == 0) && (holdQ l t k f == 2 || m == 2))
def upTo (n:Nat):List Int:=(List.range n).map fun j:Nat=>(j:Int)+1
def Zb1 (l:List LeM) (t c f m:Int) (n:Nat):List Int:=(upTo n).filter (isQ l t c f m)
theorem upTo_len (n:Nat):(upTo n).length=n:=by simp [upTo]
theorem clashQ_len (l:List LeM) (t c f m:Int) (n:Nat):(Zb1 l t c f m n).length<=n:=Nat.le_trans (List.length_filter_le _ _) (by rw [upTo_len];exact Nat.le_refl _)
theorem clashQ_step (l:List LeM) (t c f m:Int) (n:Nat):Zb1 l t c f m (n+1)=Zb1 l t c f m n++(if isQ l t c f m ((n:Int)+1)=true then [(n:Int)+1] else []):=by
 simp only [Zb1,upTo,List.range_succ,List.map_append,List.filter_append,List.map_cons,List.map_nil,List.filter_cons,List.filter_nil]
def RCq (ps qs:List PV):Prop:=∃ (l:List LeM) (t c f m:Int),l.length<=1000000/\ps=[pRow encL l,pI t,pI c,pI f,pI m]/\qs=[pRow encN (Zb1 l t c f m 3)]
theorem fCq:∀ ps q1 q2,RCq ps q1->RCq ps q2->q1=q2:=by
 rintro ps q1 q2 ⟨l,t,c,f,m,_,rfl,rfl⟩ ⟨l',t',c',f',m',_,h,rfl⟩
 simp only [List.cons.injEq,PV.v.injEq,Value.int.injEq,true_and,and_true] at h
 obtain ⟨h,rfl,rfl,rfl,rfl⟩:=h
 rw [fil.pRow_inj Zar h]
theorem cutC:flC=flC.take 3++.block (Zaf (nth flC 3)) (.loop (Zah (nth flC 3))) :: flC.drop 4:=by kernel_rfl
def InC (C:Base) (l:List LeM) (t c f m:Int) (n:Nat) (a:Act) (w:World):Prop :=
 (Zb1 l t c f m n=[]/\Zag C shA [pRow encL l,pI t,pI c,pI f,pI m,pI ((n:Int)+1)] a w) ∨
 Zag C shB [pRow encL l,pI t,pI c,pI f,pI m,pI ((n:Int)+1),pRow encN (Zb1 l t c f m n)] a w
set_option maxHeartbeats 4000000 in
theorem Zp0 (k:Nat):ToldF 38 (ECq k) (spec RCq):=by
 refine Zcy F _ (Za1 Try.prog 38) Try.func38 (by kernel_rfl) shC (by kernel_rfl) ?_ ?_
 ·intro ps qs h
  obtain ⟨l,t,c,f,m,_,rfl,rfl⟩:=Zal h
  exact Zb3 rfl
 ·intro C ps qs hF h a w hsh
  obtain ⟨l,t,c,f,m,hl,rfl,rfl⟩:=Zal h
  show wpL Try.prog flC _ a w
  rw [cutC]
  refine Zad names_ok mixed_ok (Zae _) pre hsh ?_ ?_
  ·simp [Base.ev,SX.ev,evs,Value.oneCell',Zac]
  ·intro qs a1 w1 hq h1
   refine ⟨fun _=>?_,fun h=>absurd rfl h⟩
   simp [evs,SX.ev,Zac] at hq
   subst hq
   refine Zas (fun k a w=>∃ n,n<=3/\k=3 - n/\InC C l t c f m n a w) ?_ (n:=3) ⟨0,by omega,by omega,.inl ⟨by simp [Zb1,upTo],h1⟩⟩
   rintro k a w ⟨n,hi,rfl,hin⟩
   show wpL Try.prog lpC _ a w
   rw [<- List.append_nil lpC]
   have hst:=clashQ_step l t c f m n
   have hal:=clashQ_len l t c f m n
   have hz':((n+1:Nat):Int)+1=(n:Int)+1+1:=by omega
   by_cases hlt:n < 3
   ·obtain ⟨z,hz⟩:∃ z:Int,z=(n:Int)+1:=⟨_,rfl⟩
    have hz3:z<=3:=by omega
    have v3:IntKind.i64.wrap (z+1)=z+1:=wrapI _ (by omega) (by omega)
    have g1:=F1 (t:=t) (c:=z) (f:=f) hl
    have stay:isQ l t c f m z=false->Zb1 l t c f m (n+1)=Zb1 l t c f m n:=fun h=>by rw [hst,<- hz,h];simp
    have more:isQ l t c f m z=true->Zb1 l t c f m (n+1)=Zb1 l t c f m n++[z]:=fun h=>by rw [hst,<- hz,h];simp
    clear hst
    unfold InC at hin ⊢
    rw [<- hz] at hin hz'
    have hq0:isQ l t c f m z=(!(z == c) && (!(holdQ l t z f == 0) && (holdQ l t z f == 2 || m == 2))):=rfl
    generalize holdQ l t z f=H at *
    generalize hacc:Zb1 l t c f m n=acc at *
    have d0:=hz3
    by_cases d1:z=c
    ·subst d1
     have d1:=trivial
     have d2:=trivial
     have d3:=trivial
     have d4:=trivial
     have hn:isQ l t z f m z=false:=by rw [hq0];simp
     rcases hin with ⟨h0,hin⟩ | hin
     ·have hv:=hn
      refine Zad names_ok mixed_ok (Zae _) a0 hin ?_ ?_
      ·simp [Zab,Zaa,Base.ev,SX.ev,evs,Value.oneCell',hF,g1,lcq.x1,Zac,binPV,v3,d0,d1,d2,d3,d4,lenN,Zbh]
       all_goals omega
      ·intro qs a1 w1 hq h1
       refine ⟨fun _=>.inl ⟨rfl,3 - (n+1),by omega,n+1,by omega,rfl,?_⟩,fun h=>absurd rfl h⟩
       simp [evs,SX.ev,binPV,v3] at hq
       subst hq
       exact .inl ⟨by rw [stay hv];exact h0,by rw [hz'];exact h1⟩
     ·have hv:=hn
      refine Zad names_ok mixed_ok (Zae _) b0 hin ?_ ?_
      ·simp [Zab,Zaa,Base.ev,SX.ev,evs,Value.oneCell',hF,g1,lcq.x1,Zac,binPV,v3,d0,d1,d2,d3,d4,lenN,Zcg]
       all_goals omega
      ·intro qs a1 w1 hq h1
       refine ⟨fun _=>.inl ⟨rfl,3 - (n+1),by omega,n+1,by omega,rfl,?_⟩,fun h=>absurd rfl h⟩
       simp [evs,SX.ev,binPV,v3] at hq
       subst hq
       exact .inr (by rw [stay hv,hz'];exact h1)
    by_cases d2:H=0
    ·have d3:=trivial
     have d4:=trivial
     have hn:isQ l t c f m z=false:=by rw [hq0];simp [d2]
     rcases hin with ⟨h0,hin⟩ | hin
     ·have hv:=hn
      refine Zad names_ok mixed_ok (Zae _) a10 hin ?_ ?_
      ·simp [Zab,Zaa,Base.ev,SX.ev,evs,Value.oneCell',hF,g1,lcq.x1,Zac,binPV,v3,d0,d1,d2,d3,d4,lenN,Zbh]
       all_goals omega
      ·intro qs a1 w1 hq h1
       refine ⟨fun _=>.inl ⟨rfl,3 - (n+1),by omega,n+1,by omega,rfl,?_⟩,fun h=>absurd rfl h⟩
       simp [evs,SX.ev,binPV,v3] at hq
       subst hq
       exact .inl ⟨by rw [stay hv];exact h0,by rw [hz'];exact h1⟩
     ·have hv:=hn
      refine Zad names_ok mixed_ok (Zae _) b10 hin ?_ ?_
      ·simp [Zab,Zaa,Base.ev,SX.ev,evs,Value.oneCell',hF,g1,lcq.x1,Zac,binPV,v3,d0,d1,d2,d3,d4,lenN,Zcg]
       all_goals omega
      ·intro qs a1 w1 hq h1
       refine ⟨fun _=>.inl ⟨rfl,3 - (n+1),by omega,n+1,by omega,rfl,?_⟩,fun h=>absurd rfl h⟩
       simp [evs,SX.ev,binPV,v3] at hq
       subst hq
       exact .inr (by rw [stay hv,hz'];exact h1)
    by_cases d3:H=2
    ·have d4:=trivial
     have hn:isQ l t c f m z=true:=by rw [hq0];simp [d1,d2,d3]
     rcases hin with ⟨h0,hin⟩ | hin
     ·have hv:=hn
      refine Zad names_ok mixed_ok (Zae _) a111 hin ?_ ?_
      ·simp [Zab,Zaa,Base.ev,SX.ev,evs,Value.oneCell',hF,g1,lcq.x1,Zac,binPV,v3,d0,d1,d2,d3,d4,lenN,Zbh]
       all_goals omega
      ·intro qs a1 w1 hq h1
       refine ⟨fun _=>.inl ⟨rfl,3 - (n+1),by omega,n+1,by omega,rfl,?_⟩,fun h=>absurd rfl h⟩
       simp [evs,SX.ev,binPV,v3,lenN,Zbh] at hq
       subst hq
       exact .inr (by rw [more hv,h0,hz'];exact h1)
     ·have hv:=hn
      refine Zad names_ok mixed_ok (Zae _) b111 hin ?_ ?_
      ·simp [Zab,Zaa,Base.ev,SX.ev,evs,Value.oneCell',hF,g1,lcq.x1,Zac,binPV,v3,d0,d1,d2,d3,d4,lenN,Zcg]
       all_goals first | omega | exact ⟨⟨acc.length+1,by omega,by omega⟩,acc.length+1,by omega⟩
      ·intro qs a1 w1 hq h1
       refine ⟨fun _=>.inl ⟨rfl,3 - (n+1),by omega,n+1,by omega,rfl,?_⟩,fun h=>absurd rfl h⟩
       simp [evs,SX.ev,binPV,v3,lenN,Zcg] at hq
       subst hq
       exact .inr (by rw [more hv,hz'];exact h1)
    by_cases d4:m=2
    ·have hn:isQ l t c f m z=true:=by rw [hq0];simp [d1,d2,d4]
     rcases hin with ⟨h0,hin⟩ | hin
     ·have hv:=hn
      refine Zad names_ok mixed_ok (Zae _) a1101 hin ?_ ?_
      ·simp [Zab,Zaa,Base.ev,SX.ev,evs,Value.oneCell',hF,g1,lcq.x1,Zac,binPV,v3,d0,d1,d2,d3,d4,lenN,Zbh]
       all_goals omega
      ·intro qs a1 w1 hq h1
       refine ⟨fun _=>.inl ⟨rfl,3 - (n+1),by omega,n+1,by omega,rfl,?_⟩,fun h=>absurd rfl h⟩
       simp [evs,SX.ev,binPV,v3,lenN,Zbh] at hq
       subst hq
       exact .inr (by rw [more hv,h0,hz'];exact h1)
     ·have hv:=hn
      refine Zad names_ok mixed_ok (Zae _) b1101 hin ?_ ?_
      ·simp [Zab,Zaa,Base.ev,SX.ev,evs,Value.oneCell',hF,g1,lcq.x1,Zac,binPV,v3,d0,d1,d2,d3,d4,lenN,Zcg]
       all_goals first | omega | exact ⟨⟨acc.length+1,by omega,by omega⟩,acc.length+1,by omega⟩
      ·intro qs a1 w1 hq h1
       refine ⟨fun _=>.inl ⟨rfl,3 - (n+1),by omega,n+1,by omega,rfl,?_⟩,fun h=>absurd rfl h⟩
       simp [evs,SX.ev,binPV,v3,lenN,Zcg] at hq
       subst hq
       exact .inr (by rw [more hv,hz'];exact h1)
    ·have hn:isQ l t c f m z=false:=by rw [hq0];simp [d3,d4]
     rcases hin with ⟨h0,hin⟩ | hin
     ·have hv:=hn
      refine Zad names_ok mixed_ok (Zae _) a1100 hin ?_ ?_
      ·simp [Zab,Zaa,Base.ev,SX.ev,evs,Value.oneCell',hF,g1,lcq.x1,Zac,binPV,v3,d0,d1,d2,d3,d4,lenN,Zbh]
       all_goals omega
      ·intro qs a1 w1 hq h1
       refine ⟨fun _=>.inl ⟨rfl,3 - (n+1),by omega,n+1,by omega,rfl,?_⟩,fun h=>absurd rfl h⟩
       simp [evs,SX.ev,binPV,v3] at hq
       subst hq
       exact .inl ⟨by rw [stay hv];exact h0,by rw [hz'];exact h1⟩
     ·have hv:=hn
      refine Zad names_ok mixed_ok (Zae _) b1100 hin ?_ ?_
      ·simp [Zab,Zaa,Base.ev,SX.ev,evs,Value.oneCell',hF,g1,lcq.x1,Zac,binPV,v3,d0,d1,d2,d3,d4,lenN,Zcg]
       all_goals omega
      ·intro qs a1 w1 hq h1
       refine ⟨fun _=>.inl ⟨rfl,3 - (n+1),by omega,n+1,by omega,rfl,?_⟩,fun h=>absurd rfl h⟩
       simp [evs,SX.ev,binPV,v3] at hq
       subst hq
       exact .inr (by rw [stay hv,hz'];exact h1)
   ·have hie:n=3:=by omega
    subst hie
    rw [InC] at hin
    rcases hin with ⟨h0,hin⟩ | hin
    ·refine Zad names_ok mixed_ok (Zae _) exA hin ?_ ?_
     ·simp [Base.ev,SX.ev,evs,Value.oneCell',binPV]
     ·intro qs a1 w1 hq h1
      simp [evs,SX.ev] at hq
      subst hq
      refine ⟨nofun,fun _=>.inr (.inl ⟨by rw [show Zaf (nth flC 3)=0 by kernel_rfl];rfl,?_⟩)⟩
      rw [<- List.append_nil (flC.drop 4)]
      refine Zad names_ok mixed_ok (Zae _) postA h1 (by simp) ?_
      intro qs a2 w2 hq h2
      simp [evs] at hq
      subst hq
      refine ⟨nofun,fun _=>⟨.inr rfl,shRA,[],[.lit 0 []],h2,by kernel_rfl,?_⟩⟩
      rw [h0];rfl
    ·refine Zad names_ok mixed_ok (Zae _) exB hin ?_ ?_
     ·simp [Base.ev,SX.ev,evs,Value.oneCell',binPV,lenN]
     ·intro qs a1 w1 hq h1
      simp [evs,SX.ev] at hq
      subst hq
      refine ⟨nofun,fun _=>.inr (.inl ⟨by rw [show Zaf (nth flC 3)=0 by kernel_rfl];rfl,?_⟩)⟩
      rw [<- List.append_nil (flC.drop 4)]
      refine Zad names_ok mixed_ok (Zae _) postB h1 ?_ ?_
      ·simp [Base.ev,SX.ev,evs,Value.oneCell',lenN]
      intro qs a2 w2 hq h2
      simp [evs,SX.ev] at hq
      subst hq
      exact ⟨nofun,fun _=>⟨.inr rfl,shRB,_,[.var 0],h2,by kernel_rfl,by simp [evs,SX.ev]⟩⟩
end Go.Proofs.Ytcaclmdkhffegaa.lcq
end
