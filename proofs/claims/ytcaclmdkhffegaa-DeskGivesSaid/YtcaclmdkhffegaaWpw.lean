/- The document's PutWait, told. -/
import Derived.Test.YtcaclmdkhffegaaWdp
namespace Go.Proofs.Ytcaclmdkhffegaa.wpw
open Go Go.RowKit eng SX Fact fil lem lea wlm wdp
set_option linter.unusedVariables false
set_option linter.unusedSimpArgs false
set_option maxRecDepth 1000000
def hPw (_:FuncId) (o:Oper):Option Hint:=cond (isApp o.op) (some .own) none
def EPw (k:Nat):FnE:={ k:=k,ins:=[none,some 4],leaks:=[true,false,false,false,false],outs:=[none,none],kinds:=[.row,.num] }
def tabW (f:FuncId):Option FnE:=cond (Nat.beq f 59) (some (EDd 1)) none
noncomputable def flW:=flat (Za1 Try.prog 44)
noncomputable def lpW:=flat (Zah (nth flW 2))
def xbox:BoxT:=⟨25,0,false,[.leaf,.leaf,.leaf,.leaf],none,false⟩
def shW:Shape:=⟨[(0,.leaf),(1,.agg 4)],[],[some true,none,none,none,none],53,44⟩
def shA:Shape:=⟨[(0,.leaf),(3,.ptr 0 0 0 0),(6,.leaf)],[xbox],[some true,none,none,none,none,none],53,44⟩
def shR:Shape:=⟨[(4,.own 0 1 4),(5,.leaf)],[bwait 1],[none],53,44⟩
def shQ:Shape:=⟨[(4,.leaf),(5,.leaf)],[],[some true,none],53,44⟩
@[simp] def zWpw1:SX:=.lit 1 [.var 2,.var 3,.var 4,.var 5]
@[simp] def zWpw2:SX:=.fn 1 [.var 0,.var 2] 0
@[simp] def zWpw3:SX:=.bin .eql (.cell (.var 0) (.var 1) 4 0) (.var 2)
@[simp] def zWpw4:SX:=.bin .lss (.var 1) (.len (.var 0))
@[simp] def zWpw5:SX:=.bin .add (.var 1) (.con (.int .i64 1))
@[simp] def zWpw6:SX:=rop ROp.cat [.lit 0 [],.var 0]
@[simp] def zWpw7:SX:=.bin .eql (.cell (.var 0) (.var 1) 4 2) (.var 4)
@[simp] def zWpw8:SX:=.bin .geq (.len zWpw2) (.con (.int .i64 4))
@[simp] def zWpw9:Fact:=.idx (.var 0) (.var 1) 4 4
@[simp] def Zob:SX:=rop ROp.cat [zWpw2,zWpw1]
@[simp] def zWpw11:SX:=rop (ROp.upd 4 0) [zWpw6,.var 1,.var 2,.var 3,.var 4,.var 5]
@[simp] def Zky:SX:=.con (.bool true)
@[simp] def Zqe:Fact:=.ok (.cell (.var 0) (.var 1) 4 0)
@[simp] def Zqd:Fact:=.fn 59 (EDd 1) [.var 0,.var 2]
@[simp] def Zm4:SX:=.con (.int .i64 0)
theorem pre:segTo Try.prog (orcFn tabW) 10000 (flW.take 2) shW [] shA [(1,0)] hPw=some (.normal,[.ok Zm4,.ok (.var 1),.ok (.var 2),.ok (.var 3),.ok (.var 4)],[.var 0,Zm4,.var 1,.var 2,.var 3,.var 4]):=by kernel_rfl
theorem ex:segTo Try.prog (orcFn tabW) 10000 lpW shA [0] shA [(0,0)] hPw=some (.exit 0,[.ok (.len (.var 0)),.ok zWpw4,.is zWpw4 (.bool false),.ok (.var 1),.ok (.var 2),.ok (.var 3),.ok (.var 4),.ok (.var 5)],[.var 0,.var 1,.var 2,.var 3,.var 4,.var 5]):=by kernel_rfl
theorem l0:segTo Try.prog (orcFn tabW) 10000 lpW shA [1,0] shA [(0,0)] hPw=some (.normal,[.ok (.len (.var 0)),.ok zWpw4,.is zWpw4 (.bool true),zWpw9,.idx (.var 0) (.var 1) 4 1,Zqe,.ok zWpw3,.is zWpw3 (.bool false),.ok zWpw5,.ok zWpw5,.ok (.var 2),.ok (.var 3),.ok (.var 4),.ok (.var 5)],[.var 0,zWpw5,.var 2,.var 3,.var 4,.var 5]):=by kernel_rfl
theorem l10:segTo Try.prog (orcFn tabW) 10000 lpW shA [1,1,0] shA [(0,0)] hPw=some (.normal,[.ok (.len (.var 0)),.ok zWpw4,.is zWpw4 (.bool true),zWpw9,.idx (.var 0) (.var 1) 4 1,Zqe,.ok zWpw3,.is zWpw3 (.bool true),zWpw9,.idx (.var 0) (.var 1) 4 3,.ok (.cell (.var 0) (.var 1) 4 2),.ok zWpw7,.is zWpw7 (.bool false),.ok zWpw5,.ok zWpw5,.ok (.var 2),.ok (.var 3),.ok (.var 4),.ok (.var 5)],[.var 0,zWpw5,.var 2,.var 3,.var 4,.var 5]):=by kernel_rfl
theorem l11:segTo Try.prog (orcFn tabW) 10000 lpW shA [1,1,1] shR [(2,2)] hPw=some (.ret,[.ok (.len (.var 0)),.ok zWpw4,.is zWpw4 (.bool true),zWpw9,.idx (.var 0) (.var 1) 4 1,Zqe,.ok zWpw3,.is zWpw3 (.bool true),zWpw9,.idx (.var 0) (.var 1) 4 3,.ok (.cell (.var 0) (.var 1) 4 2),.ok zWpw7,.is zWpw7 (.bool true),cells (.var 0) 4,same (.len (.lit 0 [])) (.len (.lit 0 [])),upto (.len zWpw6) 4294967296,rng (.var 1) (.len zWpw6),.idx zWpw6 (.var 1) 4 4,.ok Zky,same (.len zWpw6) (.len zWpw11)],[Zky,zWpw11]):=by kernel_rfl
theorem pN:segTo Try.prog (orcFn tabW) 10000 (flW.drop 3) shA [0] shR [(3,0)] hPw=some (.ret,[Zqd,.is (.len zWpw2) (.int .i64 0),rng Zm4 (.len zWpw1),upto (.len zWpw1) 4294967296,.ok Zky,same (.len zWpw1) (.len zWpw1)],[Zky,zWpw1]):=by kernel_rfl
theorem pO:segTo Try.prog (orcFn tabW) 10000 (flW.drop 3) shA [1,0] shR [(2,1)] hPw=some (.ret,[Zqd,rng Zm4 (.len zWpw2),.ok zWpw8,.is zWpw8 (.bool false),same (.len zWpw2) (.len zWpw2),upto (.len Zob) 4294967296,.ok Zky,same (.len Zob) (.len Zob)],[Zky,Zob]):=by kernel_rfl
theorem pF:segTo Try.prog (orcFn tabW) 10000 (flW.drop 3) shA [1,1] shQ [] hPw=some (.ret,[Zqd,rng Zm4 (.len zWpw2),.ok zWpw8,.is zWpw8 (.bool true),.ok (.con (.bool false))],[.var 0,.con (.bool false)]):=by kernel_rfl
theorem upd4 (l:List LeM) (i:Nat) (x:LeM) (h:i < l.length):ropPV (.upd 4 0) [pRow encL l,pI (i:Int),pI x.1,pI x.2.1,pI x.2.2.1,pI x.2.2.2]=some (pRow encL (l.set i x)):=r_updE encL l i .i64 x h
noncomputable def F:Fns:=fun k=>match k with | 1=>spec RDd | _=>fun _=>none
theorem F1 {l:List LeM} {c:Int} (h:l.length<=1000000):F 1 [pRow encL l,pI c]=some [pRow encL (dropW l c)]:=Zam fDd ⟨l,c,h,rfl,rfl⟩
theorem x1:ToldF 59 (EDd 1) (F 1):=toldDd 1
@[simp] theorem kDd (k:Nat):(EDd k).k=k:=rfl
@[simp] theorem kPw (k:Nat):(EPw k).k=k:=rfl
def RPw (ps qs:List PV):Prop:=∃ (l:List LeM) (x:LeM),l.length<=999999/\ps=pRow encL l :: p4 x/\qs=[pRow encL (putD l x).1,pB (putD l x).2]
theorem fPw:∀ ps q1 q2,RPw ps q1->RPw ps q2->q1=q2:=by
 rintro ps q1 q2 ⟨l,x,_,rfl,rfl⟩ ⟨l',x',_,h,rfl⟩
 simp only [List.cons.injEq] at h
 obtain ⟨h,h3⟩:=h
 obtain rfl:=fil.pRow_inj Zar h
 obtain rfl:=Zjh h3
 rfl
theorem cutW:flW=flW.take 2++.block (Zaf (nth flW 2)) (.loop (Zah (nth flW 2))) :: flW.drop 3:=by kernel_rfl
set_option maxHeartbeats 4000000 in
theorem toldPw (k:Nat):ToldF 44 (EPw k) (spec RPw):=by
 refine Zcy F _ (Za1 Try.prog 44) Try.func44 (by kernel_rfl) shW (by kernel_rfl) ?_ ?_
 ·intro ps qs h
  obtain ⟨l,x,_,rfl,rfl⟩:=Zal h
  exact Zb3 rfl
 ·intro C ps qs hF h a w hsh
  obtain ⟨l,x,hl,rfl,rfl⟩:=Zal h
  have g1:=F1 (l:=l) (c:=x.1) (by omega)
  have hdl:=Zdn l x.1
  have hup:=fun i h=>upd4 l i x h
  have hone:=one_rowL x
  have hcat:=r_catE encL (dropW l x.1) [x]
  have hpS:∀ k,l.findIdx? (isW x.1 x.2.2.1)=some k->putD l x=(l.set k x,true):=fun k h=>by simp only [putD,h]
  have hpN:l.findIdx? (isW x.1 x.2.2.1)=none->putD l x=if (dropW l x.1).length < 4 then (dropW l x.1++[x],true) else (l,false):=fun h=>by simp only [putD,h]
  obtain ⟨x0,x1',x2,x3⟩:=x
  simp only [p4] at *
  generalize putD l (x0,x1',x2,x3)=P at *
  show wpL Try.prog flW _ a w
  rw [cutW]
  refine Zad names_ok mixed_ok (Zae _) pre hsh ?_ ?_
  ·simp [Base.ev,SX.ev,evs,Value.oneCell',Zac]
  ·intro qs a1' w1 hq h1
   refine ⟨fun _=>?_,fun h=>absurd rfl h⟩
   simp [evs,SX.ev,Zac] at hq
   subst hq
   refine Zas (fun n a w=>∃ i,i<=l.length/\n=l.length - i/\(∀ j (hj:j < l.length),j < i->isW x0 x2 l[j]=false)/\Zag C shA [pRow encL l,pI (i:Int),pI x0,pI x1',pI x2,pI x3] a w) ?_ (n:=l.length) ⟨0,by omega,by omega,fun j _ hj=>absurd hj (by omega),h1⟩
   rintro n a w ⟨i,hi,rfl,hb,hin⟩
   show wpL Try.prog lpW _ a w
   rw [<- List.append_nil lpW]
   by_cases hlt:i < l.length
   ·obtain ⟨c0',c1',c2',c3'⟩:=cellL l i hlt
    have ix:=Zan encL l i 4 4 .i64 rfl hlt (by decide)
    have ix1:=Zan encL l i 4 1 .i64 rfl hlt (by decide)
    have ix3:=Zan encL l i 4 3 .i64 rfl hlt (by decide)
    have v3:IntKind.i64.wrap ((i:Int)+1)=(i:Int)+1:=wrapI _ (by omega) (by omega)
    have next:isW x0 x2 l[i]=false->∀ j (hj:j < l.length),j < i+1->isW x0 x2 l[j]=false:=fun hp j hj hji=>by
     by_cases hje:j=i
     ·subst hje;exact hp
     ·exact hb j hj (by omega)
    by_cases d1:l[i].1=x0
    ·by_cases d2:l[i].2.2.1=x2
     ·have hp:isW x0 x2 l[i]=true:=by simp [isW,d1,d2]
      have hf:l.findIdx? (isW x0 x2)=some i:=by
       rw [List.findIdx?_eq_some_iff_getElem]
       exact ⟨hlt,hp,fun j hj=>by simp [hb j (by omega) hj]⟩
      have hP:=hpS i hf
      subst hP
      have hu:=hup i hlt
      have hcp:=Zgi encL l 4 rfl (by omega)
      have hr0:=r_cat0 encL l
      refine Zad names_ok mixed_ok (Zae _) l11 hin ?_ ?_
      ·simp [Zab,Zaa,Base.ev,SX.ev,evs,Value.oneCell',Zac,binPV,c0',c1',c2',c3',ix,ix1,ix3,v3,hlt,d1,d2,lenL,hr0,hcp,hu]
       exact ⟨⟨0,rfl⟩,by omega⟩
      ·intro qs a1' w1 hq h1
       refine ⟨nofun,fun _=>.inr (.inr ⟨rfl,.inr rfl,shR,qs,[.var 1,.var 0],h1,by kernel_rfl,?_⟩)⟩
       simp [evs,SX.ev,hr0,hu] at hq ⊢
       subst hq
       simp
     ·have hp:isW x0 x2 l[i]=false:=by simp [isW,d2]
      refine Zad names_ok mixed_ok (Zae _) l10 hin ?_ ?_
      ·simp [Zab,Zaa,Base.ev,SX.ev,evs,Value.oneCell',Zac,binPV,c0',c1',c2',c3',ix,ix1,ix3,v3,hlt,d1,d2]
      ·intro qs a1' w1 hq h1
       refine ⟨fun _=>.inl ⟨rfl,l.length - (i+1),by omega,i+1,by omega,rfl,next hp,?_⟩,fun h=>absurd rfl h⟩
       simp [evs,SX.ev,binPV,v3] at hq
       subst hq
       exact h1
    ·have hp:isW x0 x2 l[i]=false:=by simp [isW,d1]
     refine Zad names_ok mixed_ok (Zae _) l0 hin ?_ ?_
     ·simp [Zab,Zaa,Base.ev,SX.ev,evs,Value.oneCell',Zac,binPV,c0',c1',c2',c3',ix,ix1,ix3,v3,hlt,d1]
     ·intro qs a1' w1 hq h1
      refine ⟨fun _=>.inl ⟨rfl,l.length - (i+1),by omega,i+1,by omega,rfl,next hp,?_⟩,fun h=>absurd rfl h⟩
      simp [evs,SX.ev,binPV,v3] at hq
      subst hq
      exact h1
   ·have hie:i=l.length:=by omega
    subst hie
    have hf:l.findIdx? (isW x0 x2)=none:=by
     rw [List.findIdx?_eq_none_iff]
     intro y hy
     obtain ⟨j,hj,rfl⟩:=List.getElem_of_mem hy
     exact hb j hj hj
    have hP:=hpN hf
    refine Zad names_ok mixed_ok (Zae _) ex hin ?_ ?_
    ·simp [Base.ev,SX.ev,evs,Value.oneCell',binPV,lenL]
    ·intro qs a1' w1 hq h1
     refine ⟨nofun,fun _=>.inr (.inl ⟨by rw [show Zaf (nth flW 2)=0 by kernel_rfl];rfl,?_⟩)⟩
     simp [evs,SX.ev] at hq
     subst hq
     rw [<- List.append_nil (flW.drop 3)]
     generalize dropW l x0=D at *
     cases D with
     | nil =>
      rw [if_pos (by simp)] at hP
      subst hP
      refine Zad names_ok mixed_ok (Zae _) pN h1 ?_ ?_
      ·simp [Zab,Zaa,Base.ev,SX.ev,evs,Value.oneCell',hF,g1,wpw.x1,lenL,hone]
      ·intro qs a2 w2 hq h2
       refine ⟨nofun,fun _=>⟨.inr rfl,shR,qs,[.var 1,.var 0],h2,by kernel_rfl,?_⟩⟩
       simp [evs,SX.ev,hone] at hq ⊢
       subst hq
       simp
     | cons z r =>
      have hne:0 < (z :: r).length:=by simp
      generalize z :: r=D at *
      by_cases h4:D.length < 4
      ·rw [if_pos h4] at hP
       subst hP
       refine Zad names_ok mixed_ok (Zae _) pO h1 ?_ ?_
       ·simp [Zab,Zaa,Base.ev,SX.ev,evs,Value.oneCell',hF,g1,wpw.x1,lenL,hone,hcat,binPV]
        all_goals first | omega | exact ⟨hne,by omega,⟨D.length+1,rfl,by omega⟩,D.length+1,rfl⟩
       ·intro qs a2 w2 hq h2
        refine ⟨nofun,fun _=>⟨.inr rfl,shR,qs,[.var 1,.var 0],h2,by kernel_rfl,?_⟩⟩
        simp [evs,SX.ev,hF,g1,hone,hcat] at hq ⊢
        subst hq
        simp
      ·rw [if_neg h4] at hP
       subst hP
       refine Zad names_ok mixed_ok (Zae _) pF h1 ?_ ?_
       ·simp [Zab,Zaa,Base.ev,SX.ev,evs,Value.oneCell',hF,g1,wpw.x1,lenL,hone,hcat,binPV]
        all_goals omega
       ·intro qs a2 w2 hq h2
        refine ⟨nofun,fun _=>⟨.inr rfl,shQ,qs,[.var 0,.var 1],h2,by kernel_rfl,?_⟩⟩
        simp [evs,SX.ev] at hq ⊢
        subst hq
        simp
end Go.Proofs.Ytcaclmdkhffegaa.wpw
