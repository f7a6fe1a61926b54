/- The document's SameWaits, told. -/
import Derived.Test.YtcaclmdkhffegaaLgr
namespace Go.Proofs.Ytcaclmdkhffegaa.wsw
open Go Go.RowKit eng SX Fact fil lem lea
set_option linter.unusedVariables false
set_option linter.unusedSimpArgs false
set_option maxRecDepth 1000000
def hP (_:FuncId) (_:Oper):Option Hint:=some .parts
def ESw (k:Nat):FnE:={ k:=k,ins:=[none,none],leaks:=[false,false],outs:=[none],kinds:=[.truth] }
noncomputable def flC:=flat (Za1 Try.prog 16)
noncomputable def lpC:=flat (Zah (nth flC 4))
def shC:Shape:=⟨[(0,.leaf),(1,.leaf)],[],[some false,some false],26,16⟩
def shCl:Shape:=⟨[(0,.leaf),(1,.leaf),(5,.leaf)],[],[some false,some false,none],26,16⟩
def shCR:Shape:=⟨[(4,.leaf)],[],[none],26,16⟩
@[simp] def zWsw1:SX:=rop ROp.notB [rop ROp.allB [rop ROp.eqI [.cell (.var 0) (.var 2) 4 0,.cell (.var 1) (.var 2) 4 0],rop ROp.eqI [.cell (.var 0) (.var 2) 4 1,.cell (.var 1) (.var 2) 4 1],rop ROp.eqI [.cell (.var 0) (.var 2) 4 2,.cell (.var 1) (.var 2) 4 2],rop ROp.eqI [.cell (.var 0) (.var 2) 4 3,.cell (.var 1) (.var 2) 4 3]]]
@[simp] def zWsw2:SX:=.bin .lss (.var 2) (.len (.var 0))
@[simp] def zWsw3:SX:=.bin .neq (.len (.var 0)) (.len (.var 1))
@[simp] def zWsw4:SX:=.bin .add (.var 2) (.con (.int .i64 1))
@[simp] def zWsw5:Fact:=.idx (.var 0) (.var 2) 4 4
@[simp] def zWsw6:Fact:=.idx (.var 1) (.var 2) 4 4
@[simp] def zWsw7:Fact:=.ok (.len (.var 0))
theorem Cpre:segTo Try.prog fil.noOrc 10000 (flC.take 4) shC [0] shCl [] hP=some (.normal,[zWsw7,.ok (.len (.var 1)),.ok zWsw3,.is zWsw3 (.bool false),.ok (.con (.int .i64 0))],[.var 0,.var 1,.con (.int .i64 0)]):=by kernel_rfl
theorem Cno:segTo Try.prog fil.noOrc 10000 (flC.take 4) shC [1] shCR [] hP=some (.ret,[zWsw7,.ok (.len (.var 1)),.ok zWsw3,.is zWsw3 (.bool true),.ok (.con (.bool false))],[.con (.bool false)]):=by kernel_rfl
theorem Cex:segTo Try.prog fil.noOrc 10000 lpC shCl [0] shCl [] hP=some (.exit 0,[zWsw7,.ok zWsw2,.is zWsw2 (.bool false),.ok (.var 2)],[.var 0,.var 1,.var 2]):=by kernel_rfl
theorem Cgo:segTo Try.prog fil.noOrc 10000 lpC shCl [1,0] shCl [] hP=some (.normal,[zWsw7,.ok zWsw2,.is zWsw2 (.bool true),zWsw5,zWsw5,.ok (.cell (.var 0) (.var 2) 4 0),.ok (.cell (.var 0) (.var 2) 4 1),.ok (.cell (.var 0) (.var 2) 4 2),.ok (.cell (.var 0) (.var 2) 4 3),zWsw6,zWsw6,.ok (.cell (.var 1) (.var 2) 4 0),.ok (.cell (.var 1) (.var 2) 4 1),.ok (.cell (.var 1) (.var 2) 4 2),.ok (.cell (.var 1) (.var 2) 4 3),.ok zWsw1,.is zWsw1 (.bool false),.ok zWsw4,.ok zWsw4],[.var 0,.var 1,zWsw4]):=by kernel_rfl
theorem Cne:segTo Try.prog fil.noOrc 10000 lpC shCl [1,1] shCR [] hP=some (.ret,[zWsw7,.ok zWsw2,.is zWsw2 (.bool true),zWsw5,zWsw5,.ok (.cell (.var 0) (.var 2) 4 0),.ok (.cell (.var 0) (.var 2) 4 1),.ok (.cell (.var 0) (.var 2) 4 2),.ok (.cell (.var 0) (.var 2) 4 3),zWsw6,zWsw6,.ok (.cell (.var 1) (.var 2) 4 0),.ok (.cell (.var 1) (.var 2) 4 1),.ok (.cell (.var 1) (.var 2) 4 2),.ok (.cell (.var 1) (.var 2) 4 3),.ok zWsw1,.is zWsw1 (.bool true),.ok (.con (.bool false))],[.con (.bool false)]):=by kernel_rfl
theorem Cpost:segTo Try.prog fil.noOrc 10000 (flC.drop 5) shCl [] shCR [] hP=some (.ret,[.ok (.con (.bool true))],[.con (.bool true)]):=by kernel_rfl
@[simp] theorem kSw (k:Nat):(ESw k).k=k:=rfl
def sameX (a b:LeM):Bool:=a.1 == b.1 && (a.2.1 == b.2.1 && (a.2.2.1 == b.2.2.1 && (a.2.2.2 == b.2.2.2 && true)))
theorem sameX_iff {a b:LeM}:sameX a b=true ↔ a=b:=by
 obtain ⟨a0,a1,a2,a3⟩:=a
 obtain ⟨b0,b1,b2,b3⟩:=b
 simp [sameX,Bool.and_eq_true,Prod.mk.injEq]
theorem cmpL (a b:LeM):∃ t1 t2 t3 t4:Bool,ropPV .eqI [pI a.1,pI b.1]=some (pB t1)/\ropPV .eqI [pI a.2.1,pI b.2.1]=some (pB t2)/\ropPV .eqI [pI a.2.2.1,pI b.2.2.1]=some (pB t3)/\ropPV .eqI [pI a.2.2.2,pI b.2.2.2]=some (pB t4)/\ropPV .allB [pB t1,pB t2,pB t3,pB t4]=some (pB (sameX a b)):=⟨_,_,_,_,rfl,rfl,rfl,rfl,rfl⟩
def RSw (ps qs:List PV):Prop:=∃ xs ys:List LeM,xs.length<=1000000/\ys.length<=1000000/\ps=[pRow encL xs,pRow encL ys]/\qs=[pB (decide (xs=ys))]
theorem fSw:∀ ps q1 q2,RSw ps q1->RSw ps q2->q1=q2:=by
 rintro ps q1 q2 ⟨a,b,_,_,rfl,rfl⟩ ⟨a',b',_,_,h,rfl⟩
 simp only [List.cons.injEq,and_true] at h
 rw [fil.pRow_inj Zar h.1,fil.pRow_inj Zar h.2]
theorem cutC:flC=flC.take 4++.block (Zaf (nth flC 4)) (.loop (Zah (nth flC 4))) :: flC.drop 5:=by kernel_rfl
set_option maxHeartbeats 1000000 in
theorem toldSw (k:Nat):ToldF 16 (ESw k) (spec RSw):=by
 refine Zcy (fun _ _=>none) _ (Za1 Try.prog 16) Try.func16 (by kernel_rfl) shC (by kernel_rfl) ?_ ?_
 ·intro ps qs h
  obtain ⟨xs,ys,_,_,rfl,rfl⟩:=Zal h
  exact Zb3 rfl
 ·intro C ps qs hF h a w hsh
  obtain ⟨xs,ys,hx,hy,rfl,rfl⟩:=Zal h
  show wpL Try.prog flC _ a w
  rw [cutC]
  by_cases hl:xs.length=ys.length
  ·have hl':(xs.length:Int)=(ys.length:Int):=by omega
   refine Zad names_ok mixed_ok fil.noOrc_ok Cpre hsh ?_ ?_
   ·simp [Zab,Zaa,Base.ev,SX.ev,evs,Value.oneCell',Zac,binPV,hl']
   intro qs a1 w1 hq h1
   refine ⟨fun _=>?_,fun h=>absurd rfl h⟩
   simp [evs,SX.ev,Zac] at hq
   subst hq
   refine Zas (fun q a w=>∃ i:Nat,i<=xs.length/\q=xs.length - i/\(∀ j (h1:j < xs.length) (h2:j < ys.length),j < i->xs[j]=ys[j])/\Zag C shCl [pRow encL xs,pRow encL ys,pI (i:Int)] a w) ?_ (n:=xs.length) ⟨0,by omega,by omega,fun j _ _ h=>absurd h (by omega),h1⟩
   rintro q a w ⟨i,hi,rfl,hb,hin⟩
   show wpL Try.prog lpC _ a w
   rw [<- List.append_nil lpC]
   by_cases hlt:i < xs.length
   ·have hlt2:i < ys.length:=by omega
    obtain ⟨c0,c1,c2,c3⟩:=cellL xs i hlt
    obtain ⟨d0,d1,d2,d3⟩:=cellL ys i hlt2
    have ix:=Zan encL xs i 4 4 .i64 rfl hlt (by decide)
    have iy:=Zan encL ys i 4 4 .i64 rfl hlt2 (by decide)
    have v3:IntKind.i64.wrap ((i:Int)+1)=(i:Int)+1:=wrapI _ (by omega) (by omega)
    obtain ⟨t1,t2,t3,t4,r1,r2,r3,r4,ra⟩:=cmpL xs[i] ys[i]
    by_cases he:xs[i]=ys[i]
    ·rw [sameX_iff.2 he] at ra
     have rn:ropPV .notB [pB true]=some (pB false):=rfl
     have hnx:∀ j (h1:j < xs.length) (h2:j < ys.length),j < i+1->xs[j]=ys[j]:=fun j h1 h2 h3=>by
      by_cases hj:j=i
      ·subst hj;exact he
      ·exact hb j h1 h2 (by omega)
     clear hb he
     generalize xs[i]=xb at *
     generalize ys[i]=yb at *
     refine Zad names_ok mixed_ok fil.noOrc_ok Cgo hin ?_ (fun qs a1 w1 hq h1=>⟨fun _=>.inl ⟨rfl,xs.length - (i+1),by omega,i+1,by omega,rfl,hnx,by simp [evs,SX.ev,binPV,v3] at hq;subst hq;exact h1⟩,fun h=>absurd rfl h⟩)
     simp [Zab,Zaa,Base.ev,SX.ev,evs,Value.oneCell',Zac,binPV,v3,hlt,ix,iy,c0,c1,c2,c3,d0,d1,d2,d3,r1,r2,r3,r4,ra,rn]
    ·have hs:sameX xs[i] ys[i]=false:=by rw [<- Bool.not_eq_true];exact fun h=>he (sameX_iff.1 h)
     rw [hs] at ra
     have rn:ropPV .notB [pB false]=some (pB true):=rfl
     have hQ:decide (xs=ys)=false:=decide_eq_false fun h=>he (by subst h;rfl)
     rw [hQ] at *
     clear hb he hs
     generalize xs[i]=xb at *
     generalize ys[i]=yb at *
     refine Zad names_ok mixed_ok fil.noOrc_ok Cne hin ?_ ?_
     ·simp [Zab,Zaa,Base.ev,SX.ev,evs,Value.oneCell',Zac,binPV,v3,hlt,ix,iy,c0,c1,c2,c3,d0,d1,d2,d3,r1,r2,r3,r4,ra,rn]
     ·intro qs a1 w1 hq h1
      exact ⟨nofun,fun _=>.inr (.inr ⟨rfl,.inr rfl,shCR,qs,[SX.var 0],h1,by kernel_rfl,by simp [evs,SX.ev] at hq ⊢;subst hq;rfl⟩)⟩
   ·have hie:i=xs.length:=by omega
    subst hie
    have hQ:decide (xs=ys)=true:=decide_eq_true (List.ext_getElem hl fun j h1 h2=>hb j h1 h2 h1)
    rw [hQ] at *
    refine Zad names_ok mixed_ok fil.noOrc_ok Cex hin ?_ ?_
    ·simp [Zab,Zaa,Base.ev,SX.ev,evs,Value.oneCell',Zac,binPV]
    ·intro qs a1 w1 hq h1
     refine ⟨nofun,fun _=>.inr (.inl ⟨by rw [show Zaf (nth flC 4)=0 by kernel_rfl];rfl,?_⟩)⟩
     simp [evs,SX.ev] at hq
     subst hq
     rw [<- List.append_nil (flC.drop 5)]
     refine Zad names_ok mixed_ok fil.noOrc_ok Cpost h1 ?_ (fun qs a1 w1 hq h1=>⟨nofun,fun _=>⟨.inr rfl,shCR,_,[SX.var 0],h1,by kernel_rfl,by simp [evs,SX.ev] at hq;subst hq;rfl⟩⟩)
     simp [Zab,Zaa,Base.ev,SX.ev,evs,Value.oneCell',Zac]
  ·have hl':¬ (xs.length:Int)=(ys.length:Int):=by omega
   have hQ:decide (xs=ys)=false:=decide_eq_false fun h=>hl (by rw [h])
   rw [hQ] at *
   refine Zad names_ok mixed_ok fil.noOrc_ok Cno hsh ?_ ?_
   ·simp [Zab,Zaa,Base.ev,SX.ev,evs,Value.oneCell',Zac,binPV,hl,hl']
   ·intro qs a1 w1 hq h1
    exact ⟨nofun,fun _=>⟨.inr rfl,shCR,_,[SX.var 0],h1,by kernel_rfl,by simp [evs,SX.ev] at hq;subst hq;rfl⟩⟩

end Go.Proofs.Ytcaclmdkhffegaa.wsw
