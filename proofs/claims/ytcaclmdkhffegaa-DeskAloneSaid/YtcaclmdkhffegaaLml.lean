/- The document's MayLeases, told. -/
import Derived.Test.YtcaclmdkhffegaaDkn
namespace Go.Proofs.Ytcaclmdkhffegaa.lml
open Go Go.RowKit eng SX Fact fil lem lea lam
set_option linter.unusedVariables false
set_option linter.unusedSimpArgs false
set_option maxRecDepth 1000000
def EMq (k:Nat):FnE:={ k:=k,ins:=[none],leaks:=[false],outs:=[none],kinds:=[.truth] }
noncomputable def flQ:=flat (Zaw Try.prog 23)
noncomputable def lpQ:=flat (Zai (nth flQ 2))
def shQ:Shape:=⟨[(0,.leaf)],[],[some false],83,23⟩
def shQl:Shape:=⟨[(0,.leaf),(3,.leaf)],[],[some false,none],83,23⟩
def shQR:Shape:=⟨[(2,.leaf)],[],[none],83,23⟩
@[simp] def zLml1:SX:=.bin .sub (.var 1) (.con (.int .i64 1))
@[simp] def zLml2:SX:=.cell (.var 0) (.var 1) 4 1
@[simp] def zLml3:SX:=.cell (.var 0) (.var 1) 4 0
@[simp] def zLml4:SX:=.con (.int .i64 1)
@[simp] def zLml5:SX:=.bin .lss (.cell (.var 0) (.var 1) 4 3) (.con (.int .i64 0))
@[simp] def zLml6:SX:=.cell (.var 0) (.var 1) 4 2
@[simp] def zLml7:SX:=.cell (.var 0) zLml1 4 1
@[simp] def zLml8:SX:=.bin .lss (.var 1) (.len (.var 0))
@[simp] def zLml9:SX:=.bin .gtr (.var 1) (.con (.int .i64 0))
@[simp] def Zk1:SX:=.bin .gtr zLml3 (.con (.int .i64 3))
@[simp] def Zk0:SX:=.bin .gtr zLml2 (.con (.int .i64 6))
@[simp] def Ze9:SX:=.bin .add (.var 1) zLml4
@[simp] def Zfw:Fact:=.idx (.var 0) (.var 1) 4 4
@[simp] def Zmr:Fact:=.is (.bin .lss zLml3 zLml4) (.bool false)
@[simp] def Zmq:Fact:=.is (.bin .lss zLml2 zLml4) (.bool false)
@[simp] def Zfv:SX:=.bin .neq zLml6 zLml4
@[simp] def Zhd:Fact:=.idx (.var 0) zLml1 4 4
@[simp] def Zmp:SX:=.bin .neq zLml6 (.con (.int .i64 2))
@[simp] def Zmo:Fact:=.ok (.cell (.var 0) (.var 1) 4 3)
@[simp] def Zjt:Fact:=.idx (.var 0) zLml1 4 2
@[simp] def Zqv:SX:=.bin .geq (.cell (.var 0) zLml1 4 0) zLml3
@[simp] def Zmn:Fact:=.ok (.bin .lss zLml3 zLml4)
@[simp] def Zmm:Fact:=.ok (.bin .lss zLml2 zLml4)
@[simp] def Zo8:SX:=.bin .gtr zLml7 zLml2
@[simp] def Zjs:SX:=.bin .eql zLml7 zLml2
@[simp] def Zml:Fact:=.is Zk1 (.bool false)
@[simp] def Zmk:Fact:=.is Zk0 (.bool false)
@[simp] def Zmj:Fact:=.is zLml5 (.bool false)
@[simp] def Zmi:Fact:=.is zLml8 (.bool true)
@[simp] def Zkz:Fact:=.ok (.len (.var 0))
@[simp] def Zqu:Fact:=.is Zo8 (.bool false)
@[simp] def Zmh:List SX:=[.var 0,Ze9]
@[simp] def Zqt:Fact:=.is zLml9 (.bool true)
theorem preQ:segTo Try.prog fil.noOrc 10000 (flQ.take 2) shQ [] shQl []=some (.normal,[.ok (.con (.int .i64 0))],[.var 0,.con (.int .i64 0)]):=by kernel_rfl
theorem exQ:segTo Try.prog fil.noOrc 10000 lpQ shQl [0] shQl []=some (.exit 0,[Zkz,.ok zLml8,.is zLml8 (.bool false),.ok (.var 1)],[.var 0,.var 1]):=by kernel_rfl
theorem m1F:segTo Try.prog fil.noOrc 10000 lpQ shQl [1,0,0,0,0,0,0,0] shQl []=some (.normal,[Zkz,.ok zLml8,Zmi,Zfw,Zfw,.ok zLml3,.ok zLml2,.ok zLml6,Zmo,Zmn,Zmr,.ok Zk1,Zml,Zmm,Zmq,.ok Zk0,Zmk,.ok Zfv,.is Zfv (.bool false),.ok zLml5,Zmj,.ok zLml9,.is zLml9 (.bool false),.ok Ze9,.ok Ze9],Zmh):=by kernel_rfl
theorem m1L:segTo Try.prog fil.noOrc 10000 lpQ shQl [1,0,0,0,0,0,0,1,0,0] shQl []=some (.normal,[Zkz,.ok zLml8,Zmi,Zfw,Zfw,.ok zLml3,.ok zLml2,.ok zLml6,Zmo,Zmn,Zmr,.ok Zk1,Zml,Zmm,Zmq,.ok Zk0,Zmk,.ok Zfv,.is Zfv (.bool false),.ok zLml5,Zmj,.ok zLml9,Zqt,.ok zLml1,Zhd,Zjt,.ok zLml7,.ok Zo8,Zqu,.ok zLml1,Zhd,Zjt,.ok zLml7,.ok Zjs,.is Zjs (.bool false),.ok Ze9,.ok Ze9],Zmh):=by kernel_rfl
theorem m1E:segTo Try.prog fil.noOrc 10000 lpQ shQl [1,0,0,0,0,0,0,1,0,1,0] shQl []=some (.normal,[Zkz,.ok zLml8,Zmi,Zfw,Zfw,.ok zLml3,.ok zLml2,.ok zLml6,Zmo,Zmn,Zmr,.ok Zk1,Zml,Zmm,Zmq,.ok Zk0,Zmk,.ok Zfv,.is Zfv (.bool false),.ok zLml5,Zmj,.ok zLml9,Zqt,.ok zLml1,Zhd,Zjt,.ok zLml7,.ok Zo8,Zqu,.ok zLml1,Zhd,Zjt,.ok zLml7,.ok Zjs,.is Zjs (.bool true),.ok zLml1,Zhd,.idx (.var 0) zLml1 4 1,.ok (.cell (.var 0) zLml1 4 0),.ok Zqv,.is Zqv (.bool false),.ok Ze9,.ok Ze9],Zmh):=by kernel_rfl
theorem m2F:segTo Try.prog fil.noOrc 10000 lpQ shQl [1,0,0,0,0,1,0,0,0] shQl []=some (.normal,[Zkz,.ok zLml8,Zmi,Zfw,Zfw,.ok zLml3,.ok zLml2,.ok zLml6,Zmo,Zmn,Zmr,.ok Zk1,Zml,Zmm,Zmq,.ok Zk0,Zmk,.ok Zfv,.is Zfv (.bool true),.ok Zmp,.is Zmp (.bool false),.ok zLml5,Zmj,.ok zLml9,.is zLml9 (.bool false),.ok Ze9,.ok Ze9],Zmh):=by kernel_rfl
theorem m2L:segTo Try.prog fil.noOrc 10000 lpQ shQl [1,0,0,0,0,1,0,0,1,0,0] shQl []=some (.normal,[Zkz,.ok zLml8,Zmi,Zfw,Zfw,.ok zLml3,.ok zLml2,.ok zLml6,Zmo,Zmn,Zmr,.ok Zk1,Zml,Zmm,Zmq,.ok Zk0,Zmk,.ok Zfv,.is Zfv (.bool true),.ok Zmp,.is Zmp (.bool false),.ok zLml5,Zmj,.ok zLml9,Zqt,.ok zLml1,Zhd,Zjt,.ok zLml7,.ok Zo8,Zqu,.ok zLml1,Zhd,Zjt,.ok zLml7,.ok Zjs,.is Zjs (.bool false),.ok Ze9,.ok Ze9],Zmh):=by kernel_rfl
theorem m2E:segTo Try.prog fil.noOrc 10000 lpQ shQl [1,0,0,0,0,1,0,0,1,0,1,0] shQl []=some (.normal,[Zkz,.ok zLml8,Zmi,Zfw,Zfw,.ok zLml3,.ok zLml2,.ok zLml6,Zmo,Zmn,Zmr,.ok Zk1,Zml,Zmm,Zmq,.ok Zk0,Zmk,.ok Zfv,.is Zfv (.bool true),.ok Zmp,.is Zmp (.bool false),.ok zLml5,Zmj,.ok zLml9,Zqt,.ok zLml1,Zhd,Zjt,.ok zLml7,.ok Zo8,Zqu,.ok zLml1,Zhd,Zjt,.ok zLml7,.ok Zjs,.is Zjs (.bool true),.ok zLml1,Zhd,.idx (.var 0) zLml1 4 1,.ok (.cell (.var 0) zLml1 4 0),.ok Zqv,.is Zqv (.bool false),.ok Ze9,.ok Ze9],Zmh):=by kernel_rfl
theorem postQ:segTo Try.prog fil.noOrc 10000 (flQ.drop 3) shQl [] shQR []=some (.ret,[.ok (.con (.bool true))],[.con (.bool true)]):=by kernel_rfl
@[simp] theorem kMq (k:Nat):(EMq k).k=k:=rfl
def RMq (ps qs:List PV):Prop:=∃ l:List LeM,MayL l/\l.length<=1000000/\ps=[pRow encL l]/\qs=[pB true]
theorem fMq:∀ ps q1 q2,RMq ps q1->RMq ps q2->q1=q2:=by
 rintro ps q1 q2 ⟨l,_,_,rfl,rfl⟩ ⟨l',_,_,h,rfl⟩;rfl
theorem cutQ:flQ=flQ.take 2++.block (Zah (nth flQ 2)) (.loop (Zai (nth flQ 2))) :: flQ.drop 3:=by kernel_rfl
set_option maxHeartbeats 2000000 in
theorem toldMq (k:Nat):ToldF 23 (EMq k) (spec RMq):=by
 refine Zca (fun _ _=>none) _ (Zaw Try.prog 23) Try.func23 (by kernel_rfl) shQ (by kernel_rfl) ?_ ?_
 ·intro ps qs h
  obtain ⟨l,_,_,rfl,rfl⟩:=Zak h
  exact Zbp rfl
 ·intro C ps qs hF h a w hsh
  obtain ⟨l,hm,hl,rfl,rfl⟩:=Zak h
  obtain ⟨_,hok,hpw⟩:=Zhq.1 hm
  show wpL Try.prog flQ _ a w
  rw [cutQ]
  refine Zad names_ok mixed_ok fil.noOrc_ok preQ hsh ?_ ?_
  ·simp [Base.ev,SX.ev,evs,Value.oneCell',Zac]
  intro qs a1 w1 hq h1
  refine ⟨fun _=>?_,fun h=>absurd rfl h⟩
  simp [evs,SX.ev] at hq
  subst hq
  refine Zap (fun n a w=>∃ i,i<=l.length/\n=l.length - i/\Zaf C shQl [pRow encL l,pI (i:Int)] a w) ?_ (n:=l.length) ⟨0,by omega,by omega,h1⟩
  rintro n a w ⟨i,hi,rfl,hin⟩
  show wpL Try.prog lpQ _ a w
  rw [<- List.append_nil lpQ]
  by_cases hlt:i < l.length
  ·obtain ⟨c0',c1',c2',c3'⟩:=cellL l i hlt
   have ix:=Zal encL l i 4 4 .i64 rfl hlt (by decide)
   have v3:IntKind.i64.wrap ((i:Int)+1)=(i:Int)+1:=wrapI _ (by omega) (by omega)
   obtain ⟨o1,o2,o3,o4,o5,o6,o7,o8⟩:=hok l[i] (List.getElem_mem hlt)
   have n1:¬ l[i].1 < 1:=by omega
   have n2:¬ 3 < l[i].1:=by omega
   have n3:¬ l[i].2.1 < 1:=by omega
   have n4:¬ 6 < l[i].2.1:=by omega
   have n5:¬ l[i].2.2.2 < 0:=by omega
   have hmd:l[i].2.2.1=1 \/ l[i].2.2.1=2:=by omega
   have next:∀ qs a w,some [pRow encL l,pI ((i:Int)+1)]=some qs->Zaf C shQl qs a w->∃ n',n' < l.length - i/\∃ i,i<=l.length/\n'=l.length - i/\Zaf C shQl [pRow encL l,pI (i:Int)] a w:=by
    rintro qs a w h hs
    cases h
    exact ⟨l.length - (i+1),by omega,i+1,by omega,rfl,hs⟩
   by_cases h0:i=0
   ·have hz:¬ 0 < i:=by omega
    rcases hmd with hm | hm
    ·refine Zad names_ok mixed_ok fil.noOrc_ok m1F hin ?_ (fun qs a1 w1 hq h1=>⟨fun _=>.inl ⟨rfl,next qs a1 w1 (by simpa [evs,SX.ev,binPV,v3] using hq) h1⟩,fun h=>absurd rfl h⟩)
     simp [Zab,Zaa,Base.ev,SX.ev,evs,Value.oneCell',Zac,binPV,c0',c1',c2',c3',ix,v3,hlt,hz,n1,n2,n3,n4,n5,hm]
    ·refine Zad names_ok mixed_ok fil.noOrc_ok m2F hin ?_ (fun qs a1 w1 hq h1=>⟨fun _=>.inl ⟨rfl,next qs a1 w1 (by simpa [evs,SX.ev,binPV,v3] using hq) h1⟩,fun h=>absurd rfl h⟩)
     simp [Zab,Zaa,Base.ev,SX.ev,evs,Value.oneCell',Zac,binPV,c0',c1',c2',c3',ix,v3,hlt,hz,n1,n2,n3,n4,n5,hm]
   ·obtain ⟨j,rfl⟩:∃ j,i=j+1:=⟨i - 1,by omega⟩
    have hj:j < l.length:=by omega
    obtain ⟨d0',d1',d2',d3'⟩:=cellL l j hj
    have hlt2:ltL l[j] l[j+1]:=List.pairwise_iff_getElem.1 hpw j (j+1) hj hlt (by omega)
    have ex:(((j+1:Nat):Int))=(j:Int)+1:=by omega
    rw [ex] at hin v3 ix c0' c1' c2' c3'
    have vj:IntKind.i64.wrap (j:Int)=(j:Int):=wrapI _ (by omega) (by omega)
    have ix1:=Zal encL l j 4 1 .i64 rfl hj (by decide)
    have ix2:=Zal encL l j 4 2 .i64 rfl hj (by decide)
    have ix4:=Zal encL l j 4 4 .i64 rfl hj (by decide)
    have hlt':(j:Int)+1 < (l.length:Int):=by omega
    have hj0:(0:Int) < (j:Int)+1:=by omega
    have next2:∀ qs a w,some [pRow encL l,pI ((j:Int)+1+1)]=some qs->Zaf C shQl qs a w->∃ n',n' < l.length - (j+1)/\∃ i,i<=l.length/\n'=l.length - i/\Zaf C shQl [pRow encL l,pI (i:Int)] a w:=fun qs a w h hs=>next qs a w (by rw [ex];exact h) hs
    clear next
    generalize l[j]=y at *
    generalize l[j+1]=x at *
    rcases hlt2 with hlt2 | ⟨heq,hlt2⟩
    ·have g1:¬ x.2.1 < y.2.1:=by omega
     have g2:¬ y.2.1=x.2.1:=by omega
     rcases hmd with hm | hm
     ·refine Zad names_ok mixed_ok fil.noOrc_ok m1L hin ?_ (fun qs a1 w1 hq h1=>⟨fun _=>.inl ⟨rfl,next2 qs a1 w1 (by simpa [evs,SX.ev,binPV,v3] using hq) h1⟩,fun h=>absurd rfl h⟩)
      simp [Zab,Zaa,Base.ev,SX.ev,evs,Value.oneCell',Zac,binPV,c0',c1',c2',c3',d0',d1',ix,ix1,ix2,ix4,v3,vj,hlt',hj0,n1,n2,n3,n4,n5,hm,g1,g2]
     ·refine Zad names_ok mixed_ok fil.noOrc_ok m2L hin ?_ (fun qs a1 w1 hq h1=>⟨fun _=>.inl ⟨rfl,next2 qs a1 w1 (by simpa [evs,SX.ev,binPV,v3] using hq) h1⟩,fun h=>absurd rfl h⟩)
      simp [Zab,Zaa,Base.ev,SX.ev,evs,Value.oneCell',Zac,binPV,c0',c1',c2',c3',d0',d1',ix,ix1,ix2,ix4,v3,vj,hlt',hj0,n1,n2,n3,n4,n5,hm,g1,g2]
    ·have g1:¬ x.2.1 < y.2.1:=by omega
     have g3:¬ x.1<=y.1:=by omega
     rcases hmd with hm | hm
     ·refine Zad names_ok mixed_ok fil.noOrc_ok m1E hin ?_ (fun qs a1 w1 hq h1=>⟨fun _=>.inl ⟨rfl,next2 qs a1 w1 (by simpa [evs,SX.ev,binPV,v3] using hq) h1⟩,fun h=>absurd rfl h⟩)
      simp [Zab,Zaa,Base.ev,SX.ev,evs,Value.oneCell',Zac,binPV,c0',c1',c2',c3',d0',d1',ix,ix1,ix2,ix4,v3,vj,hlt',hj0,n1,n2,n3,n4,n5,hm,g1,heq,g3]
     ·refine Zad names_ok mixed_ok fil.noOrc_ok m2E hin ?_ (fun qs a1 w1 hq h1=>⟨fun _=>.inl ⟨rfl,next2 qs a1 w1 (by simpa [evs,SX.ev,binPV,v3] using hq) h1⟩,fun h=>absurd rfl h⟩)
      simp [Zab,Zaa,Base.ev,SX.ev,evs,Value.oneCell',Zac,binPV,c0',c1',c2',c3',d0',d1',ix,ix1,ix2,ix4,v3,vj,hlt',hj0,n1,n2,n3,n4,n5,hm,g1,heq,g3]
  ·have hie:i=l.length:=by omega
   subst hie
   refine Zad names_ok mixed_ok fil.noOrc_ok exQ hin ?_ ?_
   ·simp [Base.ev,SX.ev,evs,Value.oneCell',binPV,Zac]
   ·intro qs a1 w1 hq h1
    refine ⟨nofun,fun _=>.inr (.inl ⟨by rw [show Zah (nth flQ 2)=0 by kernel_rfl];rfl,?_⟩)⟩
    rw [<- List.append_nil (flQ.drop 3)]
    simp [evs,SX.ev] at hq
    subst hq
    refine Zad names_ok mixed_ok fil.noOrc_ok postQ h1 ?_ ?_
    ·simp [Base.ev,SX.ev,evs,Value.oneCell',Zac]
    intro qs a2 w2 hq h2
    refine ⟨nofun,fun _=>⟨.inr rfl,shQR,qs,[SX.var 0],h2,by kernel_rfl,?_⟩⟩
    simp [evs,SX.ev] at hq ⊢
    subst hq
    rfl
end Go.Proofs.Ytcaclmdkhffegaa.lml
