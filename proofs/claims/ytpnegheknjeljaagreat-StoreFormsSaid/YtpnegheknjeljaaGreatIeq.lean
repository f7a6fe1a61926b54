/- Sectors compared (slices.Equal at texts), and each as long as a sector (package image's mustFill): told. -/
import Derived.Test.YtpnegheknjeljaaGreatIdf
namespace Go.Proofs.YtpnegheknjeljaaGreat.ieq
open Go Go.RowKit eng SX Fact fil ima symD idf ise sta
open fileFronts (Zac)
set_option linter.unusedVariables false
set_option linter.unusedSimpArgs false
set_option maxRecDepth 1000000

def ESq (k:Nat):FnE:={ k:=k,ins:=[none,none],leaks:=[false,false],outs:=[none],kinds:=[.truth] }
def EMf (k:Nat):FnE:={ k:=k,ins:=[none],leaks:=[false],outs:=[],kinds:=[] }
def pvMf:Value:=.iface 9 (.string ⟨⟨[105,109,97,103,101,58,32,105,116,32,100,111,101,115,32,110,111,116,32,102,105,108,108,32,97,32,115,101,99,116,111,114]⟩⟩)
noncomputable def flQ:=flat (Zat Tryz.prog 122)
noncomputable def lpQ:=flat (Zaq (nth flQ 4))
def shQ:Shape:=⟨[(0,.leaf),(1,.leaf)],[],[some false,some false],26,122⟩
def shQl:Shape:=⟨[(0,.leaf),(1,.leaf),(12,.leaf),(13,.leaf)],[],[some false,some false,none,none],26,122⟩
def shQR:Shape:=⟨[(4,.leaf)],[],[none],26,122⟩
noncomputable def flM:=flat (Zat Tryz.prog 119)
noncomputable def lpM:=flat (Zaq (nth flM 1))
def shM:Shape:=⟨[(0,.leaf)],[],[some false],15,119⟩
def shMl:Shape:=⟨[(4,.leaf),(5,.leaf),(6,.leaf)],[],[some false,none,none],15,119⟩
def shM0:Shape:=⟨[],[],[],15,119⟩
@[simp] def Zjj:SX:=.bin .neq (.cell (.var 0) (.var 3) 1 0) (.cell (.var 1) (.var 3) 1 0)
@[simp] def Zji:SX:=.bin .neq (.slen (.cell (.var 0) (.var 2) 1 0)) (.con (.int .i64 32))
@[simp] def Zjh:SX:=.bin .neq (.len (.var 0)) (.len (.var 1))
@[simp] def Ze3:SX:=.bin .lss (.var 3) (.var 2)
@[simp] def Ze2:SX:=.bin .lss (.var 2) (.var 1)
@[simp] def Zl1:SX:=.bin .add (.var 3) (.con (.int .i64 1))
@[simp] def Zl0:SX:=.bin .add (.var 2) (.con (.int .i64 1))
theorem Qpre:segTo Tryz.prog fil.noOrc 10000 (flQ.take 4) shQ [0] shQl []=some (.normal,[.ok (.len (.var 0)),.ok (.len (.var 1)),.ok Zjh,.is Zjh (.bool false),.ok (.len (.var 0)),.ok (.len (.var 0)),.ok (.con (.int .i64 0))],[.var 0,.var 1,.len (.var 0),.con (.int .i64 0)]):=by kernel_rfl
theorem Qno:segTo Tryz.prog fil.noOrc 10000 (flQ.take 4) shQ [1] shQR []=some (.ret,[.ok (.len (.var 0)),.ok (.len (.var 1)),.ok Zjh,.is Zjh (.bool true),.ok (.con (.bool false))],[.con (.bool false)]):=by kernel_rfl
theorem Qex:segTo Tryz.prog fil.noOrc 10000 lpQ shQl [0] shQl []=some (.exit 0,[.ok Ze3,.is Ze3 (.bool false),.ok (.var 2),.ok (.var 3)],[.var 0,.var 1,.var 2,.var 3]):=by kernel_rfl
theorem Qgo:segTo Tryz.prog fil.noOrc 10000 lpQ shQl [1,0] shQl []=some (.normal,[.ok Ze3,.is Ze3 (.bool true),.idx (.var 0) (.var 3) 1 1,.idx (.var 0) (.var 3) 1 1,.ok (.cell (.var 0) (.var 3) 1 0),.idx (.var 1) (.var 3) 1 1,.idx (.var 1) (.var 3) 1 1,.ok (.cell (.var 1) (.var 3) 1 0),.ok Zjj,.is Zjj (.bool false),.ok Zl1,.ok (.var 2),.ok Zl1],[.var 0,.var 1,.var 2,Zl1]):=by kernel_rfl
theorem Qne:segTo Tryz.prog fil.noOrc 10000 lpQ shQl [1,1] shQR []=some (.ret,[.ok Ze3,.is Ze3 (.bool true),.idx (.var 0) (.var 3) 1 1,.idx (.var 0) (.var 3) 1 1,.ok (.cell (.var 0) (.var 3) 1 0),.idx (.var 1) (.var 3) 1 1,.idx (.var 1) (.var 3) 1 1,.ok (.cell (.var 1) (.var 3) 1 0),.ok Zjj,.is Zjj (.bool true),.ok (.con (.bool false))],[.con (.bool false)]):=by kernel_rfl
theorem Qpost:segTo Tryz.prog fil.noOrc 10000 (flQ.drop 5) shQl [] shQR []=some (.ret,[.ok (.con (.bool true))],[.con (.bool true)]):=by kernel_rfl
theorem Mpre:segTo Tryz.prog fil.noOrc 10000 (flM.take 1) shM [] shMl []=some (.normal,[.ok (.len (.var 0)),.ok (.len (.var 0)),.ok (.con (.int .i64 0))],[.var 0,.len (.var 0),.con (.int .i64 0)]):=by kernel_rfl
theorem Mex:segTo Tryz.prog fil.noOrc 10000 lpM shMl [0] shM0 []=some (.exit 0,[.ok Ze2,.is Ze2 (.bool false)],[]):=by kernel_rfl
theorem Mon:segTo Tryz.prog fil.noOrc 10000 lpM shMl [1,0] shMl []=some (.normal,[.ok Ze2,.is Ze2 (.bool true),.idx (.var 0) (.var 2) 1 1,.idx (.var 0) (.var 2) 1 1,.ok (.cell (.var 0) (.var 2) 1 0),.ok (.slen (.cell (.var 0) (.var 2) 1 0)),.ok Zji,.is Zji (.bool false),.ok Zl0,.ok (.var 1),.ok Zl0],[.var 0,.var 1,Zl0]):=by kernel_rfl
theorem Mbad:segTo Tryz.prog fil.noOrc 10000 lpM shMl [1,1] shM0 []=some (.panic pvMf,[.ok Ze2,.is Ze2 (.bool true),.idx (.var 0) (.var 2) 1 1,.idx (.var 0) (.var 2) 1 1,.ok (.cell (.var 0) (.var 2) 1 0),.ok (.slen (.cell (.var 0) (.var 2) 1 0)),.ok Zji,.is Zji (.bool true)],[]):=by kernel_rfl

@[simp] theorem kSq (k:Nat):(ESq k).k=k:=rfl
@[simp] theorem kMf (k:Nat):(EMf k).k=k:=rfl
noncomputable def sameL (xs ys:List ByteArray):Bool:=@decide (xs=ys) (Classical.propDecidable _)
theorem sameL_yes {xs ys:List ByteArray} (h:xs=ys):sameL xs ys=true:=by simp [sameL,h]
theorem Zou {xs ys:List ByteArray} (h:¬ xs=ys):sameL xs ys=false:=by simp [sameL,h]
def RSq (ps qs:List PV):Prop:=∃ xs ys:List ByteArray,xs.length<=1000000/\ys.length<=1000000/\ps=[pRow encS xs,pRow encS ys]/\qs=[pB (sameL xs ys)]
theorem fSq:∀ ps q1 q2,RSq ps q1->RSq ps q2->q1=q2:=by
 rintro ps q1 q2 ⟨a,b,_,_,rfl,rfl⟩ ⟨c,d,_,_,h,rfl⟩
 simp only [List.cons.injEq,and_true] at h
 rw [fil.pRow_inj Zg6 h.1,fil.pRow_inj Zg6 h.2]
theorem cutQ:flQ=flQ.take 4++.block (Zbj (nth flQ 4)) (.loop (Zaq (nth flQ 4))) :: flQ.drop 5:=by kernel_rfl
set_option maxHeartbeats 1000000 in
theorem toldSq (k:Nat):ToldF 122 (ESq k) (spec RSq):=by
 refine Zm9 (fun _ _=>none) _ (Zat Tryz.prog 122) Tryz.func122 (by kernel_rfl) shQ (by kernel_rfl) ?_ ?_
 ·intro ps qs h
  obtain ⟨xs,ys,_,_,rfl,rfl⟩:=Zah h
  exact Zc0 rfl
 ·intro C ps qs hF h a w hsh
  obtain ⟨xs,ys,hx,hy,rfl,rfl⟩:=Zah h
  show wpL Tryz.prog flQ _ a w
  rw [cutQ]
  by_cases hl:xs.length=ys.length
  ·have hl':(xs.length:Int)=(ys.length:Int):=by omega
   refine Zae names_ok mixed_ok fil.noOrc_ok Qpre hsh ?_ ?_
   ·simp [Zab,Zaa,Base.ev,SX.ev,evs,Value.oneCell',Zad,binPV,hl']
   intro qs a1 w1 hq h1
   refine ⟨fun _=>?_,fun h=>absurd rfl h⟩
   simp [evs,SX.ev,Zad] at hq
   subst hq
   refine Zds (fun q a w=>∃ i:Nat,i<=xs.length/\q=xs.length - i/\(∀ j (h1:j < xs.length) (h2:j < ys.length),j < i->xs[j]=ys[j])/\Zam C shQl [pRow encS xs,pRow encS ys,pI (xs.length:Int),pI (i:Int)] a w) ?_ (n:=xs.length) ⟨0,by omega,by omega,fun j _ _ h=>absurd h (by omega),h1⟩
   rintro q a w ⟨i,hi,rfl,hb,hin⟩
   show wpL Tryz.prog lpQ _ a w
   rw [<- List.append_nil lpQ]
   by_cases hlt:i < xs.length
   ·have hlt2:i < ys.length:=by omega
    have c0:=cellS xs i hlt
    have d0:=cellS ys i hlt2
    have ix:=Zbi encS xs i 1 1 .i64 rfl hlt (by decide)
    have iy:=Zbi encS ys i 1 1 .i64 rfl hlt2 (by decide)
    have v3:IntKind.i64.wrap ((i:Int)+1)=(i:Int)+1:=wrapI _ (by omega) (by omega)
    by_cases he:xs[i]=ys[i]
    ·have hnx:∀ j (h1:j < xs.length) (h2:j < ys.length),j < i+1->xs[j]=ys[j]:=fun j h1 h2 h3=>by
      by_cases hj:j=i
      ·subst hj;exact he
      ·exact hb j h1 h2 (by omega)
     clear hb
     refine Zae names_ok mixed_ok fil.noOrc_ok Qgo hin ?_ (fun qs a1 w1 hq h1=>⟨fun _=>.inl ⟨rfl,xs.length - (i+1),by omega,i+1,by omega,rfl,hnx,by simp [evs,SX.ev,binPV,v3] at hq;subst hq;exact h1⟩,fun h=>absurd rfl h⟩)
     simp [-Zac,Zab,Zaa,Base.ev,SX.ev,evs,Value.oneCell',binPV,Zad,v3,c0,d0,ix,iy,hlt,he]
    ·have he2:¬ xs[i].toList=ys[i].toList:=fun e=>he (Zqu e)
     have hQ:sameL xs ys=false:=Zou fun h=>he (by subst h;rfl)
     rw [hQ] at *
     clear hb he
     refine Zae names_ok mixed_ok fil.noOrc_ok Qne hin ?_ ?_
     ·simp [-Zac,Zab,Zaa,Base.ev,SX.ev,evs,Value.oneCell',binPV,Zad,v3,c0,d0,ix,iy,hlt,he2]
     ·intro qs a1 w1 hq h1
      exact ⟨nofun,fun _=>.inr (.inr ⟨rfl,.inr rfl,shQR,qs,[SX.var 0],h1,by kernel_rfl,by simp [evs,SX.ev] at hq ⊢;subst hq;rfl⟩)⟩
   ·have hie:i=xs.length:=by omega
    subst hie
    have hQ:sameL xs ys=true:=sameL_yes (List.ext_getElem hl fun j h1 h2=>hb j h1 h2 h1)
    rw [hQ] at *
    refine Zae names_ok mixed_ok fil.noOrc_ok Qex hin ?_ ?_
    ·simp [Zab,Zaa,Base.ev,SX.ev,evs,Value.oneCell',Zad,binPV]
    ·intro qs a1 w1 hq h1
     refine ⟨nofun,fun _=>.inr (.inl ⟨by rw [show Zbj (nth flQ 4)=0 by kernel_rfl];rfl,?_⟩)⟩
     simp [evs,SX.ev] at hq
     subst hq
     rw [<- List.append_nil (flQ.drop 5)]
     refine Zae names_ok mixed_ok fil.noOrc_ok Qpost h1 ?_ (fun qs a1 w1 hq h1=>⟨nofun,fun _=>⟨.inr rfl,shQR,_,[SX.var 0],h1,by kernel_rfl,by simp [evs,SX.ev] at hq;subst hq;rfl⟩⟩)
     simp [Zab,Zaa,Base.ev,SX.ev,evs,Value.oneCell',Zad]
  ·have hl':¬ (xs.length:Int)=(ys.length:Int):=by omega
   have hQ:sameL xs ys=false:=Zou fun h=>hl (by rw [h])
   rw [hQ] at *
   refine Zae names_ok mixed_ok fil.noOrc_ok Qno hsh ?_ ?_
   ·simp [Zab,Zaa,Base.ev,SX.ev,evs,Value.oneCell',Zad,binPV,hl,hl']
   ·intro qs a1 w1 hq h1
    exact ⟨nofun,fun _=>⟨.inr rfl,shQR,_,[SX.var 0],h1,by kernel_rfl,by simp [evs,SX.ev] at hq;subst hq;rfl⟩⟩

def full (l:List ByteArray):Bool:=l.all fun a=>a.size == 32
def RMf (ps qs:List PV):Prop:=∃ l:List ByteArray,l.length<=1000000/\ps=[pRow encS l]/\qs=if full l=true then [pI 0] else [pI 1]
theorem fMf:∀ ps q1 q2,RMf ps q1->RMf ps q2->q1=q2:=by
 rintro ps q1 q2 ⟨l,_,rfl,rfl⟩ ⟨l',_,h,rfl⟩
 simp only [List.cons.injEq,and_true] at h
 rw [fil.pRow_inj Zg6 h]
theorem cutM:flM=flM.take 1++[.block (Zbj (nth flM 1)) (.loop (Zaq (nth flM 1)))]:=by kernel_rfl
set_option maxHeartbeats 1000000 in
theorem toldMf (k0:Nat):ToldX 119 (EMf k0) [pvMf] (spec RMf):=by
 refine Zf4 (fun _ _=>none) _ (Zat Tryz.prog 119) Tryz.func119 (by kernel_rfl) shM (by kernel_rfl) ?_ ?_
 ·intro ps qs h
  obtain ⟨l,_,rfl,rfl⟩:=Zah h
  exact Zc0 rfl
 ·intro C ps qs hF h a w hsh
  obtain ⟨l,hl,rfl,hqs⟩:=Zah h
  show wpL Tryz.prog flM _ a w
  rw [cutM]
  refine Zae names_ok mixed_ok fil.noOrc_ok Mpre hsh ?_ ?_
  ·simp [Zab,Zaa,Base.ev,SX.ev,evs,Value.oneCell',Zad]
  intro qs a1 w1 hq h1
  refine ⟨fun _=>?_,fun h=>absurd rfl h⟩
  simp [evs,SX.ev,Zad] at hq
  subst hq
  refine Zda (fun n a w=>∃ k:Nat,k<=l.length/\n=l.length - k/\(∀ j (hj:j < l.length),j < k->l[j].size=32)/\Zam C shMl [pRow encS l,pI (l.length:Int),pI (k:Int)] a w) ?_ (n:=l.length) ⟨0,by omega,by omega,fun j _ h=>absurd h (by omega),h1⟩
  rintro n a w ⟨k,hk,rfl,hb,hin⟩
  show wpL Tryz.prog lpM _ a w
  rw [<- List.append_nil lpM]
  by_cases hlt:k < l.length
  ·have c0:=cellS l k hlt
   have ix:=Zbi encS l k 1 1 .i64 rfl hlt (by decide)
   have v3:IntKind.i64.wrap ((k:Int)+1)=(k:Int)+1:=wrapI _ (by omega) (by omega)
   by_cases h32:l[k].size=32
   ·have h32':(l[k].size:Int)=32:=by omega
    refine Zae names_ok mixed_ok fil.noOrc_ok Mon hin ?_ (fun qs a1 w1 hq h1=>⟨fun _=>.inl ⟨rfl,l.length - (k+1),by omega,k+1,by omega,rfl,fun j hj hji=>?_,by simp [evs,SX.ev,binPV,v3] at hq;subst hq;exact h1⟩,fun h=>absurd rfl h⟩)
    ·simp [-Zac,Zab,Zaa,Base.ev,SX.ev,evs,Value.oneCell',Zad,binPV,Zbc,v3,hlt,ix,c0,h32']
    ·by_cases hje:j=k
     ·subst hje;exact h32
     ·exact hb j hj (by omega)
   ·have h32':¬ (l[k].size:Int)=32:=by omega
    have hno:full l=false:=by
     cases hf:full l with
     | false=>rfl
     | true=>exact absurd (by simpa using List.all_eq_true.1 hf _ (List.getElem_mem hlt)) h32
    rw [hno,if_neg (by simp)] at hqs
    refine Zae names_ok mixed_ok fil.noOrc_ok Mbad hin ?_ (fun qs a1 w1 hq h1=>⟨nofun,fun _=>.inr (.inr (.inr ⟨_,rfl,.inr ⟨0,_,_,_,hqs,rfl,rfl,h1⟩⟩))⟩)
    simp [-Zac,Zab,Zaa,Base.ev,SX.ev,evs,Value.oneCell',Zad,binPV,Zbc,v3,hlt,ix,c0,h32']
  ·have hie:k=l.length:=by omega
   subst hie
   have hyes:full l=true:=by
    rw [full,List.all_eq_true]
    intro p hp
    obtain ⟨j,hj,rfl⟩:=List.getElem_of_mem hp
    simpa using hb j hj hj
   rw [hyes,if_pos rfl] at hqs
   refine Zae names_ok mixed_ok fil.noOrc_ok Mex hin ?_ (fun qs a1 w1 hq h1=>⟨nofun,fun _=>.inr (.inl ⟨by rw [show Zbj (nth flM 1)=0 by kernel_rfl];rfl,?_⟩)⟩)
   ·simp [Zab,Zaa,Base.ev,SX.ev,evs,Value.oneCell',Zad,binPV]
   show wpL Tryz.prog [] _ a1 w1
   exact .inl ⟨_,hqs,.inl rfl,shM0,_,[],h1,by kernel_rfl,rfl⟩

end Go.Proofs.YtpnegheknjeljaaGreat.ieq
