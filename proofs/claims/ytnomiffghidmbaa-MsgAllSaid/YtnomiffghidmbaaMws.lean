/- The document's num, SameWrites, SameAsk, told. -/
import Derived.Test.YtnomiffghidmbaaMrd
import Derived.Test.YtnomiffghidmbaaFroA
namespace Go.Proofs.Ytnomiffghidmbaa.mws
open Go Go.RowKit eng SX Fact fil fileFronts ima msm
set_option linter.unusedVariables false
set_option linter.unusedSimpArgs false
set_option maxRecDepth 1000000
def hPx (_:FuncId) (_:Oper):Option Hint:=some .parts
def ESx (k:Nat):FnE:={ k:=k,ins:=[none,none],leaks:=[false,false],outs:=[none],kinds:=[.truth] }
noncomputable def flX:=flat (Zam Try.prog 43)
noncomputable def lpX:=flat (Zaq (nth flX 4))
def shX:Shape:=⟨[(0,.leaf),(1,.leaf)],[],[some false,some false],26,43⟩
def shXl:Shape:=⟨[(0,.leaf),(1,.leaf),(5,.leaf)],[],[some false,some false,none],26,43⟩
def shXR:Shape:=⟨[(4,.leaf)],[],[none],26,43⟩
def ENu (k:Nat):FnE:={ k:=k,ins:=[none,none],leaks:=[false,false],outs:=[none],kinds:=[.truth] }
def ESa (k:Nat):FnE:={ k:=k,ins:=[some 8,some 8],leaks:=[false,false,false,false,false,false,false,false,false,false,false,false,false,false,false,false],outs:=[none],kinds:=[.truth] }
def tabX (f:FuncId):Option FnE:=cond (Nat.beq f 43) (some (ESx 1)) none
@[simp] def zMws1:SX:=rop ROp.notB [rop ROp.allB [rop ROp.eqI [.cell (.var 0) (.var 2) 2 0,.cell (.var 1) (.var 2) 2 0],rop ROp.eqS [.cell (.var 0) (.var 2) 2 1,.cell (.var 1) (.var 2) 2 1]]]
@[simp] def zMws2:SX:=.bin .eql (.var 0) (.var 8)
@[simp] def zMws3:SX:=.bin .eql (.var 1) (.var 9)
@[simp] def zMws4:SX:=.bin .eql (.var 2) (.var 10)
@[simp] def zMws5:SX:=.bin .eql (.var 3) (.var 11)
@[simp] def zMws6:SX:=.bin .eql (.var 4) (.var 12)
@[simp] def zMws7:SX:=.con (.bool false)
@[simp] def zMws8:SX:=.bin .eql (.var 5) (.var 13)
@[simp] def zMws9:SX:=.bin .lss (.var 2) (.len (.var 0))
@[simp] def Zsx:SX:=.bin .leq (.var 0) (.con (.int .i64 1073741824))
@[simp] def Zl1:Fact:=.is zMws2 (.bool true)
@[simp] def Zof:SX:=.bin .eql (.var 6) (.var 14)
@[simp] def Zsw:SX:=.bin .neq (.len (.var 0)) (.len (.var 1))
@[simp] def Zoe:SX:=.bin .geq (.var 0) (.var 1)
@[simp] def Zm5:Fact:=.is zMws3 (.bool true)
@[simp] def Zod:Fact:=.is zMws4 (.bool true)
@[simp] def Zu0:SX:=.bin .add (.var 2) (.con (.int .i64 1))
@[simp] def Zhi:Fact:=.ok (.var 0)
@[simp] def Zhh:Fact:=.ok (.var 1)
@[simp] def Zqi:Fact:=.is zMws5 (.bool true)
@[simp] def Zsv:Fact:=.idx (.var 0) (.var 2) 2 2
@[simp] def Zsu:Fact:=.idx (.var 1) (.var 2) 2 2
@[simp] def Zj8:Fact:=.ok (.var 10)
@[simp] def Zj7:Fact:=.ok (.var 11)
@[simp] def Zj6:Fact:=.ok (.var 12)
@[simp] def Zj5:Fact:=.ok (.var 13)
@[simp] def Zj4:Fact:=.ok (.var 14)
@[simp] def Zi7:Fact:=.ok (.var 2)
@[simp] def Zqh:Fact:=.ok (.len (.var 0))
@[simp] def Zj3:Fact:=.ok (.var 3)
@[simp] def Zj2:Fact:=.ok (.var 4)
@[simp] def Zj1:Fact:=.ok (.var 5)
@[simp] def Zj0:Fact:=.ok (.var 6)
@[simp] def Zjz:Fact:=.ok (.var 8)
@[simp] def Zjy:Fact:=.ok (.var 9)
@[simp] def Zst:Fact:=.is zMws6 (.bool true)
theorem Xpre:segTo Try.prog fil.noOrc 10000 (flX.take 4) shX [0] shXl [] hPx=some (.normal,[Zqh,.ok (.len (.var 1)),.ok Zsw,.is Zsw (.bool false),.ok (.con (.int .i64 0))],[.var 0,.var 1,.con (.int .i64 0)]):=by kernel_rfl
theorem Xno:segTo Try.prog fil.noOrc 10000 (flX.take 4) shX [1] shXR [] hPx=some (.ret,[Zqh,.ok (.len (.var 1)),.ok Zsw,.is Zsw (.bool true),.ok zMws7],[zMws7]):=by kernel_rfl
theorem Xex:segTo Try.prog fil.noOrc 10000 lpX shXl [0] shXl [] hPx=some (.exit 0,[Zqh,.ok zMws9,.is zMws9 (.bool false),Zi7],[.var 0,.var 1,.var 2]):=by kernel_rfl
theorem Xgo:segTo Try.prog fil.noOrc 10000 lpX shXl [1,0] shXl [] hPx=some (.normal,[Zqh,.ok zMws9,.is zMws9 (.bool true),Zsv,Zsv,.ok (.cell (.var 0) (.var 2) 2 0),.ok (.cell (.var 0) (.var 2) 2 1),Zsu,Zsu,.ok (.cell (.var 1) (.var 2) 2 0),.ok (.cell (.var 1) (.var 2) 2 1),.ok zMws1,.is zMws1 (.bool false),.ok Zu0,.ok Zu0],[.var 0,.var 1,Zu0]):=by kernel_rfl
theorem Xne:segTo Try.prog fil.noOrc 10000 lpX shXl [1,1] shXR [] hPx=some (.ret,[Zqh,.ok zMws9,.is zMws9 (.bool true),Zsv,Zsv,.ok (.cell (.var 0) (.var 2) 2 0),.ok (.cell (.var 0) (.var 2) 2 1),Zsu,Zsu,.ok (.cell (.var 1) (.var 2) 2 0),.ok (.cell (.var 1) (.var 2) 2 1),.ok zMws1,.is zMws1 (.bool true),.ok zMws7],[zMws7]):=by kernel_rfl
theorem Xpost:segTo Try.prog fil.noOrc 10000 (flX.drop 5) shXl [] shXR [] hPx=some (.ret,[.ok (.con (.bool true))],[.con (.bool true)]):=by kernel_rfl
theorem nu0:runTo Try.prog fil.noOrc 10000 33 (ENu 1) [.num,.num] [0]=some ([Zhi,Zhh,.ok Zoe,.is Zoe (.bool false)],[zMws7]):=by kernel_rfl
theorem nu10:runTo Try.prog fil.noOrc 10000 33 (ENu 1) [.num,.num] [1,0]=some ([Zhi,Zhh,.ok Zoe,.is Zoe (.bool true),.ok Zsx,.is Zsx (.bool false)],[zMws7]):=by kernel_rfl
theorem nu11:runTo Try.prog fil.noOrc 10000 33 (ENu 1) [.num,.num] [1,1]=some ([Zhi,Zhh,.ok Zoe,.is Zoe (.bool true),.ok Zsx,.is Zsx (.bool true)],[.con (.bool true)]):=by kernel_rfl
theorem sa0:runTo Try.prog (orcFn tabX) 10000 18 (ESa 1) [.num,.num,.num,.num,.num,.num,.num,.row,.num,.num,.num,.num,.num,.num,.num,.row] [0]=some ([Zhi,Zhh,Zi7,Zj3,Zj2,Zj1,Zj0,Zjz,Zjy,Zj8,Zj7,Zj6,Zj5,Zj4,.ok zMws2,.is zMws2 (.bool false)],[zMws7]):=by kernel_rfl
theorem sa1:runTo Try.prog (orcFn tabX) 10000 18 (ESa 1) [.num,.num,.num,.num,.num,.num,.num,.row,.num,.num,.num,.num,.num,.num,.num,.row] [1,0]=some ([Zhi,Zhh,Zi7,Zj3,Zj2,Zj1,Zj0,Zjz,Zjy,Zj8,Zj7,Zj6,Zj5,Zj4,.ok zMws2,Zl1,.ok zMws3,.is zMws3 (.bool false)],[zMws7]):=by kernel_rfl
theorem sa2:runTo Try.prog (orcFn tabX) 10000 18 (ESa 1) [.num,.num,.num,.num,.num,.num,.num,.row,.num,.num,.num,.num,.num,.num,.num,.row] [1,1,0]=some ([Zhi,Zhh,Zi7,Zj3,Zj2,Zj1,Zj0,Zjz,Zjy,Zj8,Zj7,Zj6,Zj5,Zj4,.ok zMws2,Zl1,.ok zMws3,Zm5,.ok zMws4,.is zMws4 (.bool false)],[zMws7]):=by kernel_rfl
theorem sa3:runTo Try.prog (orcFn tabX) 10000 18 (ESa 1) [.num,.num,.num,.num,.num,.num,.num,.row,.num,.num,.num,.num,.num,.num,.num,.row] [1,1,1,0]=some ([Zhi,Zhh,Zi7,Zj3,Zj2,Zj1,Zj0,Zjz,Zjy,Zj8,Zj7,Zj6,Zj5,Zj4,.ok zMws2,Zl1,.ok zMws3,Zm5,.ok zMws4,Zod,.ok zMws5,.is zMws5 (.bool false)],[zMws7]):=by kernel_rfl
theorem sa4:runTo Try.prog (orcFn tabX) 10000 18 (ESa 1) [.num,.num,.num,.num,.num,.num,.num,.row,.num,.num,.num,.num,.num,.num,.num,.row] [1,1,1,1,0]=some ([Zhi,Zhh,Zi7,Zj3,Zj2,Zj1,Zj0,Zjz,Zjy,Zj8,Zj7,Zj6,Zj5,Zj4,.ok zMws2,Zl1,.ok zMws3,Zm5,.ok zMws4,Zod,.ok zMws5,Zqi,.ok zMws6,.is zMws6 (.bool false)],[zMws7]):=by kernel_rfl
theorem sa5:runTo Try.prog (orcFn tabX) 10000 18 (ESa 1) [.num,.num,.num,.num,.num,.num,.num,.row,.num,.num,.num,.num,.num,.num,.num,.row] [1,1,1,1,1,0]=some ([Zhi,Zhh,Zi7,Zj3,Zj2,Zj1,Zj0,Zjz,Zjy,Zj8,Zj7,Zj6,Zj5,Zj4,.ok zMws2,Zl1,.ok zMws3,Zm5,.ok zMws4,Zod,.ok zMws5,Zqi,.ok zMws6,Zst,.ok zMws8,.is zMws8 (.bool false)],[zMws7]):=by kernel_rfl
theorem sa6:runTo Try.prog (orcFn tabX) 10000 18 (ESa 1) [.num,.num,.num,.num,.num,.num,.num,.row,.num,.num,.num,.num,.num,.num,.num,.row] [1,1,1,1,1,1,0]=some ([Zhi,Zhh,Zi7,Zj3,Zj2,Zj1,Zj0,Zjz,Zjy,Zj8,Zj7,Zj6,Zj5,Zj4,.ok zMws2,Zl1,.ok zMws3,Zm5,.ok zMws4,Zod,.ok zMws5,Zqi,.ok zMws6,Zst,.ok zMws8,.is zMws8 (.bool true),.ok Zof,.is Zof (.bool false)],[zMws7]):=by kernel_rfl
theorem sa7:runTo Try.prog (orcFn tabX) 10000 18 (ESa 1) [.num,.num,.num,.num,.num,.num,.num,.row,.num,.num,.num,.num,.num,.num,.num,.row] [1,1,1,1,1,1,1,0]=some ([Zhi,Zhh,Zi7,Zj3,Zj2,Zj1,Zj0,Zjz,Zjy,Zj8,Zj7,Zj6,Zj5,Zj4,.ok zMws2,Zl1,.ok zMws3,Zm5,.ok zMws4,Zod,.ok zMws5,Zqi,.ok zMws6,Zst,.ok zMws8,.is zMws8 (.bool true),.ok Zof,.is Zof (.bool true),.fn 43 (ESx 1) [.var 7,.var 15],.is (.fn 1 [.var 7,.var 15] 0) (.bool false)],[zMws7]):=by kernel_rfl
theorem sa8:runTo Try.prog (orcFn tabX) 10000 18 (ESa 1) [.num,.num,.num,.num,.num,.num,.num,.row,.num,.num,.num,.num,.num,.num,.num,.row] [1,1,1,1,1,1,1,1]=some ([Zhi,Zhh,Zi7,Zj3,Zj2,Zj1,Zj0,Zjz,Zjy,Zj8,Zj7,Zj6,Zj5,Zj4,.ok zMws2,Zl1,.ok zMws3,Zm5,.ok zMws4,Zod,.ok zMws5,Zqi,.ok zMws6,Zst,.ok zMws8,.is zMws8 (.bool true),.ok Zof,.is Zof (.bool true),.fn 43 (ESx 1) [.var 7,.var 15],.is (.fn 1 [.var 7,.var 15] 0) (.bool true)],[.con (.bool true)]):=by kernel_rfl
@[simp] theorem kSx (k:Nat):(ESx k).k=k:=rfl
theorem tl_injW {a b:ByteArray} (h:a.toList=b.toList):a=b:=by
 apply ByteArray.ext
 apply Array.toList_inj.1
 rwa [ByteArray.toList_eq,ByteArray.toList_eq] at h
def sameX (a b:WrM):Bool:=a.1 == b.1 && (a.2.toList == b.2.toList && true)
theorem Zkv {a b:WrM}:sameX a b=true ↔ a=b:=by
 simp only [sameX,Bool.and_eq_true,beq_iff_eq,and_true]
 constructor
 ·rintro ⟨a,b⟩;exact Prod.ext a (tl_injW b)
 ·rintro rfl;exact ⟨rfl,rfl⟩
theorem cmpX (a b:WrM):∃ t1 t2:Bool,ropPV .eqI [pI a.1,pI b.1]=some (pB t1)/\ropPV .eqS [pS a.2,pS b.2]=some (pB t2)/\ropPV .allB [pB t1,pB t2]=some (pB (sameX a b)):=⟨_,_,rfl,rfl,rfl⟩
def RSx (ps qs:List PV):Prop:=∃ xs ys:List WrM,xs.length<=1000000/\ys.length<=1000000/\ps=[pRow encW xs,pRow encW ys]/\qs=[pB (decide (xs=ys))]
theorem fSx:∀ ps q1 q2,RSx ps q1->RSx ps q2->q1=q2:=by
 rintro ps q1 q2 ⟨a,b,_,_,rfl,rfl⟩ ⟨a',b',_,_,h,rfl⟩
 simp only [List.cons.injEq,and_true] at h
 rw [fil.pRow_inj Zk3 h.1,fil.pRow_inj Zk3 h.2]
theorem cutX:flX=flX.take 4++.block (Zat (nth flX 4)) (.loop (Zaq (nth flX 4))) :: flX.drop 5:=by kernel_rfl
set_option maxHeartbeats 1000000 in
theorem toldSx (k:Nat):ToldF 43 (ESx k) (spec RSx):=by
 refine Zfx (fun _ _=>none) _ (Zam Try.prog 43) Try.func43 (by kernel_rfl) shX (by kernel_rfl) ?_ ?_
 ·intro ps qs h
  obtain ⟨xs,ys,_,_,rfl,rfl⟩:=Zag h
  exact Za7 rfl
 ·intro C ps qs hF h a w hsh
  obtain ⟨xs,ys,hx,hy,rfl,rfl⟩:=Zag h
  show wpL Try.prog flX _ a w
  rw [cutX]
  by_cases hl:xs.length=ys.length
  ·have hl':(xs.length:Int)=(ys.length:Int):=by omega
   refine Zad names_ok mixed_ok fil.noOrc_ok Xpre hsh ?_ ?_
   ·simp [-Zac,Zab,Zaa,Base.ev,SX.ev,evs,Value.oneCell',Zar,binPV,hl']
   intro qs a1 w1 hq h1
   refine ⟨fun _=>?_,fun h=>absurd rfl h⟩
   simp [evs,SX.ev,Zar] at hq
   subst hq
   refine Zbj (fun q a w=>∃ i:Nat,i<=xs.length/\q=xs.length - i/\(∀ j (h1:j < xs.length) (h2:j < ys.length),j < i->xs[j]=ys[j])/\Zah C shXl [pRow encW xs,pRow encW ys,pI (i:Int)] a w) ?_ (n:=xs.length) ⟨0,by omega,by omega,fun j _ _ h=>absurd h (by omega),h1⟩
   rintro q a w ⟨i,hi,rfl,hb,hin⟩
   show wpL Try.prog lpX _ a w
   rw [<- List.append_nil lpX]
   by_cases hlt:i < xs.length
   ·have hlt2:i < ys.length:=by omega
    obtain ⟨c0,c1⟩:=Zei xs i hlt
    obtain ⟨d0,d1⟩:=Zei ys i hlt2
    have ix:=Zdk encW xs i 2 2 .i64 rfl hlt (by decide)
    have iy:=Zdk encW ys i 2 2 .i64 rfl hlt2 (by decide)
    have v3:IntKind.i64.wrap ((i:Int)+1)=(i:Int)+1:=wrapI _ (by omega) (by omega)
    obtain ⟨t1,t2,r1,r2,ra⟩:=cmpX xs[i] ys[i]
    by_cases he:xs[i]=ys[i]
    ·rw [Zkv.2 he] at ra
     have rn:ropPV .notB [pB true]=some (pB false):=rfl
     have hnx:∀ j (h1:j < xs.length) (h2:j < ys.length),j < i+1->xs[j]=ys[j]:=fun j h1 h2 h3=>by
      by_cases hj:j=i
      ·subst hj;exact he
      ·exact hb j h1 h2 (by omega)
     clear hb he
     generalize xs[i]=xb at *
     generalize ys[i]=yb at *
     refine Zad names_ok mixed_ok fil.noOrc_ok Xgo hin ?_ (fun qs a1 w1 hq h1=>⟨fun _=>.inl ⟨rfl,xs.length - (i+1),by omega,i+1,by omega,rfl,hnx,by simp [evs,SX.ev,binPV,v3] at hq;subst hq;exact h1⟩,fun h=>absurd rfl h⟩)
     simp [-Zac,Zab,Zaa,Base.ev,SX.ev,evs,Value.oneCell',Zar,binPV,v3,hlt,ix,iy,c0,c1,d0,d1,r1,r2,ra,rn]
    ·have hs:sameX xs[i] ys[i]=false:=by rw [<- Bool.not_eq_true];exact fun h=>he (Zkv.1 h)
     rw [hs] at ra
     have rn:ropPV .notB [pB false]=some (pB true):=rfl
     have hQ:decide (xs=ys)=false:=decide_eq_false fun h=>he (by subst h;rfl)
     rw [hQ] at *
     clear hb he hs
     generalize xs[i]=xb at *
     generalize ys[i]=yb at *
     refine Zad names_ok mixed_ok fil.noOrc_ok Xne hin ?_ ?_
     ·simp [-Zac,Zab,Zaa,Base.ev,SX.ev,evs,Value.oneCell',Zar,binPV,v3,hlt,ix,iy,c0,c1,d0,d1,r1,r2,ra,rn]
     ·intro qs a1 w1 hq h1
      exact ⟨nofun,fun _=>.inr (.inr ⟨rfl,.inr rfl,shXR,qs,[SX.var 0],h1,by kernel_rfl,by simp [evs,SX.ev] at hq ⊢;subst hq;rfl⟩)⟩
   ·have hie:i=xs.length:=by omega
    subst hie
    have hQ:decide (xs=ys)=true:=decide_eq_true (List.ext_getElem hl fun j h1 h2=>hb j h1 h2 h1)
    rw [hQ] at *
    refine Zad names_ok mixed_ok fil.noOrc_ok Xex hin ?_ ?_
    ·simp [-Zac,Zab,Zaa,Base.ev,SX.ev,evs,Value.oneCell',Zar,binPV]
    ·intro qs a1 w1 hq h1
     refine ⟨nofun,fun _=>.inr (.inl ⟨by rw [show Zat (nth flX 4)=0 by kernel_rfl];rfl,?_⟩)⟩
     simp [evs,SX.ev] at hq
     subst hq
     rw [<- List.append_nil (flX.drop 5)]
     refine Zad names_ok mixed_ok fil.noOrc_ok Xpost h1 ?_ (fun qs a1 w1 hq h1=>⟨nofun,fun _=>⟨.inr rfl,shXR,_,[SX.var 0],h1,by kernel_rfl,by simp [evs,SX.ev] at hq;subst hq;rfl⟩⟩)
     simp [-Zac,Zab,Zaa,Base.ev,SX.ev,evs,Value.oneCell',Zar]
  ·have hl':¬ (xs.length:Int)=(ys.length:Int):=by omega
   have hQ:decide (xs=ys)=false:=decide_eq_false fun h=>hl (by rw [h])
   rw [hQ] at *
   refine Zad names_ok mixed_ok fil.noOrc_ok Xno hsh ?_ ?_
   ·simp [-Zac,Zab,Zaa,Base.ev,SX.ev,evs,Value.oneCell',Zar,binPV,hl,hl']
   ·intro qs a1 w1 hq h1
    exact ⟨nofun,fun _=>⟨.inr rfl,shXR,_,[SX.var 0],h1,by kernel_rfl,by simp [evs,SX.ev] at hq;subst hq;rfl⟩⟩

@[simp] theorem kNu (k:Nat):(ENu k).k=k:=rfl
@[simp] theorem kSa (k:Nat):(ESa k).k=k:=rfl
def RNu (ps qs:List PV):Prop:=∃ n l:Int,-9223372036854775808<=n/\n<=9223372036854775807/\ps=[pI n,pI l]/\qs=[pB (numB n l)]
theorem fNu:∀ ps q1 q2,RNu ps q1->RNu ps q2->q1=q2:=by
 rintro ps q1 q2 ⟨n,l,_,_,rfl,rfl⟩ ⟨n',l',_,_,h,rfl⟩
 simp only [List.cons.injEq,PV.v.injEq,Value.int.injEq,true_and,and_true] at h
 obtain ⟨rfl,rfl⟩:=h
 rfl
theorem Zue (k:Nat):ToldF 33 (ENu k) (spec RNu):=by
 refine Zbw mixed_ok names_ok (fun _ _=>none) [.num,.num] ?_
 intro ps qs h _
 obtain ⟨n,l,h1,h2,rfl,rfl⟩:=Zag h
 by_cases c1:l<=n
 ·by_cases c2:n<=1073741824
  ·rw [show numB n l=true by simp [numB,c1,c2]]
   refine ⟨_,_,_,_,_,_,fil.noOrc_ok,nu11,fun w FP=>?_,?_⟩
   ·simp [-Zac,Zab,Zaa,Base.ev,SX.ev,evs,Value.oneCell',binPV,c1,c2]
   ·simp [evs,SX.ev]
  ·rw [show numB n l=false by simp [numB,c2]]
   refine ⟨_,_,_,_,_,_,fil.noOrc_ok,nu10,fun w FP=>?_,?_⟩
   ·simp [-Zac,Zab,Zaa,Base.ev,SX.ev,evs,Value.oneCell',binPV,c1,c2]
   ·simp [evs,SX.ev]
 ·rw [show numB n l=false by simp [numB,c1]]
  refine ⟨_,_,_,_,_,_,fil.noOrc_ok,nu0,fun w FP=>?_,?_⟩
  ·simp [-Zac,Zab,Zaa,Base.ev,SX.ev,evs,Value.oneCell',binPV,c1]
  ·simp [evs,SX.ev]
def aP (a:AskM):List PV:=[pI a.kind,pI a.frm,pI a.epoch,pI a.seq,pS a.name,pI a.file,pI a.mode,pRow encW a.writes]
theorem Zej {a b:AskM} (h:aP a=aP b):a=b:=by
 obtain ⟨a1,a2,a3,a4,a5,a6,a7,a8⟩:=a
 obtain ⟨b1,b2,b3,b4,b5,b6,b7,b8⟩:=b
 simp only [aP,List.cons.injEq,PV.v.injEq,Value.int.injEq,Value.string.injEq,true_and,and_true] at h
 obtain ⟨rfl,rfl,rfl,rfl,rfl,rfl,rfl,h⟩:=h
 rw [fil.pRow_inj Zk3 h]
noncomputable def FX:Fns:=fun k=>match k with | 1=>spec RSx | _=>fun _=>none
theorem x1:ToldF 43 (ESx 1) (FX 1):=toldSx 1
theorem FX1 {a b:List WrM} (h1:a.length<=1000000) (h2:b.length<=1000000):FX 1 [pRow encW a,pRow encW b]=some [pB (decide (a=b))]:=Zaf fSx ⟨a,b,h1,h2,rfl,rfl⟩
def RSa (ps qs:List PV):Prop:=∃ a b:AskM,a.writes.length<=1000000/\b.writes.length<=1000000/\ps=aP a++aP b/\qs=[pB (decide (a=b))]
theorem fSa:∀ ps q1 q2,RSa ps q1->RSa ps q2->q1=q2:=by
 rintro ps q1 q2 ⟨a,b,_,_,rfl,rfl⟩ ⟨a',b',_,_,h,rfl⟩
 have h':=List.append_inj h rfl
 rw [Zej h'.1,Zej h'.2]
theorem toldSa (k:Nat):ToldF 18 (ESa k) (spec RSa):=by
 refine Zbw mixed_ok names_ok FX [.num,.num,.num,.num,.num,.num,.num,.row,.num,.num,.num,.num,.num,.num,.num,.row] ?_
 intro ps qs h _
 obtain ⟨⟨a1,a2,a3,a4,a5,a6,a7,a8⟩,⟨b1,b2,b3,b4,b5,b6,b7,b8⟩,h1,h2,rfl,rfl⟩:=Zag h
 have g1:=FX1 h1 h2
 simp only [aP,List.cons_append,List.nil_append] at *
 by_cases c1:a1=b1
 rotate_left
 ·rw [show decide ((⟨a1,a2,a3,a4,a5,a6,a7,a8⟩:AskM)=⟨b1,b2,b3,b4,b5,b6,b7,b8⟩)=false by simp [c1]]
  refine ⟨_,_,_,_,_,_,Zae tabX,sa0,fun w FP=>?_,?_⟩
  ·simp [-Zac,Zab,Zaa,Base.ev,SX.ev,evs,Value.oneCell',binPV,c1]
  ·simp [evs,SX.ev]
 by_cases c2:a2=b2
 rotate_left
 ·rw [show decide ((⟨a1,a2,a3,a4,a5,a6,a7,a8⟩:AskM)=⟨b1,b2,b3,b4,b5,b6,b7,b8⟩)=false by simp [c2]]
  refine ⟨_,_,_,_,_,_,Zae tabX,sa1,fun w FP=>?_,?_⟩
  ·simp [-Zac,Zab,Zaa,Base.ev,SX.ev,evs,Value.oneCell',binPV,c1,c2]
  ·simp [evs,SX.ev]
 by_cases c3:a3=b3
 rotate_left
 ·rw [show decide ((⟨a1,a2,a3,a4,a5,a6,a7,a8⟩:AskM)=⟨b1,b2,b3,b4,b5,b6,b7,b8⟩)=false by simp [c3]]
  refine ⟨_,_,_,_,_,_,Zae tabX,sa2,fun w FP=>?_,?_⟩
  ·simp [-Zac,Zab,Zaa,Base.ev,SX.ev,evs,Value.oneCell',binPV,c1,c2,c3]
  ·simp [evs,SX.ev]
 by_cases c4:a4=b4
 rotate_left
 ·rw [show decide ((⟨a1,a2,a3,a4,a5,a6,a7,a8⟩:AskM)=⟨b1,b2,b3,b4,b5,b6,b7,b8⟩)=false by simp [c4]]
  refine ⟨_,_,_,_,_,_,Zae tabX,sa3,fun w FP=>?_,?_⟩
  ·simp [-Zac,Zab,Zaa,Base.ev,SX.ev,evs,Value.oneCell',binPV,c1,c2,c3,c4]
  ·simp [evs,SX.ev]
 by_cases c5:a5=b5
 rotate_left
 ·rw [show decide ((⟨a1,a2,a3,a4,a5,a6,a7,a8⟩:AskM)=⟨b1,b2,b3,b4,b5,b6,b7,b8⟩)=false by simp [c5]]
  refine ⟨_,_,_,_,_,_,Zae tabX,sa4,fun w FP=>?_,?_⟩
  ·have c9:¬ a5.toList=b5.toList:=fun h=>c5 (tl_injW h)
   simp [-Zac,Zab,Zaa,Base.ev,SX.ev,evs,Value.oneCell',binPV,c1,c2,c3,c4,c9]
  ·simp [evs,SX.ev]
 by_cases c6:a6=b6
 rotate_left
 ·rw [show decide ((⟨a1,a2,a3,a4,a5,a6,a7,a8⟩:AskM)=⟨b1,b2,b3,b4,b5,b6,b7,b8⟩)=false by simp [c6]]
  refine ⟨_,_,_,_,_,_,Zae tabX,sa5,fun w FP=>?_,?_⟩
  ·simp [-Zac,Zab,Zaa,Base.ev,SX.ev,evs,Value.oneCell',binPV,c1,c2,c3,c4,c5,c6]
  ·simp [evs,SX.ev]
 by_cases c7:a7=b7
 rotate_left
 ·rw [show decide ((⟨a1,a2,a3,a4,a5,a6,a7,a8⟩:AskM)=⟨b1,b2,b3,b4,b5,b6,b7,b8⟩)=false by simp [c7]]
  refine ⟨_,_,_,_,_,_,Zae tabX,sa6,fun w FP=>?_,?_⟩
  ·simp [-Zac,Zab,Zaa,Base.ev,SX.ev,evs,Value.oneCell',binPV,c1,c2,c3,c4,c5,c6,c7]
  ·simp [evs,SX.ev]
 by_cases c8:a8=b8
 ·rw [show decide ((⟨a1,a2,a3,a4,a5,a6,a7,a8⟩:AskM)=⟨b1,b2,b3,b4,b5,b6,b7,b8⟩)=true by simp [c1,c2,c3,c4,c5,c6,c7,c8]]
  rw [decide_eq_true c8] at g1
  refine ⟨_,_,_,_,_,_,Zae tabX,sa8,fun w FP=>?_,?_⟩
  ·simp [-Zac,Zab,Zaa,Base.ev,SX.ev,evs,Value.oneCell',binPV,c1,c2,c3,c4,c5,c6,c7,g1,mws.x1]
  ·simp [evs,SX.ev]
 ·rw [show decide ((⟨a1,a2,a3,a4,a5,a6,a7,a8⟩:AskM)=⟨b1,b2,b3,b4,b5,b6,b7,b8⟩)=false by simp [c8]]
  rw [decide_eq_false c8] at g1
  refine ⟨_,_,_,_,_,_,Zae tabX,sa7,fun w FP=>?_,?_⟩
  ·simp [-Zac,Zab,Zaa,Base.ev,SX.ev,evs,Value.oneCell',binPV,c1,c2,c3,c4,c5,c6,c7,g1,mws.x1]
  ·simp [evs,SX.ev]
end Go.Proofs.Ytnomiffghidmbaa.mws
