/- slices.Equal at writes, package msg's SameAsk, told. -/
import Derived.Test.YtnomiffghidmbaaMws
namespace Go.Proofs.Ytnomiffghidmbaa.meq
open Go Go.RowKit eng SX Fact fil fileFronts ima msm mws
set_option linter.unusedVariables false
set_option linter.unusedSimpArgs false
set_option maxRecDepth 1000000
noncomputable def flE:=flat (Zam Try.prog 42)
noncomputable def lpE:=flat (Zaq (nth flE 4))
def shE:Shape:=⟨[(0,.leaf),(1,.leaf)],[],[some false,some false],26,42⟩
def shEl:Shape:=⟨[(0,.leaf),(1,.leaf),(12,.leaf),(13,.leaf)],[],[some false,some false,none,none],26,42⟩
def shER:Shape:=⟨[(4,.leaf)],[],[none],26,42⟩
def tabE (f:FuncId):Option FnE:=cond (Nat.beq f 42) (some (ESx 1)) none
@[simp] def zMeq1:SX:=rop ROp.notB [rop ROp.allB [rop ROp.eqI [.cell (.var 0) (.var 3) 2 0,.cell (.var 1) (.var 3) 2 0],rop ROp.eqS [.cell (.var 0) (.var 3) 2 1,.cell (.var 1) (.var 3) 2 1]]]
@[simp] def zMeq2:SX:=.bin .eql (.var 0) (.var 8)
@[simp] def zMeq3:SX:=.bin .eql (.var 1) (.var 9)
@[simp] def zMeq4:SX:=.bin .eql (.var 2) (.var 10)
@[simp] def zMeq5:SX:=.bin .eql (.var 3) (.var 11)
@[simp] def zMeq6:SX:=.bin .eql (.var 4) (.var 12)
@[simp] def zMeq7:SX:=.bin .eql (.var 5) (.var 13)
@[simp] def zMeq8:SX:=.con (.bool false)
@[simp] def zMeq9:Fact:=.is zMeq2 (.bool true)
@[simp] def Zo2:SX:=.bin .eql (.var 6) (.var 14)
@[simp] def Zts:SX:=.bin .neq (.len (.var 0)) (.len (.var 1))
@[simp] def Zo1:SX:=.bin .lss (.var 3) (.var 2)
@[simp] def Zng:Fact:=.is zMeq3 (.bool true)
@[simp] def Zo0:Fact:=.is zMeq4 (.bool true)
@[simp] def Zvj:SX:=.bin .add (.var 3) (.con (.int .i64 1))
@[simp] def Zrg:Fact:=.is zMeq5 (.bool true)
@[simp] def Zh1:Fact:=.ok (.var 2)
@[simp] def Ztr:Fact:=.idx (.var 0) (.var 3) 2 2
@[simp] def Ztq:Fact:=.idx (.var 1) (.var 3) 2 2
@[simp] def Zko:Fact:=.ok (.var 10)
@[simp] def Zkn:Fact:=.ok (.var 11)
@[simp] def Zkm:Fact:=.ok (.var 12)
@[simp] def Zkl:Fact:=.ok (.var 13)
@[simp] def Zkk:Fact:=.ok (.var 14)
@[simp] def Zjc:Fact:=.ok (.var 3)
@[simp] def Zkj:Fact:=.ok (.var 0)
@[simp] def Zki:Fact:=.ok (.var 1)
@[simp] def Zkh:Fact:=.ok (.var 4)
@[simp] def Zkg:Fact:=.ok (.var 5)
@[simp] def Zkf:Fact:=.ok (.var 6)
@[simp] def Zke:Fact:=.ok (.var 8)
@[simp] def Zkd:Fact:=.ok (.var 9)
@[simp] def Ztp:Fact:=.is zMeq6 (.bool true)
theorem Epre:segTo Try.prog fil.noOrc 10000 (flE.take 4) shE [0] shEl [] hPx=some (.normal,[.ok (.len (.var 0)),.ok (.len (.var 1)),.ok Zts,.is Zts (.bool false),.ok (.len (.var 0)),.ok (.len (.var 0)),.ok (.con (.int .i64 0))],[.var 0,.var 1,.len (.var 0),.con (.int .i64 0)]):=by kernel_rfl
theorem Eno:segTo Try.prog fil.noOrc 10000 (flE.take 4) shE [1] shER [] hPx=some (.ret,[.ok (.len (.var 0)),.ok (.len (.var 1)),.ok Zts,.is Zts (.bool true),.ok zMeq8],[zMeq8]):=by kernel_rfl
theorem Eex:segTo Try.prog fil.noOrc 10000 lpE shEl [0] shEl [] hPx=some (.exit 0,[.ok Zo1,.is Zo1 (.bool false),Zh1,Zjc],[.var 0,.var 1,.var 2,.var 3]):=by kernel_rfl
theorem Ego:segTo Try.prog fil.noOrc 10000 lpE shEl [1,0] shEl [] hPx=some (.normal,[.ok Zo1,.is Zo1 (.bool true),Ztr,Ztr,.ok (.cell (.var 0) (.var 3) 2 0),.ok (.cell (.var 0) (.var 3) 2 1),Ztq,Ztq,.ok (.cell (.var 1) (.var 3) 2 0),.ok (.cell (.var 1) (.var 3) 2 1),.ok zMeq1,.is zMeq1 (.bool false),.ok Zvj,Zh1,.ok Zvj],[.var 0,.var 1,.var 2,Zvj]):=by kernel_rfl
theorem Ene:segTo Try.prog fil.noOrc 10000 lpE shEl [1,1] shER [] hPx=some (.ret,[.ok Zo1,.is Zo1 (.bool true),Ztr,Ztr,.ok (.cell (.var 0) (.var 3) 2 0),.ok (.cell (.var 0) (.var 3) 2 1),Ztq,Ztq,.ok (.cell (.var 1) (.var 3) 2 0),.ok (.cell (.var 1) (.var 3) 2 1),.ok zMeq1,.is zMeq1 (.bool true),.ok zMeq8],[zMeq8]):=by kernel_rfl
theorem Epost:segTo Try.prog fil.noOrc 10000 (flE.drop 5) shEl [] shER [] hPx=some (.ret,[.ok (.con (.bool true))],[.con (.bool true)]):=by kernel_rfl
theorem se0:runTo Try.prog (orcFn tabE) 10000 17 (ESa 1) [.num,.num,.num,.num,.num,.num,.num,.row,.num,.num,.num,.num,.num,.num,.num,.row] [0]=some ([Zkj,Zki,Zh1,Zjc,Zkh,Zkg,Zkf,Zke,Zkd,Zko,Zkn,Zkm,Zkl,Zkk,.ok zMeq2,.is zMeq2 (.bool false)],[zMeq8]):=by kernel_rfl
theorem se1:runTo Try.prog (orcFn tabE) 10000 17 (ESa 1) [.num,.num,.num,.num,.num,.num,.num,.row,.num,.num,.num,.num,.num,.num,.num,.row] [1,0]=some ([Zkj,Zki,Zh1,Zjc,Zkh,Zkg,Zkf,Zke,Zkd,Zko,Zkn,Zkm,Zkl,Zkk,.ok zMeq2,zMeq9,.ok zMeq3,.is zMeq3 (.bool false)],[zMeq8]):=by kernel_rfl
theorem se2:runTo Try.prog (orcFn tabE) 10000 17 (ESa 1) [.num,.num,.num,.num,.num,.num,.num,.row,.num,.num,.num,.num,.num,.num,.num,.row] [1,1,0]=some ([Zkj,Zki,Zh1,Zjc,Zkh,Zkg,Zkf,Zke,Zkd,Zko,Zkn,Zkm,Zkl,Zkk,.ok zMeq2,zMeq9,.ok zMeq3,Zng,.ok zMeq4,.is zMeq4 (.bool false)],[zMeq8]):=by kernel_rfl
theorem se3:runTo Try.prog (orcFn tabE) 10000 17 (ESa 1) [.num,.num,.num,.num,.num,.num,.num,.row,.num,.num,.num,.num,.num,.num,.num,.row] [1,1,1,0]=some ([Zkj,Zki,Zh1,Zjc,Zkh,Zkg,Zkf,Zke,Zkd,Zko,Zkn,Zkm,Zkl,Zkk,.ok zMeq2,zMeq9,.ok zMeq3,Zng,.ok zMeq4,Zo0,.ok zMeq5,.is zMeq5 (.bool false)],[zMeq8]):=by kernel_rfl
theorem se4:runTo Try.prog (orcFn tabE) 10000 17 (ESa 1) [.num,.num,.num,.num,.num,.num,.num,.row,.num,.num,.num,.num,.num,.num,.num,.row] [1,1,1,1,0]=some ([Zkj,Zki,Zh1,Zjc,Zkh,Zkg,Zkf,Zke,Zkd,Zko,Zkn,Zkm,Zkl,Zkk,.ok zMeq2,zMeq9,.ok zMeq3,Zng,.ok zMeq4,Zo0,.ok zMeq5,Zrg,.ok zMeq6,.is zMeq6 (.bool false)],[zMeq8]):=by kernel_rfl
theorem se5:runTo Try.prog (orcFn tabE) 10000 17 (ESa 1) [.num,.num,.num,.num,.num,.num,.num,.row,.num,.num,.num,.num,.num,.num,.num,.row] [1,1,1,1,1,0]=some ([Zkj,Zki,Zh1,Zjc,Zkh,Zkg,Zkf,Zke,Zkd,Zko,Zkn,Zkm,Zkl,Zkk,.ok zMeq2,zMeq9,.ok zMeq3,Zng,.ok zMeq4,Zo0,.ok zMeq5,Zrg,.ok zMeq6,Ztp,.ok zMeq7,.is zMeq7 (.bool false)],[zMeq8]):=by kernel_rfl
theorem se6:runTo Try.prog (orcFn tabE) 10000 17 (ESa 1) [.num,.num,.num,.num,.num,.num,.num,.row,.num,.num,.num,.num,.num,.num,.num,.row] [1,1,1,1,1,1,0]=some ([Zkj,Zki,Zh1,Zjc,Zkh,Zkg,Zkf,Zke,Zkd,Zko,Zkn,Zkm,Zkl,Zkk,.ok zMeq2,zMeq9,.ok zMeq3,Zng,.ok zMeq4,Zo0,.ok zMeq5,Zrg,.ok zMeq6,Ztp,.ok zMeq7,.is zMeq7 (.bool true),.ok Zo2,.is Zo2 (.bool false)],[zMeq8]):=by kernel_rfl
theorem se7:runTo Try.prog (orcFn tabE) 10000 17 (ESa 1) [.num,.num,.num,.num,.num,.num,.num,.row,.num,.num,.num,.num,.num,.num,.num,.row] [1,1,1,1,1,1,1,0]=some ([Zkj,Zki,Zh1,Zjc,Zkh,Zkg,Zkf,Zke,Zkd,Zko,Zkn,Zkm,Zkl,Zkk,.ok zMeq2,zMeq9,.ok zMeq3,Zng,.ok zMeq4,Zo0,.ok zMeq5,Zrg,.ok zMeq6,Ztp,.ok zMeq7,.is zMeq7 (.bool true),.ok Zo2,.is Zo2 (.bool true),.fn 42 (ESx 1) [.var 7,.var 15],.is (.fn 1 [.var 7,.var 15] 0) (.bool false)],[zMeq8]):=by kernel_rfl
theorem se8:runTo Try.prog (orcFn tabE) 10000 17 (ESa 1) [.num,.num,.num,.num,.num,.num,.num,.row,.num,.num,.num,.num,.num,.num,.num,.row] [1,1,1,1,1,1,1,1]=some ([Zkj,Zki,Zh1,Zjc,Zkh,Zkg,Zkf,Zke,Zkd,Zko,Zkn,Zkm,Zkl,Zkk,.ok zMeq2,zMeq9,.ok zMeq3,Zng,.ok zMeq4,Zo0,.ok zMeq5,Zrg,.ok zMeq6,Ztp,.ok zMeq7,.is zMeq7 (.bool true),.ok Zo2,.is Zo2 (.bool true),.fn 42 (ESx 1) [.var 7,.var 15],.is (.fn 1 [.var 7,.var 15] 0) (.bool true)],[.con (.bool true)]):=by kernel_rfl
theorem cutE:flE=flE.take 4++.block (Zat (nth flE 4)) (.loop (Zaq (nth flE 4))) :: flE.drop 5:=by kernel_rfl
set_option maxHeartbeats 1000000 in
theorem toldEw (k:Nat):ToldF 42 (ESx k) (spec RSx):=by
 refine Zfx (fun _ _=>none) _ (Zam Try.prog 42) Try.func42 (by kernel_rfl) shE (by kernel_rfl) ?_ ?_
 ·intro ps qs h
  obtain ⟨xs,ys,_,_,rfl,rfl⟩:=Zag h
  exact Za7 rfl
 ·intro C ps qs hF h a w hsh
  obtain ⟨xs,ys,hx,hy,rfl,rfl⟩:=Zag h
  show wpL Try.prog flE _ a w
  rw [cutE]
  by_cases hl:xs.length=ys.length
  ·have hl':(xs.length:Int)=(ys.length:Int):=by omega
   refine Zad names_ok mixed_ok fil.noOrc_ok Epre hsh ?_ ?_
   ·simp [-Zac,Zab,Zaa,Base.ev,SX.ev,evs,Value.oneCell',Zar,binPV,hl']
   intro qs a1 w1 hq h1
   refine ⟨fun _=>?_,fun h=>absurd rfl h⟩
   simp [evs,SX.ev,Zar] at hq
   subst hq
   refine Zbj (fun q a w=>∃ i:Nat,i<=xs.length/\q=xs.length - i/\(∀ j (h1:j < xs.length) (h2:j < ys.length),j < i->xs[j]=ys[j])/\Zah C shEl [pRow encW xs,pRow encW ys,pI (xs.length:Int),pI (i:Int)] a w) ?_ (n:=xs.length) ⟨0,by omega,by omega,fun j _ _ h=>absurd h (by omega),h1⟩
   rintro q a w ⟨i,hi,rfl,hb,hin⟩
   show wpL Try.prog lpE _ a w
   rw [<- List.append_nil lpE]
   by_cases hlt:i < xs.length
   ·have hlt2:i < ys.length:=by omega
    obtain ⟨c0,c1⟩:=Zei xs i hlt
    obtain ⟨d0,d1⟩:=Zei ys i hlt2
    have ix:=Zdk encW xs i 2 2 .i64 rfl hlt (by decide)
    have iy:=Zdk encW ys i 2 2 .i64 rfl hlt2 (by decide)
    have v3:IntKind.i64.wrap ((i:Int)+1)=(i:Int)+1:=wrapI _ (by omega) (by omega)
    obtain ⟨t1,t2,r1,r2,ra⟩:=cmpX xs[i] ys[i]
    by_cases he:xs[i]=ys[i]
    ·rw [Zkv.2 he] at ra
     have rn:ropPV .notB [pB true]=some (pB false):=rfl
     have hnx:∀ j (h1:j < xs.length) (h2:j < ys.length),j < i+1->xs[j]=ys[j]:=fun j h1 h2 h3=>by
      by_cases hj:j=i
      ·subst hj;exact he
      ·exact hb j h1 h2 (by omega)
     clear hb he
     generalize xs[i]=xb at *
     generalize ys[i]=yb at *
     refine Zad names_ok mixed_ok fil.noOrc_ok Ego hin ?_ (fun qs a1 w1 hq h1=>⟨fun _=>.inl ⟨rfl,xs.length - (i+1),by omega,i+1,by omega,rfl,hnx,by simp [evs,SX.ev,binPV,v3] at hq;subst hq;exact h1⟩,fun h=>absurd rfl h⟩)
     simp [-Zac,Zab,Zaa,Base.ev,SX.ev,evs,Value.oneCell',Zar,binPV,v3,hlt,ix,iy,c0,c1,d0,d1,r1,r2,ra,rn]
    ·have hs:sameX xs[i] ys[i]=false:=by rw [<- Bool.not_eq_true];exact fun h=>he (Zkv.1 h)
     rw [hs] at ra
     have rn:ropPV .notB [pB false]=some (pB true):=rfl
     have hQ:decide (xs=ys)=false:=decide_eq_false fun h=>he (by subst h;rfl)
     rw [hQ] at *
     clear hb he hs
     generalize xs[i]=xb at *
     generalize ys[i]=yb at *
     refine Zad names_ok mixed_ok fil.noOrc_ok Ene hin ?_ ?_
     ·simp [-Zac,Zab,Zaa,Base.ev,SX.ev,evs,Value.oneCell',Zar,binPV,v3,hlt,ix,iy,c0,c1,d0,d1,r1,r2,ra,rn]
     ·intro qs a1 w1 hq h1
      exact ⟨nofun,fun _=>.inr (.inr ⟨rfl,.inr rfl,shER,qs,[SX.var 0],h1,by kernel_rfl,by simp [evs,SX.ev] at hq ⊢;subst hq;rfl⟩)⟩
   ·have hie:i=xs.length:=by omega
    subst hie
    have hQ:decide (xs=ys)=true:=decide_eq_true (List.ext_getElem hl fun j h1 h2=>hb j h1 h2 h1)
    rw [hQ] at *
    refine Zad names_ok mixed_ok fil.noOrc_ok Eex hin ?_ ?_
    ·simp [-Zac,Zab,Zaa,Base.ev,SX.ev,evs,Value.oneCell',Zar,binPV]
    ·intro qs a1 w1 hq h1
     refine ⟨nofun,fun _=>.inr (.inl ⟨by rw [show Zat (nth flE 4)=0 by kernel_rfl];rfl,?_⟩)⟩
     simp [evs,SX.ev] at hq
     subst hq
     rw [<- List.append_nil (flE.drop 5)]
     refine Zad names_ok mixed_ok fil.noOrc_ok Epost h1 ?_ (fun qs a1 w1 hq h1=>⟨nofun,fun _=>⟨.inr rfl,shER,_,[SX.var 0],h1,by kernel_rfl,by simp [evs,SX.ev] at hq;subst hq;rfl⟩⟩)
     simp [-Zac,Zab,Zaa,Base.ev,SX.ev,evs,Value.oneCell',Zar]
  ·have hl':¬ (xs.length:Int)=(ys.length:Int):=by omega
   have hQ:decide (xs=ys)=false:=decide_eq_false fun h=>hl (by rw [h])
   rw [hQ] at *
   refine Zad names_ok mixed_ok fil.noOrc_ok Eno hsh ?_ ?_
   ·simp [-Zac,Zab,Zaa,Base.ev,SX.ev,evs,Value.oneCell',Zar,binPV,hl,hl']
   ·intro qs a1 w1 hq h1
    exact ⟨nofun,fun _=>⟨.inr rfl,shER,_,[SX.var 0],h1,by kernel_rfl,by simp [evs,SX.ev] at hq;subst hq;rfl⟩⟩

noncomputable def FE:Fns:=fun k=>match k with | 1=>spec RSx | _=>fun _=>none
theorem x1:ToldF 42 (ESx 1) (FE 1):=toldEw 1
theorem FE1 {a b:List WrM} (h1:a.length<=1000000) (h2:b.length<=1000000):FE 1 [pRow encW a,pRow encW b]=some [pB (decide (a=b))]:=Zaf fSx ⟨a,b,h1,h2,rfl,rfl⟩
theorem toldSe (k:Nat):ToldF 17 (ESa k) (spec RSa):=by
 refine Zbw mixed_ok names_ok FE [.num,.num,.num,.num,.num,.num,.num,.row,.num,.num,.num,.num,.num,.num,.num,.row] ?_
 intro ps qs h _
 obtain ⟨⟨a1,a2,a3,a4,a5,a6,a7,a8⟩,⟨b1,b2,b3,b4,b5,b6,b7,b8⟩,h1,h2,rfl,rfl⟩:=Zag h
 have g1:=FE1 h1 h2
 simp only [aP,List.cons_append,List.nil_append] at *
 by_cases c1:a1=b1
 rotate_left
 ·rw [show decide ((⟨a1,a2,a3,a4,a5,a6,a7,a8⟩:AskM)=⟨b1,b2,b3,b4,b5,b6,b7,b8⟩)=false by simp [c1]]
  refine ⟨_,_,_,_,_,_,Zae tabE,se0,fun w FP=>?_,?_⟩
  ·simp [-Zac,Zab,Zaa,Base.ev,SX.ev,evs,Value.oneCell',binPV,c1]
  ·simp [evs,SX.ev]
 by_cases c2:a2=b2
 rotate_left
 ·rw [show decide ((⟨a1,a2,a3,a4,a5,a6,a7,a8⟩:AskM)=⟨b1,b2,b3,b4,b5,b6,b7,b8⟩)=false by simp [c2]]
  refine ⟨_,_,_,_,_,_,Zae tabE,se1,fun w FP=>?_,?_⟩
  ·simp [-Zac,Zab,Zaa,Base.ev,SX.ev,evs,Value.oneCell',binPV,c1,c2]
  ·simp [evs,SX.ev]
 by_cases c3:a3=b3
 rotate_left
 ·rw [show decide ((⟨a1,a2,a3,a4,a5,a6,a7,a8⟩:AskM)=⟨b1,b2,b3,b4,b5,b6,b7,b8⟩)=false by simp [c3]]
  refine ⟨_,_,_,_,_,_,Zae tabE,se2,fun w FP=>?_,?_⟩
  ·simp [-Zac,Zab,Zaa,Base.ev,SX.ev,evs,Value.oneCell',binPV,c1,c2,c3]
  ·simp [evs,SX.ev]
 by_cases c4:a4=b4
 rotate_left
 ·rw [show decide ((⟨a1,a2,a3,a4,a5,a6,a7,a8⟩:AskM)=⟨b1,b2,b3,b4,b5,b6,b7,b8⟩)=false by simp [c4]]
  refine ⟨_,_,_,_,_,_,Zae tabE,se3,fun w FP=>?_,?_⟩
  ·simp [-Zac,Zab,Zaa,Base.ev,SX.ev,evs,Value.oneCell',binPV,c1,c2,c3,c4]
  ·simp [evs,SX.ev]
 by_cases c5:a5=b5
 rotate_left
 ·rw [show decide ((⟨a1,a2,a3,a4,a5,a6,a7,a8⟩:AskM)=⟨b1,b2,b3,b4,b5,b6,b7,b8⟩)=false by simp [c5]]
  refine ⟨_,_,_,_,_,_,Zae tabE,se4,fun w FP=>?_,?_⟩
  ·have c9:¬ a5.toList=b5.toList:=fun h=>c5 (tl_injW h)
   simp [-Zac,Zab,Zaa,Base.ev,SX.ev,evs,Value.oneCell',binPV,c1,c2,c3,c4,c9]
  ·simp [evs,SX.ev]
 by_cases c6:a6=b6
 rotate_left
 ·rw [show decide ((⟨a1,a2,a3,a4,a5,a6,a7,a8⟩:AskM)=⟨b1,b2,b3,b4,b5,b6,b7,b8⟩)=false by simp [c6]]
  refine ⟨_,_,_,_,_,_,Zae tabE,se5,fun w FP=>?_,?_⟩
  ·simp [-Zac,Zab,Zaa,Base.ev,SX.ev,evs,Value.oneCell',binPV,c1,c2,c3,c4,c5,c6]
  ·simp [evs,SX.ev]
 by_cases c7:a7=b7
 rotate_left
 ·rw [show decide ((⟨a1,a2,a3,a4,a5,a6,a7,a8⟩:AskM)=⟨b1,b2,b3,b4,b5,b6,b7,b8⟩)=false by simp [c7]]
  refine ⟨_,_,_,_,_,_,Zae tabE,se6,fun w FP=>?_,?_⟩
  ·simp [-Zac,Zab,Zaa,Base.ev,SX.ev,evs,Value.oneCell',binPV,c1,c2,c3,c4,c5,c6,c7]
  ·simp [evs,SX.ev]
 by_cases c8:a8=b8
 ·rw [show decide ((⟨a1,a2,a3,a4,a5,a6,a7,a8⟩:AskM)=⟨b1,b2,b3,b4,b5,b6,b7,b8⟩)=true by simp [c1,c2,c3,c4,c5,c6,c7,c8]]
  rw [decide_eq_true c8] at g1
  refine ⟨_,_,_,_,_,_,Zae tabE,se8,fun w FP=>?_,?_⟩
  ·simp [-Zac,Zab,Zaa,Base.ev,SX.ev,evs,Value.oneCell',binPV,c1,c2,c3,c4,c5,c6,c7,g1,meq.x1]
  ·simp [evs,SX.ev]
 ·rw [show decide ((⟨a1,a2,a3,a4,a5,a6,a7,a8⟩:AskM)=⟨b1,b2,b3,b4,b5,b6,b7,b8⟩)=false by simp [c8]]
  rw [decide_eq_false c8] at g1
  refine ⟨_,_,_,_,_,_,Zae tabE,se7,fun w FP=>?_,?_⟩
  ·simp [-Zac,Zab,Zaa,Base.ev,SX.ev,evs,Value.oneCell',binPV,c1,c2,c3,c4,c5,c6,c7,g1,meq.x1]
  ·simp [evs,SX.ev]
end Go.Proofs.Ytnomiffghidmbaa.meq
