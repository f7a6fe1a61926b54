/- Texts that are alike: the document's SameTexts, told. -/
import Derived.Test.YtefkakjegdjojaaGreatIeq
namespace Go.Proofs.YtefkakjegdjojaaGreat.ist
open Go Go.RowKit eng SX Fact fil ima symD idf ise sta ieq
open fileFronts (Zae)
set_option linter.unusedVariables false
set_option linter.unusedSimpArgs false
set_option maxRecDepth 1000000

noncomputable def flQ:=flat (Zar Tryz.prog 17)
noncomputable def lpQ:=flat (Zak (nth flQ 4))
def shQ:Shape:=⟨[(0,.leaf),(1,.leaf)],[],[some false,some false],26,17⟩
def shQl:Shape:=⟨[(0,.leaf),(1,.leaf),(5,.leaf)],[],[some false,some false,none],26,17⟩
def shQR:Shape:=⟨[(4,.leaf)],[],[none],26,17⟩
@[simp] def Zpf:SX:=.bin .neq (.cell (.var 0) (.var 2) 1 0) (.cell (.var 1) (.var 2) 1 0)
@[simp] def Zi8:SX:=.bin .lss (.var 2) (.len (.var 0))
@[simp] def Zpe:SX:=.bin .neq (.len (.var 0)) (.len (.var 1))
@[simp] def Zsm:SX:=.bin .add (.var 2) (.con (.int .i64 1))
theorem Qpre:segTo Tryz.prog fil.noOrc 10000 (flQ.take 4) shQ [0] shQl []=some (.normal,[.ok (.len (.var 0)),.ok (.len (.var 1)),.ok Zpe,.is Zpe (.bool false),.ok (.con (.int .i64 0))],[.var 0,.var 1,.con (.int .i64 0)]):=by kernel_rfl
theorem Qno:segTo Tryz.prog fil.noOrc 10000 (flQ.take 4) shQ [1] shQR []=some (.ret,[.ok (.len (.var 0)),.ok (.len (.var 1)),.ok Zpe,.is Zpe (.bool true),.ok (.con (.bool false))],[.con (.bool false)]):=by kernel_rfl
theorem Qex:segTo Tryz.prog fil.noOrc 10000 lpQ shQl [0] shQl []=some (.exit 0,[.ok (.len (.var 0)),.ok Zi8,.is Zi8 (.bool false),.ok (.var 2)],[.var 0,.var 1,.var 2]):=by kernel_rfl
theorem Qgo:segTo Tryz.prog fil.noOrc 10000 lpQ shQl [1,0] shQl []=some (.normal,[.ok (.len (.var 0)),.ok Zi8,.is Zi8 (.bool true),.idx (.var 0) (.var 2) 1 1,.idx (.var 0) (.var 2) 1 1,.ok (.cell (.var 0) (.var 2) 1 0),.idx (.var 1) (.var 2) 1 1,.idx (.var 1) (.var 2) 1 1,.ok (.cell (.var 1) (.var 2) 1 0),.ok Zpf,.is Zpf (.bool false),.ok Zsm,.ok Zsm],[.var 0,.var 1,Zsm]):=by kernel_rfl
theorem Qne:segTo Tryz.prog fil.noOrc 10000 lpQ shQl [1,1] shQR []=some (.ret,[.ok (.len (.var 0)),.ok Zi8,.is Zi8 (.bool true),.idx (.var 0) (.var 2) 1 1,.idx (.var 0) (.var 2) 1 1,.ok (.cell (.var 0) (.var 2) 1 0),.idx (.var 1) (.var 2) 1 1,.idx (.var 1) (.var 2) 1 1,.ok (.cell (.var 1) (.var 2) 1 0),.ok Zpf,.is Zpf (.bool true),.ok (.con (.bool false))],[.con (.bool false)]):=by kernel_rfl
theorem Qpost:segTo Tryz.prog fil.noOrc 10000 (flQ.drop 5) shQl [] shQR []=some (.ret,[.ok (.con (.bool true))],[.con (.bool true)]):=by kernel_rfl

theorem cutT:ist.flQ=ist.flQ.take 4++.block (Zao (nth ist.flQ 4)) (.loop (Zak (nth ist.flQ 4))) :: ist.flQ.drop 5:=by kernel_rfl
set_option maxHeartbeats 1000000 in
theorem toldSt5 (k:Nat):ToldF 17 (ESq k) (spec RSq):=by
 refine Zek (fun _ _=>none) _ (Zar Tryz.prog 17) Tryz.func17 (by kernel_rfl) ist.shQ (by kernel_rfl) ?_ ?_
 ·intro ps qs h
  obtain ⟨xs,ys,_,_,rfl,rfl⟩:=Zaj h
  exact Zbd rfl
 ·intro C ps qs hF h a w hsh
  obtain ⟨xs,ys,hx,hy,rfl,rfl⟩:=Zaj h
  show wpL Tryz.prog ist.flQ _ a w
  rw [cutT]
  by_cases hl:xs.length=ys.length
  ·have hl':(xs.length:Int)=(ys.length:Int):=by omega
   refine Zag Zad Zac fil.noOrc_ok ist.Qpre hsh ?_ ?_
   ·simp [Zab,Zaa,Base.ev,SX.ev,evs,Value.oneCell',Zaf,binPV,hl']
   intro qs a1 w1 hq h1
   refine ⟨fun _=>?_,fun h=>absurd rfl h⟩
   simp [evs,SX.ev,Zaf] at hq
   subst hq
   refine Zau (fun q a w=>∃ i:Nat,i<=xs.length/\q=xs.length - i/\(∀ j (h1:j < xs.length) (h2:j < ys.length),j < i->xs[j]=ys[j])/\Zah C ist.shQl [pRow encS xs,pRow encS ys,pI (i:Int)] a w) ?_ (n:=xs.length) ⟨0,by omega,by omega,fun j _ _ h=>absurd h (by omega),h1⟩
   rintro q a w ⟨i,hi,rfl,hb,hin⟩
   show wpL Tryz.prog ist.lpQ _ a w
   rw [<- List.append_nil ist.lpQ]
   by_cases hlt:i < xs.length
   ·have hlt2:i < ys.length:=by omega
    have c0:=cellS xs i hlt
    have d0:=cellS ys i hlt2
    have ix:=Zaq encS xs i 1 1 .i64 rfl hlt (by decide)
    have iy:=Zaq encS ys i 1 1 .i64 rfl hlt2 (by decide)
    have v3:IntKind.i64.wrap ((i:Int)+1)=(i:Int)+1:=wrapI _ (by omega) (by omega)
    by_cases he:xs[i]=ys[i]
    ·have hnx:∀ j (h1:j < xs.length) (h2:j < ys.length),j < i+1->xs[j]=ys[j]:=fun j h1 h2 h3=>by
      by_cases hj:j=i
      ·subst hj;exact he
      ·exact hb j h1 h2 (by omega)
     clear hb
     refine Zag Zad Zac fil.noOrc_ok ist.Qgo hin ?_ (fun qs a1 w1 hq h1=>⟨fun _=>.inl ⟨rfl,xs.length - (i+1),by omega,i+1,by omega,rfl,hnx,by simp [evs,SX.ev,binPV,v3] at hq;subst hq;exact h1⟩,fun h=>absurd rfl h⟩)
     simp [-Zae,Zab,Zaa,Base.ev,SX.ev,evs,Value.oneCell',binPV,Zaf,v3,c0,d0,ix,iy,hlt,he]
    ·have he2:¬ xs[i].toList=ys[i].toList:=fun e=>he (Zrt e)
     have hQ:sameL xs ys=false:=Znr fun h=>he (by subst h;rfl)
     rw [hQ] at *
     clear hb he
     refine Zag Zad Zac fil.noOrc_ok ist.Qne hin ?_ ?_
     ·simp [-Zae,Zab,Zaa,Base.ev,SX.ev,evs,Value.oneCell',binPV,Zaf,v3,c0,d0,ix,iy,hlt,he2]
     ·intro qs a1 w1 hq h1
      exact ⟨nofun,fun _=>.inr (.inr ⟨rfl,.inr rfl,ist.shQR,qs,[SX.var 0],h1,by kernel_rfl,by simp [evs,SX.ev] at hq ⊢;subst hq;rfl⟩)⟩
   ·have hie:i=xs.length:=by omega
    subst hie
    have hQ:sameL xs ys=true:=Zls (List.ext_getElem hl fun j h1 h2=>hb j h1 h2 h1)
    rw [hQ] at *
    refine Zag Zad Zac fil.noOrc_ok ist.Qex hin ?_ ?_
    ·simp [Zab,Zaa,Base.ev,SX.ev,evs,Value.oneCell',Zaf,binPV]
    ·intro qs a1 w1 hq h1
     refine ⟨nofun,fun _=>.inr (.inl ⟨by rw [show Zao (nth ist.flQ 4)=0 by kernel_rfl];rfl,?_⟩)⟩
     simp [evs,SX.ev] at hq
     subst hq
     rw [<- List.append_nil (ist.flQ.drop 5)]
     refine Zag Zad Zac fil.noOrc_ok ist.Qpost h1 ?_ (fun qs a1 w1 hq h1=>⟨nofun,fun _=>⟨.inr rfl,ist.shQR,_,[SX.var 0],h1,by kernel_rfl,by simp [evs,SX.ev] at hq;subst hq;rfl⟩⟩)
     simp [Zab,Zaa,Base.ev,SX.ev,evs,Value.oneCell',Zaf]
  ·have hl':¬ (xs.length:Int)=(ys.length:Int):=by omega
   have hQ:sameL xs ys=false:=Znr fun h=>hl (by rw [h])
   rw [hQ] at *
   refine Zag Zad Zac fil.noOrc_ok ist.Qno hsh ?_ ?_
   ·simp [Zab,Zaa,Base.ev,SX.ev,evs,Value.oneCell',Zaf,binPV,hl,hl']
   ·intro qs a1 w1 hq h1
    exact ⟨nofun,fun _=>⟨.inr rfl,ist.shQR,_,[SX.var 0],h1,by kernel_rfl,by simp [evs,SX.ev] at hq;subst hq;rfl⟩⟩


end Go.Proofs.YtefkakjegdjojaaGreat.ist
