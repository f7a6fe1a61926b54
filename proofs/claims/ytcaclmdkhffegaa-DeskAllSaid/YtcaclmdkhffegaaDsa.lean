/- Law 15's same, where both are one. -/
import Derived.Test.YtcaclmdkhffegaaLec
namespace Go.Proofs.Ytcaclmdkhffegaa.dsa
open Go Go.RowKit eng SX Fact fil lem lea lec
set_option linter.unusedVariables false
set_option linter.unusedSimpArgs false
set_option maxRecDepth 1000000
def ESa (k:Nat):FnE:={ k:=k,ins:=[none,none],leaks:=[false,false],outs:=[none],kinds:=[.truth] }
noncomputable def flG:=flat (Zaw Try.prog 19)
noncomputable def lpG:=flat (Zai (nth flG 4))
def shG:Shape:=⟨[(0,.leaf),(1,.leaf)],[],[some false,some false],26,19⟩
def shGl:Shape:=⟨[(0,.leaf),(1,.leaf),(5,.leaf)],[],[some false,some false,none],26,19⟩
def shGR:Shape:=⟨[(4,.leaf)],[],[none],26,19⟩
@[simp] def zDsa1:SX:=.bin .lss (.var 2) (.len (.var 0))
@[simp] def zDsa2:SX:=.bin .add (.var 2) (.con (.int .i64 1))
@[simp] def zDsa3:SX:=.bin .neq (.cell (.var 0) (.var 2) 1 0) (.cell (.var 1) (.var 2) 1 0)
theorem preG:segTo Try.prog fil.noOrc 10000 (flG.take 4) shG [0] shGl []=some (.normal,[.ok (.len (.var 0)),.ok (.len (.var 1)),.ok (.bin .neq (.len (.var 0)) (.len (.var 1))),.is (.bin .neq (.len (.var 0)) (.len (.var 1))) (.bool false),.ok (.con (.int .i64 0))],[.var 0,.var 1,.con (.int .i64 0)]):=by kernel_rfl
theorem exG:segTo Try.prog fil.noOrc 10000 lpG shGl [0] shGl []=some (.exit 0,[.ok (.len (.var 0)),.ok zDsa1,.is zDsa1 (.bool false),.ok (.var 2)],[.var 0,.var 1,.var 2]):=by kernel_rfl
theorem onG:segTo Try.prog fil.noOrc 10000 lpG shGl [1,0] shGl []=some (.normal,[.ok (.len (.var 0)),.ok zDsa1,.is zDsa1 (.bool true),.idx (.var 0) (.var 2) 1 1,.idx (.var 0) (.var 2) 1 1,.ok (.cell (.var 0) (.var 2) 1 0),.idx (.var 1) (.var 2) 1 1,.idx (.var 1) (.var 2) 1 1,.ok (.cell (.var 1) (.var 2) 1 0),.ok zDsa3,.is zDsa3 (.bool false),.ok zDsa2,.ok zDsa2],[.var 0,.var 1,zDsa2]):=by kernel_rfl
theorem postG:segTo Try.prog fil.noOrc 10000 (flG.drop 5) shGl [] shGR []=some (.ret,[.ok (.con (.bool true))],[.con (.bool true)]):=by kernel_rfl
@[simp] theorem kSa (k:Nat):(ESa k).k=k:=rfl
def RSa (ps qs:List PV):Prop:=∃ l:List Int,l.length<=1000000/\ps=[pRow encN l,pRow encN l]/\qs=[pB true]
theorem fSa:∀ ps q1 q2,RSa ps q1->RSa ps q2->q1=q2:=by
 rintro ps q1 q2 ⟨l,_,rfl,rfl⟩ ⟨l',_,h,rfl⟩;rfl
theorem cellNg (l:List Int) (i:Nat) (h:i < l.length):Zbr (pRow encN l) (pI (i:Int)) 1 0=some (pI l[i]):=by
 rw [Zbx encN l i .i64 1 0 rfl h,Zc1 encN l i 0 _ (List.getElem?_eq_getElem h) (by decide)];rfl
theorem cutG:flG=flG.take 4++.block (Zah (nth flG 4)) (.loop (Zai (nth flG 4))) :: flG.drop 5:=by kernel_rfl
set_option maxHeartbeats 1000000 in
theorem toldSa (k:Nat):ToldF 19 (ESa k) (spec RSa):=by
 refine Zca (fun _ _=>none) _ (Zaw Try.prog 19) Try.func19 (by kernel_rfl) shG (by kernel_rfl) ?_ ?_
 ·intro ps qs h
  obtain ⟨l,_,rfl,rfl⟩:=Zak h
  exact Zbp rfl
 ·intro C ps qs hF h a w hsh
  obtain ⟨l,hl,rfl,rfl⟩:=Zak h
  show wpL Try.prog flG _ a w
  rw [cutG]
  refine Zad names_ok mixed_ok fil.noOrc_ok preG hsh ?_ ?_
  ·simp [Zab,Zaa,Base.ev,SX.ev,evs,Value.oneCell',lenN,binPV]
  intro qs a1 w1 hq h1
  refine ⟨fun _=>?_,fun h=>absurd rfl h⟩
  simp [evs,SX.ev] at hq
  subst hq
  refine Zap (fun n a w=>∃ i,i<=l.length/\n=l.length - i/\Zaf C shGl [pRow encN l,pRow encN l,pI (i:Int)] a w) ?_ (n:=l.length) ⟨0,by omega,by omega,h1⟩
  rintro n a w ⟨i,hi,rfl,hin⟩
  show wpL Try.prog lpG _ a w
  rw [<- List.append_nil lpG]
  by_cases hlt:i < l.length
  ·have c0':=cellNg l i hlt
   have ix:=Zal encN l i 1 1 .i64 rfl hlt (by decide)
   have v3:IntKind.i64.wrap ((i:Int)+1)=(i:Int)+1:=wrapI _ (by omega) (by omega)
   refine Zad names_ok mixed_ok fil.noOrc_ok onG hin ?_ ?_
   ·simp [Zab,Zaa,Base.ev,SX.ev,evs,Value.oneCell',lenN,binPV,c0',ix,v3,hlt]
   ·intro qs a1 w1 hq h1
    refine ⟨fun _=>.inl ⟨rfl,l.length - (i+1),by omega,i+1,by omega,rfl,?_⟩,fun h=>absurd rfl h⟩
    simp [evs,SX.ev,binPV,v3] at hq
    subst hq
    exact h1
  ·have hie:i=l.length:=by omega
   subst hie
   refine Zad names_ok mixed_ok fil.noOrc_ok exG hin ?_ ?_
   ·simp [Zab,Zaa,Base.ev,SX.ev,evs,Value.oneCell',lenN,binPV]
   ·intro qs a1 w1 hq h1
    refine ⟨nofun,fun _=>.inr (.inl ⟨by rw [show Zah (nth flG 4)=0 by kernel_rfl];rfl,?_⟩)⟩
    rw [<- List.append_nil (flG.drop 5)]
    simp [evs,SX.ev] at hq
    subst hq
    refine Zad names_ok mixed_ok fil.noOrc_ok postG h1 ?_ ?_
    ·simp [Zab,Zaa,Base.ev,SX.ev,evs,Value.oneCell',lenN]
    intro qs a2 w2 hq h2
    refine ⟨nofun,fun _=>⟨.inr rfl,shGR,qs,[SX.var 0],h2,by kernel_rfl,?_⟩⟩
    simp [evs,SX.ev] at hq ⊢
    subst hq
    rfl
end Go.Proofs.Ytcaclmdkhffegaa.dsa
